import PyProof.Rows.All
import Wide.All
import OpenK.AllK
import Wide.FinOn
import HandS.ForMost
import HandS.Gcd
import HandS.Wide
import HandS.IsInst
import HandS.Style
import HandS.Zip
import HandS.Evl
import HandS.ExcInit
import HandS.ExcOwn
import HandS.ExcField
import HandS.WordsExc
import HandS.StrMore
import HandS.Sort
import HandS.DictComp
import HandS.TupMul
import HandS.Walk
import HandS.Conv
import HandS.Flow
import HandS.RaiseMore
import HandS.Deep
import HandS.List
import HandS.Rev
import HandS.TryOnly
import HandS.Lambda
import KE.GoesMore
import KE.GoesEnum
import KE.KDictZip
import KE.KDictItemsList
import KE.KNestM
import KE.KExcInit
import PyProof.ExcBaseAll.LookupError
import PyProof.ListNew
import PyProof.ReprRoads
import PyProof.RowDictHeap
import PyProof.ReprBulk
import PyProof.OldK
import PySem.Challenge.RW_eitherbarter_k35_whole_scripts
set_option Elab.async false
set_option linter.all false
set_option maxRecDepth 100000
set_option maxHeartbeats 4000000
namespace My
open PySem PySem.Spec PyProof.Rows L2
/-! ### rules of my own -/
/-- // by any divisor but 0, below 2 ^ 9000 in size -/
def CDivX (_ j : Int) : Prop := j ≠ 0 ∧ j.natAbs.log2 < 9000
section
variable {X : Cx}
theorem op_fdivX : OpR X (binaryOp .FloorDiv) (rI CDivX fun i j => .int (i.fdiv j)) := opI fun _ _ _ _ _ _ _ hc q =>
  floordiv_int hc.1 q (.inl (PyProof.noPylong_of_log2 hc.2))
def rReprB : List V → Hp → VK → Prop := fun xs H Q => ∃ b : Bool, xs = [.bl b] ∧ Q (.str (if b then "True" else "False")) H
theorem call_repr_bl : CallR X (.builtin "repr") rReprB := by
  intro pins s σ H xs us Q I r h
  obtain ⟨b, rfl, q⟩ := h
  obtain ⟨u, rfl, r1⟩ := vals1 r
  cases (show u = Value.bool b from r1)
  exact PySem.P.repr_of_bool ⟨.str _, H, I.tok _, ⟨_, rfl⟩, q⟩
end
theorem iteD {p : Prop} [Decidable p] {A B : Prop} (h1 : p → A) (h2 : ¬ p → B) : if decide p = true then A else B := by
  by_cases h : p
  · rw [decide_eq_true h]; exact iteT (h1 h)
  · rw [decide_eq_false h]; exact iteF (h2 h)
theorem iteN {p : Prop} [Decidable p] {A B : Prop} (h1 : ¬ p → A) (h2 : p → B) : if (!decide p) = true then A else B := by
  by_cases h : p
  · rw [decide_eq_true h]; exact iteF (h2 h)
  · rw [decide_eq_false h]; exact iteT (h1 h)
/-- a while whose test leaves the heap as it is -/
theorem while_b {c : TT} {tb : TS} {D : Ends} {σ : L2.St} {H : Hp} (Pv : L2.St → Hp → Prop) (μ : L2.St → Hp → Nat) (h0 : Pv σ H)
    (hs : ∀ σ H, Pv σ H → ∃ b, (∀ Q : Bool → Hp → Prop, Q b H → c σ H Q) ∧
      (if b = true then tb { D with nx := fun σ' H' => Pv σ' H' ∧ μ σ' H' < μ σ H, ct := fun σ' H' => Pv σ' H' ∧ μ σ' H' < μ σ H, bk := D.nx } σ H else D.nx σ H)) : tWhile c tb D σ H := by
  refine ⟨fun m σ H => m = μ σ H ∧ Pv σ H, ⟨_, rfl, h0⟩, ?_⟩
  rintro m σ H ⟨rfl, p⟩
  obtain ⟨b, hc, ht⟩ := hs σ H p
  refine hc _ ?_
  cases b with
  | true =>
    rw [if_pos rfl] at ht
    exact ⟨_, fun σ' H' ⟨p', l⟩ => ⟨_, l, rfl, p'⟩, ht⟩
  | false =>
    rw [if_neg Bool.false_ne_true] at ht
    exact ht
theorem same_new {H : Hp} {p : Addr} (h : H p = none) (o : HO) : Same H (upd H p o) := fun b u q => by rw [upd_ne (ne_of_none q h)]; exact q
theorem small {n : Nat} (h : n ≤ 1000) : n ≤ sizeLine := Nat.le_of_lt (small1000 h)
/-! ### the source of draws: a dict at s, the cells' list at c -/
def srcD (c : Addr) (l m t : Int) : List (Key × V) := [(.inr "cells", .ref c), (.inr "left", .int l), (.inr "mixed", .int m), (.inr "turn", .int t)]
structure SrcL (H : Hp) (s c : Addr) (l m t : Int) (ns : List Int) : Prop where
  hs : H s = some (.dK (srcD c l m t))
  hc : H c = some (.lst (ns.map V.int))
  l0 : 0 ≤ l
  m0 : 0 ≤ m
  m1 : m < 4294967296
  t0 : 0 ≤ t
  n0 : ∀ n ∈ ns, 0 ≤ n
  len : ns.length ≤ 63
def Src (H : Hp) (s c : Addr) : Prop := ∃ l m t ns, SrcL H s c l m t ns
theorem k_cl : ¬ ((Sum.inr "cells" : Key) = (Sum.inr "left" : Key)) := by decide +kernel
theorem k_cm : ¬ ((Sum.inr "cells" : Key) = (Sum.inr "mixed" : Key)) := by decide +kernel
theorem k_ct : ¬ ((Sum.inr "cells" : Key) = (Sum.inr "turn" : Key)) := by decide +kernel
theorem k_lm : ¬ ((Sum.inr "left" : Key) = (Sum.inr "mixed" : Key)) := by decide +kernel
theorem k_lt : ¬ ((Sum.inr "left" : Key) = (Sum.inr "turn" : Key)) := by decide +kernel
theorem k_mt : ¬ ((Sum.inr "mixed" : Key) = (Sum.inr "turn" : Key)) := by decide +kernel
theorem get_cells (c : Addr) (l m t : Int) : valV (srcD c l m t) (Sum.inr "cells") = some (.ref c) := valV_pos rfl
theorem get_left (c : Addr) (l m t : Int) : valV (srcD c l m t) (Sum.inr "left") = some (.int l) := by
  unfold srcD; rw [valV_neg k_cl, valV_pos rfl]
theorem get_mixed (c : Addr) (l m t : Int) : valV (srcD c l m t) (Sum.inr "mixed") = some (.int m) := by
  unfold srcD; rw [valV_neg k_cm, valV_neg k_lm, valV_pos rfl]
theorem get_turn (c : Addr) (l m t : Int) : valV (srcD c l m t) (Sum.inr "turn") = some (.int t) := by
  unfold srcD; rw [valV_neg k_ct, valV_neg k_lt, valV_neg k_mt, valV_pos rfl]
theorem put_there {kvs : List (Key × V)} {k : Key} {u : V} (v : V) (h : valV kvs k = some u) : putK kvs k v = kvs.map (fun kv => if kv.1 = k then (kv.1, v) else kv) := by
  unfold putK
  rw [valV_any, h]
  exact if_pos rfl
theorem put_left (c : Addr) (l m t v : Int) : putK (srcD c l m t) (Sum.inr "left") (.int v) = srcD c v m t := by
  rw [put_there _ (get_left c l m t)]
  show [if (Sum.inr "cells" : Key) = (Sum.inr "left" : Key) then ((Sum.inr "cells" : Key), V.int v) else (Sum.inr "cells", V.ref c), if (Sum.inr "left" : Key) = (Sum.inr "left" : Key) then ((Sum.inr "left" : Key), V.int v) else (Sum.inr "left", V.int l),
    if (Sum.inr "mixed" : Key) = (Sum.inr "left" : Key) then ((Sum.inr "mixed" : Key), V.int v) else (Sum.inr "mixed", V.int m), if (Sum.inr "turn" : Key) = (Sum.inr "left" : Key) then ((Sum.inr "turn" : Key), V.int v) else (Sum.inr "turn", V.int t)] = _
  rw [if_neg k_cl, if_pos rfl, if_neg (Ne.symm k_lm), if_neg (Ne.symm k_lt)]
  rfl
theorem put_mixed (c : Addr) (l m t v : Int) : putK (srcD c l m t) (Sum.inr "mixed") (.int v) = srcD c l v t := by
  rw [put_there _ (get_mixed c l m t)]
  show [if (Sum.inr "cells" : Key) = (Sum.inr "mixed" : Key) then ((Sum.inr "cells" : Key), V.int v) else (Sum.inr "cells", V.ref c), if (Sum.inr "left" : Key) = (Sum.inr "mixed" : Key) then ((Sum.inr "left" : Key), V.int v) else (Sum.inr "left", V.int l),
    if (Sum.inr "mixed" : Key) = (Sum.inr "mixed" : Key) then ((Sum.inr "mixed" : Key), V.int v) else (Sum.inr "mixed", V.int m), if (Sum.inr "turn" : Key) = (Sum.inr "mixed" : Key) then ((Sum.inr "turn" : Key), V.int v) else (Sum.inr "turn", V.int t)] = _
  rw [if_neg k_cm, if_neg k_lm, if_pos rfl, if_neg (Ne.symm k_mt)]
  rfl
theorem put_turn (c : Addr) (l m t v : Int) : putK (srcD c l m t) (Sum.inr "turn") (.int v) = srcD c l m v := by
  rw [put_there _ (get_turn c l m t)]
  show [if (Sum.inr "cells" : Key) = (Sum.inr "turn" : Key) then ((Sum.inr "cells" : Key), V.int v) else (Sum.inr "cells", V.ref c), if (Sum.inr "left" : Key) = (Sum.inr "turn" : Key) then ((Sum.inr "left" : Key), V.int v) else (Sum.inr "left", V.int l),
    if (Sum.inr "mixed" : Key) = (Sum.inr "turn" : Key) then ((Sum.inr "mixed" : Key), V.int v) else (Sum.inr "mixed", V.int m), if (Sum.inr "turn" : Key) = (Sum.inr "turn" : Key) then ((Sum.inr "turn" : Key), V.int v) else (Sum.inr "turn", V.int t)] = _
  rw [if_neg k_ct, if_neg k_lt, if_neg k_mt, if_pos rfl]
  rfl
theorem srcD_made (c : Addr) (m : Int) : mergeK [] (srcD c 1 m 0) = srcD c 1 m 0 := by
  have p1 : putK ([] : List (Key × V)) (Sum.inr "cells" : Key) (V.ref c) = [((Sum.inr "cells" : Key), V.ref c)] := by rw [putK_new _ valV_nil]; rfl
  have p2 : putK ([((Sum.inr "cells" : Key), V.ref c)] : List (Key × V)) (Sum.inr "left" : Key) (V.int 1) = [((Sum.inr "cells" : Key), V.ref c), ((Sum.inr "left" : Key), V.int 1)] := by
    rw [putK_new _ (by rw [valV_neg k_cl, valV_nil])]; rfl
  have p3 : putK ([((Sum.inr "cells" : Key), V.ref c), ((Sum.inr "left" : Key), V.int 1)] : List (Key × V)) (Sum.inr "mixed" : Key) (V.int m) = [((Sum.inr "cells" : Key), V.ref c), ((Sum.inr "left" : Key), V.int 1), ((Sum.inr "mixed" : Key), V.int m)] := by
    rw [putK_new _ (by rw [valV_neg k_cm, valV_neg k_lm, valV_nil])]; rfl
  have p4 : putK ([((Sum.inr "cells" : Key), V.ref c), ((Sum.inr "left" : Key), V.int 1), ((Sum.inr "mixed" : Key), V.int m)] : List (Key × V)) (Sum.inr "turn" : Key) (V.int 0) = srcD c 1 m 0 := by
    rw [putK_new _ (by rw [valV_neg k_ct, valV_neg k_lt, valV_neg k_mt, valV_nil])]; rfl
  show putK (putK (putK (putK [] (Sum.inr "cells" : Key) (V.ref c)) (Sum.inr "left" : Key) (V.int 1)) (Sum.inr "mixed" : Key) (V.int m)) (Sum.inr "turn" : Key) (V.int 0) = srcD c 1 m 0
  rw [p1, p2, p3, p4]
theorem SrcL.ne {H : Hp} {s c : Addr} {l m t : Int} {ns : List Int} (h : SrcL H s c l m t ns) : s ≠ c := ne_of h.hs h.hc (by intro z; cases z)
/-- all but the source stands as it stood; the source is one -/
structure Go (s c : Addr) (H H' : Hp) : Prop where
  keep : ∀ a o, a ≠ s → a ≠ c → H a = some o → H' a = some o
  src : Src H' s c
theorem Src.ne_tup {H : Hp} {s c a : Addr} {xs : List V} (h : Src H s c) (e : H a = some (.tup xs)) : a ≠ s ∧ a ≠ c := by
  obtain ⟨l, m, t, ns, h⟩ := h
  exact ⟨ne_of e h.hs (by intro z; cases z), ne_of e h.hc (by intro z; cases z)⟩
theorem Src.ne_none {H : Hp} {s c a : Addr} (h : Src H s c) (e : H a = none) : a ≠ s ∧ a ≠ c := by
  obtain ⟨l, m, t, ns, h⟩ := h
  refine ⟨fun q => ?_, fun q => ?_⟩
  · rw [q, h.hs] at e
    cases e
  · rw [q, h.hc] at e
    cases e
theorem Src.same {H H' : Hp} {s c : Addr} (h : Src H s c) (e : Same H H') : Src H' s c := by
  obtain ⟨l, m, t, ns, h⟩ := h
  exact ⟨l, m, t, ns, e _ _ h.hs, e _ _ h.hc, h.l0, h.m0, h.m1, h.t0, h.n0, h.len⟩
theorem Go.refl {H : Hp} {s c : Addr} (h : Src H s c) : Go s c H H := ⟨fun _ _ _ _ e => e, h⟩
theorem Go.of {H H' : Hp} {s c : Addr} (h : Src H s c) (e : Same H H') : Go s c H H' := ⟨fun a o _ _ q => e a o q, h.same e⟩
theorem Go.trans {H H1 H2 : Hp} {s c : Addr} (a : Go s c H H1) (b : Go s c H1 H2) : Go s c H H2 := ⟨fun x o h1 h2 e => b.keep x o h1 h2 (a.keep x o h1 h2 e), b.src⟩
theorem Go.then {H H1 H2 : Hp} {s c : Addr} (a : Go s c H H1) (b : Same H1 H2) : Go s c H H2 := a.trans (.of a.src b)
theorem Go.tup {H H' : Hp} {s c a : Addr} {xs : List V} (g : Go s c H H') (h : Src H s c) (e : H a = some (.tup xs)) : H' a = some (.tup xs) :=
  g.keep _ _ (h.ne_tup e).1 (h.ne_tup e).2 e
theorem Go.lst {H H' : Hp} {s c a : Addr} {xs : List V} (g : Go s c H H') (h : Src H s c) (e : H a = some (.lst xs)) (n : a ≠ c) : H' a = some (.lst xs) := by
  obtain ⟨l, m, t, ns, h⟩ := h
  exact g.keep _ _ (ne_of e h.hs (by intro z; cases z)) n e
theorem Go.free {H H' : Hp} {s c a : Addr} (g : Go s c H H') (e : H' a = none) : H a = none := by
  have n := g.src.ne_none e
  cases q : H a with
  | none => rfl
  | some o =>
    rw [g.keep _ _ n.1 n.2 q] at e
    cases e
/-! ### what the draws promise -/
def spPick : Sp := fun vs H Q _ => ∃ (s c : Addr) (n : Int), vs = [.ref s, .int n] ∧ Src H s c ∧ 1 ≤ n ∧ n < 1000000 ∧
  ∀ (k : Int) (H' : Hp), 0 ≤ k → k < n → Go s c H H' → Q (.int k) H'
def spOf (K : PySem.W.Frag) : Sp := fun vs H Q _ => ∃ (s c a : Addr) (xs : List V), vs = [.ref s, .ref a] ∧ Src H s c ∧ H a = some (.lst xs) ∧ a ≠ c ∧ 1 ≤ xs.length ∧ xs.length < 1000000 ∧
  ∀ (i : Nat) (x : V) (H' : Hp), xs[i]? = some x → Go s c H H' → Q x H'
def spSource (K : PySem.W.Frag) : Sp := fun vs H Q _ => ∃ (a : Addr) (ns : List Int), vs = [.ref a] ∧ SqL K H a (ns.map V.int) ∧ ns.length ≤ 63 ∧
  ∀ (s c : Addr) (H' : Hp), Same H H' → H s = none → H c = none → Src H' s c → Q (.ref s) H'
def spLaw (K : PySem.W.Frag) : Sp := fun vs H Q _ => ∃ (a : Addr) (ns : List Int), vs = [.ref a] ∧ SqL K H a (ns.map V.int) ∧ ns.length ≤ 63 ∧ ∀ H', Q (.bl true) H'
end My
namespace My
open PySem PySem.Spec PyProof.Rows L2
section
variable {X : Cx}
theorem pe_gstr {x : Str} {z : Str} {pos : Pos} (hg : Gl X x) (hm : ∃ t, X.mg x = some (.str z t)) (hd : (x == ("__debug__" : Str)) = false := by decide) : PE X (.Name x pos) (tC (.str z)) := by
  obtain ⟨t, e⟩ := hm
  exact pe_glob hg e ⟨t, rfl⟩ hd
theorem pe_gint {x : Str} {i : Int} {pos : Pos} (hg : Gl X x) (hm : ∃ t, X.mg x = some (.int i t)) (hd : (x == ("__debug__" : Str)) = false := by decide) : PE X (.Name x pos) (tC (.int i)) := by
  obtain ⟨t, e⟩ := hm
  exact pe_glob hg e ⟨t, rfl⟩ hd
end
/-! ### a class of errors with one field, kept by its own __init__ -/
def classBody : Stmt → List Stmt
  | .ClassDef _ _ _ b .. => b
  | _ => []
def initOf (st : Stmt) : Stmt := (classBody st).getD 0 (.Pass ⟨0, 0, 0, 0⟩)
structure OwnE (K : PySem.W.Frag) (mg : Str → Option Value) (x q f : Str) (st : Stmt) where
  C : Addr
  fI : Addr
  fd : FuncData
  oex : OexC K C
  xf : XfC K C
  iC : PySem.W.findIn K (.ref C) "__init__" = some (some (.ref fI))
  tI : PySem.W.typeIn K (.ref fI) = some (.type "function")
  noF : PySem.W.findIn K (.ref C) f = some none
  F : Fun K "__init__" q (initOf st) fI fd
  b : Binds K fd ["self", f] []
  m : mg x = some (.ref C)
  te : PySem.W.exmOne K (.ref C) (.ref C) = some true
/-- an error of the class at C whose field f is v -/
def spInit (C : Addr) (f : Str) : Sp := fun vs H Q _ => ∃ (a : Addr) (v : V), vs = [.ref a, v] ∧ H a = some (exo a C none) ∧
  ∀ dx, H dx = none → dx ≠ a → Q .non (upd (upd H dx (exd dx [(f, v)])) a (exo a C (some dx)))
end My
namespace My
open PySem PySem.Spec PyProof.Rows L2
/-- an error of the class at S is one that «except S» takes -/
theorem exm_own {K : PySem.W.Frag} {S : Addr} (h1 : PySem.W.subIn K (.ref S) (.type "BaseException") = some true) (h2 : PySem.W.isClsIn K S = true) (h3 : PySem.W.typeIn K (.ref S) = some (.type "type")) (h4 : PySem.W.subIn K (.ref S) (.ref S) = some true) : PySem.W.exmOne K (.ref S) (.ref S) = some true := by
  have h2' : (PySem.W.clsIn K S).isSome = true := h2
  unfold PySem.W.exmOne
  unfold PySem.W.kitCls
  simp [h1, h2', h3, h4]
end My
namespace My
open PySem PySem.Spec PyProof.Rows L2
/-! ### zip of two sequences, each a list or a tuple -/
def SqK (k : Bool) (K : PySem.W.Frag) (H : Hp) (a : Addr) (xs : List V) : Prop := match k with
  | true => SqT K H a xs
  | false => SqL K H a xs
def ItK (k : Bool) (h : Heap) (it a : Addr) (i : Nat) : Prop := match k with
  | true => h.IsTupleIter it a i
  | false => h.IsListIter it a i
def HeK (k : Bool) (h : Heap) (a : Addr) (its : Array Value) : Prop := match k with
  | true => h.IsTuple a its
  | false => h.IsList a its
theorem drawK {prog : Program} {w : World} {A : Around} (hh : A.handled = none) (k : Bool) (it l : Addr) (hne : l ≠ it) (items : Array Value) :
    Draws prog w A it [it, l] items.size (fun i v => items[i]? = some v) (fun i h => ItK k h it l i ∧ HeK k h l items) := by
  cases k with
  | true => exact Draws.tuple hh it l hne items
  | false => exact Draws.list hh it l hne items
theorem ItK.to {k : Bool} {h h' : Heap} {it a : Addr} {i : Nat} (x : ItK k h it a i) (q : ∀ o, h.get? it = some o → h'.get? it = some o) : ItK k h' it a i := by
  cases k with
  | true => exact Heap.IsTupleIter.at x q
  | false => exact Heap.IsListIter.at x q
theorem ItK.ob {k : Bool} {h : Heap} {it a : Addr} {i : Nat} (x : ItK k h it a i) : ∃ o, h.get? it = some o ∧ ∀ v, o.data ≠ .cell v := by
  cases k with
  | true => obtain ⟨o, e, _, d⟩ := x; exact ⟨o, e, fun v q => by rw [d] at q; cases q⟩
  | false => obtain ⟨o, e, _, d⟩ := x; exact ⟨o, e, fun v q => by rw [d] at q; cases q⟩
section
variable {X : Cx} {pins : List (Addr × Obj)} {σ : L2.St} {H : Hp} {s : Shared}
theorem readK (I : Inv X pins σ H s) {k : Bool} {a : Addr} {xs : List V} (h : SqK k X.K H a xs) : ∃ its : List Value, Vals xs its ∧ HeK k s.heap a its.toArray ∧ a < s.heap.objs.size := by
  cases k with
  | true =>
    obtain ⟨its, r, p, _⟩ := I.tuple (show SqT X.K H a xs from h)
    obtain ⟨o, e, _⟩ := id p
    exact ⟨its, r, p, Heap.lt_size e⟩
  | false =>
    obtain ⟨its, r, p, _⟩ := I.list (show SqL X.K H a xs from h)
    exact ⟨its, r, p.isList, p.lt⟩
theorem injK (I : Inv X pins σ H s) {k : Bool} {a : Addr} {xs ys : List V} (h : SqK k X.K H a xs) (h' : SqK k X.K H a ys) : xs = ys := by
  cases k with
  | true => exact I.tuple_inj h h'
  | false => exact I.list_inj h h'
end
/-- the sequences at a and b as they stand at each turn -/
def ItzM (k l : Bool) (K : PySem.W.Frag) (a b : Addr) : It :=
  ⟨fun n M => ∃ (p q : List V) (u v : V), SqK k K M a p ∧ SqK l K M b q ∧ p[n]? = some u ∧ q[n]? = some v,
    fun n M y M' => ∃ (C : Addr) (u v : V), y = .ref C ∧ M C = none ∧ M' = upd M C (.tup [u, v]) ∧ (∀ p, SqK k K M a p → p[n]? = some u) ∧ ∀ q, SqK l K M b q → q[n]? = some v,
    fun n M => ∃ p q : List V, SqK k K M a p ∧ SqK l K M b q ∧ (n = p.length ∨ n = q.length) ∧ n ≤ p.length ∧ n ≤ q.length⟩
def ZSt (k l : Bool) (z e f i j a b : Addr) (n : Nat) (h : Heap) : Prop :=
  IsZip h z e f .none ∧ IsTupOf2 h e (.ref i) (.ref j) ∧ (∃ x y, IsTupOf2 h f x y) ∧ ItK k h i a n ∧ ItK l h j b n
theorem zsep {z e f i j a b : Addr} (D : ZipApart z e f i j a b) : ZipSep2 z e f i j [i, a] [j, b] where
  TIz := D.TIz
  TOz := D.TOz
  TITO := D.TITO
  TIi1 := D.TIi1
  mem1 := by simp
  zf1 := by simp [D.i1z.symm, D.l1z.symm]
  Tf1 := by simp [D.TOi1, D.l1TO.symm]
  TIi2 := D.TIi2
  mem2 := by simp
  zf2 := by simp [D.i2z.symm, D.l2z.symm]
  Tf2 := by simp [D.TOi2, D.l2TO.symm]
  sep1_2 := by simp [D.i12, D.l2i1.symm]
  sep2_1 := by simp [D.i12.symm, D.l1i2.symm]
theorem in5 {z e f i j c : Addr} (h : c ∈ [z, e, f, i, j]) : c = z ∨ c = e ∨ c = f ∨ c = i ∨ c = j := by simpa using h
theorem turn_zipM {P : Program} {w : World} {K : PySem.W.Frag} {elts : List Expr} {kk : Nat} {tpos : Pos} {k l : Bool} {a b z e f i j : Addr} (D : ZipApart z e f i j a b) :
    Turn P w K (.Tuple elts kk tpos) (ItzM k l K a b) [z, e, f, i, j] z (ZSt k l z e f i j a b) where
  mem := by simp
  obj := by
    intro n h S c hc
    obtain ⟨S1, S2, ⟨x, y, S3⟩, S4, S5⟩ := S
    rcases in5 hc with rfl | rfl | rfl | rfl | rfl
    · exact ⟨_, S1, fun v q => nomatch q⟩
    · exact ⟨_, S2, fun v q => nomatch q⟩
    · exact ⟨_, S3, fun v q => nomatch q⟩
    · exact S4.ob
    · exact S5.ob
  keep := by
    intro n h h' S q
    obtain ⟨S1, S2, ⟨x, y, S3⟩, S4, S5⟩ := S
    exact ⟨q _ (by simp) _ S1, q _ (by simp) _ S2, ⟨x, y, q _ (by simp) _ S3⟩, S4.to (q _ (by simp)), S5.to (q _ (by simp))⟩
  item := by
    intro X hP hw hK hc n pins s σ M E I fr S go
    subst hP hw hK
    obtain ⟨S1, S2, ⟨x0, y0, S3⟩, S4, S5⟩ := S
    obtain ⟨p, q, u, v, Lp, Lq, eu, ev⟩ := go
    obtain ⟨is, rp, hp, _⟩ := readK I Lp
    obtain ⟨js, rq, hq, _⟩ := readK I Lq
    have lp : n < is.toArray.size := by
      have := (List.getElem?_eq_some_iff.mp eu).1
      have e := rp.length
      rw [List.size_toArray]; omega
    have lq : n < js.toArray.size := by
      have := (List.getElem?_eq_some_iff.mp ev).1
      have e := rq.length
      rw [List.size_toArray]; omega
    have zl : z < s.heap.objs.size := Heap.lt_size S1
    have hd1 : X.A.in1.handled = none := I.ok.hd hc
    refine wpAny_pyNext_zipD2_item (zsep D) (drawK hd1 k i a D.l1i1 is.toArray) (drawK hd1 l j b D.l2i2 js.toArray) S1 S2 S3 ⟨S4, hp⟩ ⟨S5, hq⟩ lp lq ?_
    intro u' v' g tk Pu Pv z2 f2 s4 s5 hT sz kp
    obtain ⟨w1, hw1, r1⟩ := rp.get eu
    obtain ⟨w2, hw2, r2⟩ := rq.get ev
    obtain rfl : u' = w1 := by
      have h1 : is[n]? = some u' := by simpa using Pu
      rw [hw1] at h1; exact (Option.some.inj h1).symm
    obtain rfl : v' = w2 := by
      have h1 : js[n]? = some v' := by simpa using Pv
      rw [hw2] at h1; exact (Option.some.inj h1).symm
    refine ⟨_, rfl, wpAny_letOwnedTupleGo_zip (s := { s with heap := g, toks := tk }) z2 fun g' z3 sb => ?_⟩
    have nz : s.heap.objs.size ≠ z := Nat.ne_of_gt zl
    have hT' : g'.get? s.heap.objs.size = some { cls := .type "tuple", data := .seq #[u', v'] } := (sb.2 _ nz).trans hT
    have ok : ObjOk X.prog X.w (upd M s.heap.objs.size (.tup [u, v])) g' s.heap.objs.size (.tup [u, v]) :=
      ⟨(by show 2 ≤ sizeLine; decide), [u', v'], .cons r1 (.cons r2 .nil), _, hT', rfl, _, rfl⟩
    have J : Inv X pins σ (upd M s.heap.objs.size (.tup [u, v])) { s with heap := g', toks := tk } := by
      refine I.turnedNew (t' := tk) (ch := [z, e, f, i, j]) (fun c o hb q => ?_) fr (Nat.le_refl _) ok
      have nb : c ≠ z ∧ c ≠ e ∧ c ≠ f ∧ c ≠ i ∧ c ≠ j := by simpa using hb
      exact (sb.2 c nb.1).trans (kp c o nb.1 nb.2.2.1 nb.2.2.2.1 nb.2.2.2.2 q)
    refine ⟨.ref s.heap.objs.size, _, J, rfl, ⟨_, u, v, rfl, I.hok.fresh (Nat.le_refl _), rfl, fun p' hp' => ?_, fun q' hq' => ?_⟩, ?_, fun c hcm => ?_⟩
    · rw [injK I hp' Lp]; exact eu
    · rw [injK I hq' Lq]; exact ev
    · refine ⟨z3, (sb.2 _ D.TIz).trans (kp _ _ D.TIz D.TITO D.TIi1 D.TIi2 S2), ⟨_, _, (sb.2 _ D.TOz).trans f2⟩, ?_, ?_⟩
      · exact s4.1.to fun o q => (sb.2 _ D.i1z).trans q
      · exact s5.1.to fun o q => (sb.2 _ D.i2z).trans q
    · have lt : c < s.heap.objs.size := by
        rcases in5 hcm with rfl | rfl | rfl | rfl | rfl
        · exact zl
        · exact Heap.lt_size S2
        · exact Heap.lt_size S3
        · obtain ⟨o, q, _⟩ := S4.ob; exact Heap.lt_size q
        · obtain ⟨o, q, _⟩ := S5.ob; exact Heap.lt_size q
      rw [upd_ne (Nat.ne_of_lt lt)]
      exact (fr c hcm).1
  done := by
    intro X hP hw hK hc n pins s σ M E I fr S stop
    subst hP hw hK
    obtain ⟨S1, S2, ⟨x0, y0, S3⟩, S4, S5⟩ := S
    obtain ⟨p, q, Lp, Lq, en, n1, n2⟩ := stop
    obtain ⟨is, rp, hp, _⟩ := readK I Lp
    obtain ⟨js, rq, hq, _⟩ := readK I Lq
    have ep := rp.length
    have eq := rq.length
    have hd1 : X.A.in1.handled = none := I.ok.hd hc
    refine wpAny_pyNext_zipD2_end (zsep D) (drawK hd1 k i a D.l1i1 is.toArray) (drawK hd1 l j b D.l2i2 js.toArray) S1 S2 S3 ⟨S4, hp⟩ ⟨S5, hq⟩ (by rw [List.size_toArray]; omega) (by rw [List.size_toArray]; omega) (by rw [List.size_toArray, List.size_toArray]; omega) ?_
    intro g tk kp
    refine ⟨rfl, I.turnedL (t' := tk) (ch := [z, e, f, i, j]) (fun c o hb q => ?_) fr⟩
    have nb : c ≠ z ∧ c ≠ e ∧ c ≠ f ∧ c ≠ i ∧ c ≠ j := by simpa using hb
    exact kp c o nb.1 nb.2.2.1 nb.2.2.2.1 nb.2.2.2.2 q
  self := fun A n s Q E S h => wpAny_pyIter_zip S.1 h
theorem beginK (k : Bool) (a : Addr) (its : Array Value) : ∃ o, Begins (.ref a) o (fun h => HeK k h a its) ∧ ∀ (h : Heap) (it : Addr), h.get? it = some o → ItK k h it a 0 := by
  cases k with
  | true => exact ⟨_, begins_tuple a its, fun h it e => ⟨_, e, rfl, rfl⟩⟩
  | false => exact ⟨_, begins_list a its, fun h it e => ⟨_, e, rfl, rfl⟩⟩
def iZipM (K : PySem.W.Frag) (ta : TA) : TI := fun σ M R => ta σ M fun vs M1 => ∃ (k l : Bool) (a b : Addr) (p q : List V), vs = [.ref a, .ref b] ∧ SqK k K M1 a p ∧ SqK l K M1 b q ∧ R (ItzM k l K a b) M1
theorem pi_zipM {X : Cx} {e e2 : Expr} {ta : TA} {p pos tpos : Pos} {elts : List Expr} {kk : Nat} (hg : Gl X "zip") (hm : X.mg "zip" = none) (ha : PA X [e, e2] ta)
    (hs : starEach [e, e2] X.env = (false, eval e X.env) :: starEach [e2] X.env := by rfl) (hpl : (backTo pos (starEach [e2] X.env)).any (·.1) = false := by rfl) :
    PI X (.Tuple elts kk tpos) (.Call (.Name "zip" p) [e, e2] [] pos) (iZipM X.K ta) := by
  refine ⟨fun pins s σ M R I h => Call_ (ld_blt I hg hm PyProof.Rows.boot_zip (PyProof.Rows.callWith_type1 (thn (ha.run pos pins s σ M _ I h) fun us s1 hh => ?_) hs hpl))⟩
  obtain ⟨vs, M1, I1, r1, k, l, a, b, xs, ys, ev, Lx, Ly, q⟩ := hh
  subst ev
  obtain ⟨u1, u2, rfl, e1, e2⟩ := vals2 r1
  cases (show u1 = Value.ref a from e1)
  cases (show u2 = Value.ref b from e2)
  obtain ⟨is, rp, hp, la⟩ := readK I1 Lx
  obtain ⟨js, rq, hq, lb⟩ := readK I1 Ly
  obtain ⟨o1, B1, t1⟩ := beginK k a is.toArray
  obtain ⟨o2, B2, t2⟩ := beginK l b js.toArray
  refine zip_begins2 B1 B2 hp hq fun g z1 z2 z3 g1 g2 sz kp => wpAny_pyIter_zip z1 ?_
  have J : Inv X pins σ M1 { s1 with heap := g } := I1.kept (t' := s1.toks) kp
  refine ⟨s1.heap.objs.size + 4, [s1.heap.objs.size + 4, s1.heap.objs.size + 2, s1.heap.objs.size + 3, s1.heap.objs.size, s1.heap.objs.size + 1], _, _, M1, rfl, J, turn_zipM (PySem.W.ktu_apart s1.heap.objs.size a b la lb), ⟨z1, z2, ⟨_, _, z3⟩, t1 _ _ g1, t2 _ _ g2⟩, fun c hcm => ?_, q⟩
  have le : s1.heap.objs.size ≤ c := by
    rcases in5 hcm with rfl | rfl | rfl | rfl | rfl <;> first | exact Nat.le_add_right _ _ | exact Nat.le_refl _
  exact I1.fpOk le (I1.hok.fresh le)
/-- a loop over zip of two sequences of one length -/
theorem for_zipM {k l : Bool} {K : PySem.W.Frag} {a b : Addr} {p q : List V} {g : TG} {tb : TS} {D : Ends} {σ : L2.St} {M : Hp} (hl : p.length = q.length) (Pv : Nat → L2.St → Hp → Prop) (h0 : Pv 0 σ M) (hq : ∀ n σ M, Pv n σ M → SqK k K M a p ∧ SqK l K M b q)
    (hs : ∀ (n : Nat) (u v : V) (C : Addr) (σ : L2.St) (M : Hp), p[n]? = some u → q[n]? = some v → Pv n σ M → M C = none → g (.ref C) σ (upd M C (.tup [u, v])) fun σ2 M2 => tb { D with nx := Pv (n + 1), ct := Pv (n + 1), bk := D.nx } σ2 M2) (hd : ∀ σ M, Pv p.length σ M → D.nx σ M) :
    ∃ W : Nat → Nat → L2.St → Hp → Prop, (∃ m, W 0 m σ M) ∧ ∀ n m σ M, W n m σ M →
      ((ItzM k l K a b).stop n M ∧ D.nx σ M) ∨ ((ItzM k l K a b).go n M ∧ ∃ N : L2.St → Hp → Prop, (∀ σ' M', N σ' M' → ∃ m', m' < m ∧ W (n + 1) m' σ' M') ∧ ∀ y M', (ItzM k l K a b).yld n M y M' → g y σ M' fun σ2 M2 => tb { D with nx := N, ct := N, bk := D.nx } σ2 M2) := by
  refine ⟨fun n m σ M => m + n = p.length ∧ Pv n σ M, ⟨p.length, by simp, h0⟩, ?_⟩
  rintro n m σ M ⟨em, pv⟩
  obtain ⟨Lp, Lq⟩ := hq n σ M pv
  by_cases c : n < p.length
  · have eu : p[n]? = some p[n] := List.getElem?_eq_getElem c
    have ev : q[n]? = some (q[n]'(by omega)) := List.getElem?_eq_getElem (by omega)
    refine .inr ⟨⟨p, q, _, _, Lp, Lq, eu, ev⟩, Pv (n + 1), fun σ' M' pv' => ⟨m - 1, by omega, by omega, pv'⟩, fun y M' hy => ?_⟩
    obtain ⟨C, u, v, rfl, nC, rfl, f1, f2⟩ := hy
    exact hs n u v C σ M (f1 p Lp) (f2 q Lq) pv nC
  · have e : n = p.length := by omega
    subst e
    exact .inl ⟨⟨p, q, Lp, Lq, .inl rfl, Nat.le_refl _, by omega⟩, hd σ M pv⟩
end My
namespace My
open PySem PySem.Spec PyProof.Rows L2
/-! ### own classes of errors over any built-in one, kept by an __init__ of their own -/
/-- what the written part says of the class at C over the built-in errors of mro B -/
structure OexG (K : PySem.W.Frag) (C : Addr) (newId : String) (B : List Value) : Prop where
  cls : ∃ nm q N bs bm sn sub ab col dd k0 k1 k2 k3 k5, K.lookup C = some (excClassObj nm q C N bs bm true sn sub ab col dd k0 k1 k2 k3 k5 newId) ∧ PySem.W.excTail B bm = true
  sa : PySem.W.findIn K (.ref C) "__setattr__" = some (some (.builtin "object.__setattr__"))
  exC : PySem.W.subIn K (.ref C) (.type "BaseException") = some true
  tyC : PySem.W.typeIn K (.ref C) = some (.type "type")
  kC : PySem.W.keepIn K (.ref C) = true
/-- the mro of LookupError -/
abbrev leM : List Value := [.type "LookupError", .type "Exception", .type "BaseException", .type "object"]
section
variable {prog : Program} {w : World} {A : Around} {R : Result → Shared → Prop} {hp : Heap} {g : Array GenState} {d : Drawn} {t : Nat} {os : OsState} {B : List Value} {b0 : String}
/-- the first store into such an error: its dict is laid -/
theorem osaG {K : PySem.W.Frag} {name : Str} {tk : Tok} {v : Value} {x C : Addr} {fv : Array Value} {cd : ClassData} (SF : StoreFacts b0 B "object.__setattr__" "object")
    (X : K.In hp) (hx : hp.get? x = some { cls := .ref C, data := .fields fv }) (hcd : PySem.W.clsIn K C = some cd) (bm : List Value) (hm : cd.mro = .ref C :: bm) (hb : PySem.W.excTail B bm = true) (hh : cd.hasDict = true) (ha : PySem.W.findIn K (.ref C) name = some none)
    (hq : ∀ h' tk' dx, (∀ b o, b ≠ x → hp.get? b = some o → h'.get? b = some o) → hp.objs.size ≤ dx → dx ≠ x → h'.get? x = some { cls := .ref C, dict := some dx, data := .fields fv } →
      h'.Ns1 dx (fun y => if y = name then some v else none) → R (.ok (.ret .none)) ⟨h', g, d, tk', os⟩) :
    codeAny (model prog w) A (.call (.builtin "object.__setattr__") ⟨[.ref x, .str name tk, v], []⟩) R ⟨hp, g, d, t, os⟩ := by
  have I : PySem.W.InstAt hp x { cls := .ref C, data := .fields fv } C none := ⟨hx, rfl, rfl, trivial⟩
  have hxs : x ≠ hp.objs.size := Nat.ne_of_lt (Heap.lt_size hx)
  have hcls : PySem.W.Looks (model prog w) hp (classData C) cd := PySem.W.looks_clsIn X hcd
  have ov : PySem.W.excOver K C B = true := by
    unfold PySem.W.excOver
    rw [hcd]
    show (match cd.mro with | .ref C' :: bm => C' == C && PySem.W.excTail B bm | _ => false) = true
    rw [hm]
    show ((C == C) && PySem.W.excTail B bm) = true
    rw [hb, beq_self_eq_true]
    rfl
  have tk0 : PySem.W.takerIn K C name = some none := by
    unfold PySem.W.takerIn
    rw [ha]
    rfl
  refine PySem.W.osa_openX (r := none) SF X I ov tk0 fun bb => ?_
  obtain ⟨nm, bs, mro, ns, qn, hd, sn, sb, ab, col, del⟩ := cd
  dsimp only at hh
  subst hh
  show wpAny _ _ (Builtin.ObjectAttr.storeInOwnDict _ _ _ _ _ _) _ _ _
  unfold Builtin.ObjectAttr.storeInOwnDict Builtin.ObjectAttr.ownDictForStores
  repeat (first | with_reducible refine PySem.HandSPX.store_in_new ?_ ?_ | with_reducible refine wpAny_loadPart_at hx ?_ | with_reducible refine hcls.at ?_ | wp_step)
  · exact ⟨_, #[], _, (Heap.get?_update_ne _ _ _ _ hxs.symm).trans (Heap.get?_push_at rfl rfl), rfl, fun e he => absurd he (by simp), fun _ => rfl⟩
  · intro h' tk' hn' hs
    have hx1 : (hp.push { cls := .type "dict", data := .dict #[] }).get? x = some { cls := .ref C, data := .fields fv } := Heap.get?_push_of_some _ hx
    exact hq h' tk' hp.objs.size (fun b o hb ho => (hs.2 b (Nat.ne_of_lt (Heap.lt_size ho))).trans ((Heap.get?_update_ne _ _ _ _ hb).trans (Heap.get?_push_of_some _ ho))) (Nat.le_refl _) hxs.symm ((hs.2 x hxs).trans (Heap.get?_update_self _ hx1 rfl)) hn'
end
end My
namespace My
open PySem PySem.Spec PyProof.Rows L2
section
variable {X : Cx} {pins : List (Addr × Obj)} {σ : L2.St} {H : Hp} {s : Shared} {a C : Addr} {f : Str} {y : V} {u : Value} {A : Around} {newId b0 : String} {B : List Value}
/-- self.f = y, the first one, for errors over any base -/
theorem ostG {Q : Unit → Shared → Prop} {E : Value → Shared → Prop} (SF : StoreFacts b0 B "object.__setattr__" "object") (T : OexG X.K C newId B) (I : Inv X pins σ H s) (ea : H a = some (exo a C none)) (no : PySem.W.findIn X.K (.ref C) f = some none) (ry : RelV y u)
    (k : ∀ dx s', H dx = none → dx ≠ a → Inv X pins σ (L2.upd (L2.upd H dx (exd dx [(f, y)])) a (exo a C (some dx))) s' → Q () s') : wpAny (model X.prog X.w) A (setAttr (.ref a) f u) Q E s := by
  obtain ⟨nm, q, N, bs, bm, sn, sub, ab, col, dd, k0, k1, k2, k3, k5, hC, hb⟩ := T.cls
  have hcl : PySem.W.clsIn X.K C = some { name := nm, bases := bs, mro := .ref C :: bm, ns := N, qualname := q, hasDict := true, slotNames := sn, subclasses := sub, abstract := ab, collection := col, hasDel := false } := by
    unfold PySem.W.clsIn; rw [hC] <;> rfl
  obtain ⟨t1, ho⟩ := exo_at I.hok ea
  obtain ⟨hp, g, d, t, os⟩ := s
  refine PySem.W.set_plain I.kIn (ox := { cls := .ref C, dict := none, data := .fields #[.ref t1, .none, .none, .none, .bool false, .none] }) (od := none) ⟨ho, rfl, rfl, trivial⟩ T.sa (osaG SF I.kIn ho hcl bm rfl hb rfl no fun h' tk' dx kp dn dne hx hn => ?_)
  have hd : H dx = none := I.hok.fresh dn
  have nd : ∀ {b : Addr} {o : Obj}, hp.get? b = some o → b ≠ dx := fun {b o} z => Nat.ne_of_lt (Nat.lt_of_lt_of_le (Heap.lt_size z) dn)
  have na : ∀ {b : Addr}, H b = none → b ≠ a := fun {b} n z => by rw [z, ea] at n; cases n
  have U : Un X.fs [] H (L2.upd (L2.upd H dx (exd dx [(f, y)])) a (exo a C (some dx))) hp h' := by
    refine ⟨fun b o z n _ _ => kp b o (na n) z, fun b o z n _ _ => ⟨o.slots, kp b o (na n) z⟩, fun b o z n _ => ?_, fun b o z _ => ?_, fun b xs z => ?_, fun b o v z => ?_, fun b ps z => ⟨#[], ?_⟩⟩
    · rw [upd_ne (na n), upd_ne (nd z)]; exact n
    · by_cases hba : b = a
      · exact ⟨_, by rw [hba]; exact hx⟩
      · exact ⟨o, kp b o hba z⟩
    · rw [upd_ne (at_ne ea z exo_tup), upd_ne (ne_of_none z hd)]; exact z
    · rw [upd_ne (at_ne ea z exo_frz), upd_ne (ne_of_none z hd)]; exact z
    · rw [upd_ne (at_ne ea z exo_tbl), upd_ne (ne_of_none z hd), z]; simp
  refine k dx _ hd dne (I.un (t' := tk') U fun b o z => ?_)
  by_cases hba : b = a
  · subst hba
    rw [upd_same] at z
    cases z
    exact exo_ok hx
  rw [upd_ne hba] at z
  by_cases hbd : b = dx
  · subst hbd
    rw [upd_same] at z
    cases z
    exact exd_ok hn (relO_put (fs := []) ry fun g => True.intro)
  rw [upd_ne hbd] at z
  refine (I.hok b o z).stay (fun c v hc z2 => kp c v ?_ z2) (fun c hc => ?_) (fun c xs hc => ?_)
  · rcases hc with hc | hc
    · rw [hc]; exact hba
    · exact at_ne ea hc exo_own
  · rw [upd_ne (at_ne ea hc exo_own), upd_ne (ne_of_none hc hd)]; exact hc
  · rw [upd_ne (at_ne ea hc exo_tup), upd_ne (ne_of_none hc hd)]; exact hc
end
/-- self.f = e, the one store of such an __init__ -/
def tOstG (K : PySem.W.Frag) (newId : String) (B : List Value) (f : Str) (to te : TE) : TS := fun D σ H => te σ H fun y H1 => to σ H1 fun x H2 => ∃ a C : Addr, x = .ref a ∧ OexG K C newId B ∧ PySem.W.findIn K (.ref C) f = some none ∧
  H2 a = some (exo a C none) ∧ ∀ dx, H2 dx = none → dx ≠ a → D.nx σ (L2.upd (L2.upd H2 dx (exd dx [(f, y)])) a (exo a C (some dx)))
section
variable {X : Cx} {o e : Expr} {es : List Expr} {to te : TE} {ta : TA} {f : Str} {p p' pos : Pos} {newId initId b0 : String} {B : List Value}
theorem ps_ostG (SF : StoreFacts b0 B "object.__setattr__" "object") (ho : PE X o to) (he : PE X e te) (hs : swapsWith e (some (.Attribute o f p')) pos.line X.env = pure false := by rfl) : PS X (.Assign [.Attribute o f p'] e pos) (tOstG X.K newId B f to te) := by
  refine ⟨fun pins s σ H D I h => plainObj_wpAny_Assign_Attribute (thn (he.run pins s σ H _ I h) fun v s1 ⟨y, H1, I1, r1, q1⟩ => thn (ho.run pins s1 σ H1 _ I1 q1) fun u s2 ⟨x, H2, I2, r2, a, C, ex, T, no, ea, q⟩ => ?_) hs⟩
  subst ex
  obtain rfl : u = Value.ref a := r2
  exact ostG SF T I2 ea no r1 fun dx s' n ne J => ⟨σ, _, J, q dx n ne⟩
/-- C(e, ..), an error over any base being made -/
theorem pmk_G {CX : CXT} {x : Str} {C fI : Addr} {k : Nat} {fd : FuncData} {ps : List Str} {sp : Sp} {ds : List Value} {dvs : List V} (FB : ExcBaseFacts b0 newId initId B) (T : OexG X.K C newId B) (iC : PySem.W.findIn X.K (.ref C) "__init__" = some (some (.ref fI))) (tI : PySem.W.typeIn X.K (.ref fI) = some (.type "function"))
    (F1 : FnOk X.prog X.w X.K X.mg X.base CX k fI fd ps sp) (hr : Room (k + 1) X.A) (hb : Binds X.K fd ps ds) (hd : Vals dvs ds) (hx : Passes CX X (fun _ _ _ => False)) (hg : Gl X x) (hm : X.mg x = some (.ref C)) (ha : PA X (e :: es) ta)
    (hdb : (x == ("__debug__" : Str)) = false := by decide) (he : starEach (e :: es) X.env = (false, eval e X.env) :: starEach es X.env := by rfl) (hpl : (backTo pos (starEach es X.env)).any (·.1) = false := by rfl) : PMk X (.Call (.Name x p) (e :: es) [] pos) (tMkO C sp dvs ta) := by
  intro pins s σ H Q I h
  obtain ⟨nm, q, N, bs, bm, sn, sub, ab, col, dd, k0, k1, k2, k3, k5, hC, hbm⟩ := T.cls
  refine wpAny_Call_Name_kw (ld_glob I hg hm ?_ hdb)
  refine PySem.W.callWith_K (h₀ := X.base) I.ok.mod.kin T.kC (thn (ha.run pos pins s σ H _ I h) fun us s1 ⟨vs, H1, I1, r1, hz, q1⟩ => ⟨I1.kIn, (show wpAny _ _ (call (.ref C) us) _ _ _ from ?_)⟩) he hpl
  obtain ⟨hp, g, dr, tk, os⟩ := s1
  have hsz : hp.objs.size ≤ hp.objs.size + 1 := Nat.le_succ _
  have hq := q1 (hp.objs.size + 1) (I1.hok.fresh hsz)
  have kk : ∀ b o, hp.get? b = some o → ((hp.push (PySem.W.kdv_tup us)).push (PySem.HandSPX.excO C hp.objs.size)).get? b = some o := fun b o z => Heap.get?_push_of_some _ (Heap.get?_push_of_some _ z)
  have hget : ((hp.push (PySem.W.kdv_tup us)).push (PySem.HandSPX.excO C hp.objs.size)).get? (hp.objs.size + 1) = some (PySem.HandSPX.excO C hp.objs.size) := by heap_get
  have I2 := I1.laid (t' := tk) (a := hp.objs.size + 1) (o := exo (hp.objs.size + 1) C none) (h' := (hp.push (PySem.W.kdv_tup us)).push (PySem.HandSPX.excO C hp.objs.size)) kk hsz (exo_ok hget)
  have r2 : Vals (V.ref (hp.objs.size + 1) :: (vs ++ dvs)) (Value.ref (hp.objs.size + 1) :: (us ++ ds)) := .cons rfl (r1.append hd)
  have hl : (Value.ref (hp.objs.size + 1) :: us ++ ds).length = ps.length := by
    have z := r2.length; rw [F1.len _ _ _ _ hq] at z; exact z.symm
  have hus : us.length ≤ sizeLine := by rw [← Paired.length r1, sizeLine_eq]; omega
  refine wpAny_call (PySem.HandSPX.call_own FB (fun Y => PySem.W.excTail_contains Y bm hbm) (I1.kIn _ _ hC) (PySem.W.looks_findIn I1.kIn iC) (fun self => PySem.W.bind_fn I1.kIn self tI) hus
    (codeAny_mono (F1.run _ X.stack _ _ ⟨Value.ref (hp.objs.size + 1) :: us, []⟩ (Value.ref (hp.objs.size + 1) :: (us ++ ds)) _ _ (fun _ _ _ => False) (hr.make C us []) (I2.env0.make C us []) (hb _ (Value.ref (hp.objs.size + 1) :: us) I2.kIn hl) r2 hq) fun r s' hq' => ?_))
  rcases r with er | fl
  · exact hx pins σ _ _ er s' I2 hq'
  cases fl with
  | ret u =>
    obtain ⟨v, H2, os2, bare2, un2, hok2, rv, ev, d, fs, ea, ed, hd1, q2⟩ := hq'
    subst ev
    obtain ⟨h2, g2, d2, t2, os'⟩ := s'
    exact ⟨rv, mk_end (raises_own T.exC T.tyC) I1 hsz kk un2 hok2 os2 bare2 ea ed hd1 q2⟩
  | _ => exact False.elim hq'
end
/-! ### a class of errors over LookupError with one field, kept by its own __init__ -/
structure OwnL (K : PySem.W.Frag) (mg : Str → Option Value) (x q f : Str) (st : Stmt) where
  C : Addr
  fI : Addr
  fd : FuncData
  oex : OexG K C "LookupError.__new__" leM
  xf : XfC K C
  iC : PySem.W.findIn K (.ref C) "__init__" = some (some (.ref fI))
  tI : PySem.W.typeIn K (.ref fI) = some (.type "function")
  noF : PySem.W.findIn K (.ref C) f = some none
  F : Fun K "__init__" q (initOf st) fI fd
  b : Binds K fd ["self", f] []
  m : mg x = some (.ref C)
  te : PySem.W.exmOne K (.ref C) (.ref C) = some true
end My
namespace My
open PySem PySem.Spec PyProof.Rows L2
def top (i : Nat) : Stmt := PySem.Challenge.pw_eitherbarter_k35_whole_scripts.main.body.getD i (.Pass ⟨0, 0, 0, 0⟩)
abbrev s_wall : Stmt := top 0
abbrev s_combined : Stmt := top 8
abbrev s_is_word : Stmt := top 13
abbrev s_is_integer : Stmt := top 14
abbrev s_is_enough : Stmt := top 16
abbrev s_stock_behind : Stmt := top 19
abbrev s_turned_deed : Stmt := top 20
abbrev s_stocks_along : Stmt := top 22
abbrev s_stocks_so_far : Stmt := top 23
abbrev s_walked : Stmt := top 24
abbrev s_script_back : Stmt := top 25
abbrev s_first_bad : Stmt := top 26
abbrev s_wrong_goods : Stmt := top 29
abbrev s_wrong_barters : Stmt := top 30
abbrev s_wrong_barter : Stmt := top 31
abbrev s_wrong_row : Stmt := top 32
abbrev s_is_mixed : Stmt := top 33
abbrev s_law_source : Stmt := top 35
abbrev s_law_pick : Stmt := top 36
abbrev s_law_of : Stmt := top 37
abbrev s_law_mixed : Stmt := top 38
abbrev s_law_names : Stmt := top 39
abbrev s_law_odd : Stmt := top 40
abbrev s_law_tree : Stmt := top 41
abbrev s_law_leaves : Stmt := top 42
abbrev s_law_forked : Stmt := top 43
abbrev s_law_made : Stmt := top 44
abbrev s_law_book : Stmt := top 45
abbrev s_law_any_row : Stmt := top 46
abbrev s_law_any_book : Stmt := top 47
abbrev s_law_plus : Stmt := top 48
abbrev s_law_row : Stmt := top 49
abbrev s_law_done : Stmt := top 50
abbrev s_law_deeds : Stmt := top 51
abbrev s_law_stock : Stmt := top 52
abbrev s_law_some_book : Stmt := top 53
abbrev s_law_drawn_stock : Stmt := top 54
abbrev s_law_is_deed : Stmt := top 55
abbrev s_law_near_deed : Stmt := top 56
abbrev s_law_number : Stmt := top 57
abbrev s_law_script : Stmt := top 58
abbrev s_law_right : Stmt := top 59
abbrev s_law_spoilt : Stmt := top 60
abbrev s_law : Stmt := top 61
theorem sc_wall : FnScope ["k"] ["k"] (defScope s_wall) := ⟨rfl, rfl, rfl, by decide +kernel, rfl, by decide +kernel, by decide +kernel⟩
theorem sc_combined : FnScope ["a", "row", "b", "other", "number", "more"] ["a", "row", "b", "other"] (defScope s_combined) := ⟨rfl, rfl, rfl, by decide +kernel, rfl, by decide +kernel, by decide +kernel⟩
theorem sc_is_word : FnScope ["value", "sign"] ["value"] (defScope s_is_word) := ⟨rfl, rfl, rfl, by decide +kernel, rfl, by decide +kernel, by decide +kernel⟩
theorem sc_is_integer : FnScope ["value"] ["value"] (defScope s_is_integer) := ⟨rfl, rfl, rfl, by decide +kernel, rfl, by decide +kernel, by decide +kernel⟩
theorem sc_is_enough : FnScope ["row", "number"] ["row"] (defScope s_is_enough) := ⟨rfl, rfl, rfl, by decide +kernel, rfl, by decide +kernel, by decide +kernel⟩
theorem sc_stock_behind : FnScope ["book", "stock", "value", "name", "way", "behind"] ["book", "stock", "value"] (defScope s_stock_behind) := ⟨rfl, rfl, rfl, by decide +kernel, rfl, by decide +kernel, by decide +kernel⟩
theorem sc_turned_deed : FnScope ["deed", "name", "way"] ["deed"] (defScope s_turned_deed) := ⟨rfl, rfl, rfl, by decide +kernel, rfl, by decide +kernel, by decide +kernel⟩
theorem sc_stocks_along : FnScope ["book", "stock", "script", "stocks"] ["book", "stock", "script"] (defScope s_stocks_along) := ⟨rfl, rfl, rfl, by decide +kernel, rfl, by decide +kernel, by decide +kernel⟩
theorem sc_stocks_so_far : FnScope ["book", "stock", "members", "stocks", "member"] ["book", "stock", "members"] (defScope s_stocks_so_far) := ⟨rfl, rfl, rfl, by decide +kernel, rfl, by decide +kernel, by decide +kernel⟩
theorem sc_walked : FnScope ["book", "stock", "script"] ["book", "stock", "script"] (defScope s_walked) := ⟨rfl, rfl, rfl, by decide +kernel, rfl, by decide +kernel, by decide +kernel⟩
theorem sc_script_back : FnScope ["book", "stock", "script", "deed"] ["book", "stock", "script"] (defScope s_script_back) := ⟨rfl, rfl, rfl, by decide +kernel, rfl, by decide +kernel, by decide +kernel⟩
theorem sc_first_bad : FnScope ["book", "stock", "value", "stocks"] ["book", "stock", "value"] (defScope s_first_bad) := ⟨rfl, rfl, rfl, by decide +kernel, rfl, by decide +kernel, by decide +kernel⟩
theorem sc_wrong_goods : FnScope ["goods", "told", "k", "good"] ["goods"] (defScope s_wrong_goods) := ⟨rfl, rfl, rfl, by decide +kernel, rfl, by decide +kernel, by decide +kernel⟩
theorem sc_wrong_barters : FnScope ["barters", "many", "told", "k", "barter", "path"] ["barters", "many"] (defScope s_wrong_barters) := ⟨rfl, rfl, rfl, by decide +kernel, rfl, by decide +kernel, by decide +kernel⟩
theorem sc_wrong_barter : FnScope ["barter", "told", "many", "name", "row", "path"] ["barter", "told", "many"] (defScope s_wrong_barter) := ⟨rfl, rfl, rfl, by decide +kernel, rfl, by decide +kernel, by decide +kernel⟩
theorem sc_wrong_row : FnScope ["row", "many", "j", "entry"] ["row", "many"] (defScope s_wrong_row) := ⟨rfl, rfl, rfl, by decide +kernel, rfl, by decide +kernel, by decide +kernel⟩
theorem sc_is_mixed : FnScope ["entries", "entry"] ["entries"] (defScope s_is_mixed) := ⟨rfl, rfl, rfl, by decide +kernel, rfl, by decide +kernel, by decide +kernel⟩
theorem sc_law_source : FnScope ["_law_script_here", "_law_mixed_here", "_law_cell"] ["_law_script_here"] (defScope s_law_source) := ⟨rfl, rfl, rfl, by decide +kernel, rfl, by decide +kernel, by decide +kernel⟩
theorem sc_law_pick : FnScope ["_law_source_here", "_law_many", "_law_left", "_law_mixed_here"] ["_law_source_here", "_law_many"] (defScope s_law_pick) := ⟨rfl, rfl, rfl, by decide +kernel, rfl, by decide +kernel, by decide +kernel⟩
theorem sc_law_of : FnScope ["_law_source_here", "_law_some"] ["_law_source_here", "_law_some"] (defScope s_law_of) := ⟨rfl, rfl, rfl, by decide +kernel, rfl, by decide +kernel, by decide +kernel⟩
theorem sc_law_mixed : FnScope ["_law_source_here", "_law_things", "_law_rest", "_law_lap"] ["_law_source_here", "_law_things"] (defScope s_law_mixed) := ⟨rfl, rfl, rfl, by decide +kernel, rfl, by decide +kernel, by decide +kernel⟩
theorem sc_law_names : FnScope ["_law_source_here", "_law_many", "_law_shift", "_law_names_here", "_law_tails", "_law_k", "_law_letter"] ["_law_source_here", "_law_many"] (defScope s_law_names) := ⟨rfl, rfl, rfl, by decide +kernel, rfl, by decide +kernel, by decide +kernel⟩
theorem sc_law_odd : FnScope ["_law_source_here", "_law_some"] ["_law_source_here"] (defScope s_law_odd) := ⟨rfl, rfl, rfl, by decide +kernel, rfl, by decide +kernel, by decide +kernel⟩
theorem sc_law_tree : FnScope ["_law_source_here", "_law_goods", "_law_at", "_law_some"] ["_law_source_here", "_law_goods"] (defScope s_law_tree) := ⟨rfl, rfl, rfl, by decide +kernel, rfl, by decide +kernel, by decide +kernel⟩
theorem sc_law_leaves : FnScope ["_law_tree_here"] ["_law_tree_here"] (defScope s_law_leaves) := ⟨rfl, rfl, rfl, by decide +kernel, rfl, by decide +kernel, by decide +kernel⟩
theorem sc_law_forked : FnScope ["_law_source_here", "_law_tree_here", "_law_goods", "_law_share", "_law_rows", "_law_row_here", "_law_sign", "_law_side", "_law_part", "_law_good"] ["_law_source_here", "_law_tree_here", "_law_goods", "_law_share", "_law_rows"] (defScope s_law_forked) := ⟨rfl, rfl, rfl, by decide +kernel, rfl, by decide +kernel, by decide +kernel⟩
theorem sc_law_made : FnScope ["_law_goods", "_law_barters"] ["_law_goods", "_law_barters"] (defScope s_law_made) := ⟨rfl, rfl, rfl, by decide +kernel, rfl, by decide +kernel, by decide +kernel⟩
theorem sc_law_book : FnScope ["_law_source_here", "_law_most", "_law_goods", "_law_tree_here", "_law_rows", "_law_found"] ["_law_source_here", "_law_most"] (defScope s_law_book) := ⟨rfl, rfl, rfl, by decide +kernel, rfl, by decide +kernel, by decide +kernel⟩
theorem sc_law_any_row : FnScope ["_law_source_here", "_law_size", "_law_row_here", "_law_here", "_law_k"] ["_law_source_here", "_law_size"] (defScope s_law_any_row) := ⟨rfl, rfl, rfl, by decide +kernel, rfl, by decide +kernel, by decide +kernel⟩
theorem sc_law_any_book : FnScope ["_law_source_here", "_law_most", "_law_goods", "_law_names_here", "_law_name"] ["_law_source_here", "_law_most"] (defScope s_law_any_book) := ⟨rfl, rfl, rfl, by decide +kernel, rfl, by decide +kernel, by decide +kernel⟩
theorem sc_law_plus : FnScope ["_law_stock_here", "_law_row_here", "_law_times", "_law_k"] ["_law_stock_here", "_law_row_here", "_law_times"] (defScope s_law_plus) := ⟨rfl, rfl, rfl, by decide +kernel, rfl, by decide +kernel, by decide +kernel⟩
theorem sc_law_row : FnScope ["_law_world", "_law_name", "_law_one", "_law_row_here"] ["_law_world", "_law_name"] (defScope s_law_row) := ⟨rfl, rfl, rfl, by decide +kernel, rfl, by decide +kernel, by decide +kernel⟩
theorem sc_law_done : FnScope ["_law_world", "_law_stock_here", "_law_deed", "_law_later"] ["_law_world", "_law_stock_here", "_law_deed"] (defScope s_law_done) := ⟨rfl, rfl, rfl, by decide +kernel, rfl, by decide +kernel, by decide +kernel⟩
theorem sc_law_deeds : FnScope ["_law_world", "_law_stock_here", "_law_some", "_law_name", "_law_row_here", "_law_deed"] ["_law_world", "_law_stock_here"] (defScope s_law_deeds) := ⟨rfl, rfl, rfl, by decide +kernel, rfl, by decide +kernel, by decide +kernel⟩
theorem sc_law_stock : FnScope ["_law_source_here", "_law_world", "_law_most", "_law_good"] ["_law_source_here", "_law_world", "_law_most"] (defScope s_law_stock) := ⟨rfl, rfl, rfl, by decide +kernel, rfl, by decide +kernel, by decide +kernel⟩
theorem sc_law_some_book : FnScope ["_law_source_here", "_law_most", "_law_way"] ["_law_source_here", "_law_most"] (defScope s_law_some_book) := ⟨rfl, rfl, rfl, by decide +kernel, rfl, by decide +kernel, by decide +kernel⟩
theorem sc_law_drawn_stock : FnScope ["_law_source_here", "_law_world", "_law_way", "_law_stock_here", "_law_number_here"] ["_law_source_here", "_law_world"] (defScope s_law_drawn_stock) := ⟨rfl, rfl, rfl, by decide +kernel, rfl, by decide +kernel, by decide +kernel⟩
theorem sc_law_is_deed : FnScope ["_law_world", "_law_stock_here", "_law_value", "_law_pair"] ["_law_world", "_law_stock_here", "_law_value"] (defScope s_law_is_deed) := ⟨rfl, rfl, rfl, by decide +kernel, rfl, by decide +kernel, by decide +kernel⟩
theorem sc_law_near_deed : FnScope ["_law_source_here", "_law_world", "_law_stock_here", "_law_deeds_here", "_law_names_here", "_law_some", "_law_lap", "_law_name", "_law_pair"] ["_law_source_here", "_law_world", "_law_stock_here"] (defScope s_law_near_deed) := ⟨rfl, rfl, rfl, by decide +kernel, rfl, by decide +kernel, by decide +kernel⟩
theorem sc_law_number : FnScope ["_law_call", "error"] ["_law_call"] (defScope s_law_number) := ⟨rfl, rfl, rfl, by decide +kernel, rfl, by decide +kernel, by decide +kernel⟩
theorem sc_law_script : FnScope ["_law_source_here", "_law_world", "_law_stock_here", "_law_many", "_law_script_here", "_law_stocks", "_law_lap", "_law_deeds_here"] ["_law_source_here", "_law_world", "_law_stock_here", "_law_many"] (defScope s_law_script) := ⟨rfl, rfl, rfl, by decide +kernel, rfl, by decide +kernel, by decide +kernel⟩
theorem sc_law_right : FnScope ["_law_book_here", "_law_stock_here", "_law_script_here", "_law_stocks", "_law_due", "_law_given", "_law_lap", "_law_told", "_law_some", "_law_last", "_law_name", "_law_way"] ["_law_book_here", "_law_stock_here", "_law_script_here", "_law_stocks"] (defScope s_law_right) := ⟨rfl, rfl, rfl, by decide +kernel, rfl, by decide +kernel, by decide +kernel⟩
theorem sc_law_spoilt : FnScope ["_law_source_here", "_law_world", "_law_script_here", "_law_stocks", "_law_at", "_law_some", "_law_bad", "_law_one"] ["_law_source_here", "_law_world", "_law_script_here", "_law_stocks"] (defScope s_law_spoilt) := ⟨rfl, rfl, rfl, by decide +kernel, rfl, by decide +kernel, by decide +kernel⟩
theorem sc_law : FnScope ["_law_script_here", "_law_source_here", "_law_turn", "_law_world", "_law_book_here", "_law_stock_here", "_law_many", "_law_deeds_here", "_law_stocks", "_law_bad", "_law_at", "_law_given", "_law_told", "_law_odd_here", "_law_made_here"] ["_law_script_here"] (defScope s_law) := ⟨rfl, rfl, rfl, by decide +kernel, rfl, by decide +kernel, by decide +kernel⟩
abbrev s_Book_init : Stmt := inClass (top 28) 0
theorem sc_Book_init : FnScope ["self", "goods", "barters", "path", "j", "good", "k", "name", "row"] ["self", "goods", "barters"] (defScope s_Book_init) := ⟨rfl, rfl, rfl, by decide +kernel, rfl, by decide +kernel, by decide +kernel⟩
abbrev s_Book_names : Stmt := inClass (top 28) 4
theorem sc_Book_names : FnScope ["self", "barter"] ["self"] (defScope s_Book_names) := ⟨rfl, rfl, rfl, by decide +kernel, rfl, by decide +kernel, by decide +kernel⟩
abbrev s_Book_barters : Stmt := inClass (top 28) 3
theorem sc_Book_barters : FnScope ["self"] ["self"] (defScope s_Book_barters) := ⟨rfl, rfl, rfl, by decide +kernel, rfl, by decide +kernel, by decide +kernel⟩
abbrev s_Book_row : Stmt := inClass (top 28) 5
theorem sc_Book_row : FnScope ["self", "name"] ["self", "name"] (defScope s_Book_row) := ⟨rfl, rfl, rfl, by decide +kernel, rfl, by decide +kernel, by decide +kernel⟩
abbrev s_Book_barter_number : Stmt := inClass (top 28) 9
theorem sc_Book_barter_number : FnScope ["self", "name"] ["self", "name"] (defScope s_Book_barter_number) := ⟨rfl, rfl, rfl, by decide +kernel, rfl, by decide +kernel, by decide +kernel⟩
abbrev s_Book_has_barter : Stmt := inClass (top 28) 11
theorem sc_Book_has_barter : FnScope ["self", "value"] ["self", "value"] (defScope s_Book_has_barter) := ⟨rfl, rfl, rfl, by decide +kernel, rfl, by decide +kernel, by decide +kernel⟩
abbrev s_BadDeed : Stmt := top 4
theorem sc_BadDeed : FnScope ["self", "number"] ["self", "number"] (defScope (initOf s_BadDeed)) := ⟨rfl, rfl, rfl, by decide +kernel, rfl, by decide +kernel, by decide +kernel⟩
structure Tx (K : PySem.W.Frag) (mg : Str → Option Value) where
  a_wall : Addr
  fd_wall : FuncData
  F_wall : Fun K "_wall" "_wall" s_wall a_wall fd_wall
  b_wall : Binds K fd_wall ["k"] []
  m_wall : mg "_wall" = some (.ref a_wall)
  a_combined : Addr
  fd_combined : FuncData
  F_combined : Fun K "combined" "combined" s_combined a_combined fd_combined
  b_combined : Binds K fd_combined ["a", "row", "b", "other"] []
  m_combined : mg "combined" = some (.ref a_combined)
  a_is_word : Addr
  fd_is_word : FuncData
  F_is_word : Fun K "is_word" "is_word" s_is_word a_is_word fd_is_word
  b_is_word : Binds K fd_is_word ["value"] []
  m_is_word : mg "is_word" = some (.ref a_is_word)
  a_is_integer : Addr
  fd_is_integer : FuncData
  F_is_integer : Fun K "is_integer" "is_integer" s_is_integer a_is_integer fd_is_integer
  b_is_integer : Binds K fd_is_integer ["value"] []
  m_is_integer : mg "is_integer" = some (.ref a_is_integer)
  a_is_enough : Addr
  fd_is_enough : FuncData
  F_is_enough : Fun K "is_enough" "is_enough" s_is_enough a_is_enough fd_is_enough
  b_is_enough : Binds K fd_is_enough ["row"] []
  m_is_enough : mg "is_enough" = some (.ref a_is_enough)
  a_stock_behind : Addr
  fd_stock_behind : FuncData
  F_stock_behind : Fun K "stock_behind" "stock_behind" s_stock_behind a_stock_behind fd_stock_behind
  b_stock_behind : Binds K fd_stock_behind ["book", "stock", "value"] []
  m_stock_behind : mg "stock_behind" = some (.ref a_stock_behind)
  a_turned_deed : Addr
  fd_turned_deed : FuncData
  F_turned_deed : Fun K "turned_deed" "turned_deed" s_turned_deed a_turned_deed fd_turned_deed
  b_turned_deed : Binds K fd_turned_deed ["deed"] []
  m_turned_deed : mg "turned_deed" = some (.ref a_turned_deed)
  a_stocks_along : Addr
  fd_stocks_along : FuncData
  F_stocks_along : Fun K "stocks_along" "stocks_along" s_stocks_along a_stocks_along fd_stocks_along
  b_stocks_along : Binds K fd_stocks_along ["book", "stock", "script"] []
  m_stocks_along : mg "stocks_along" = some (.ref a_stocks_along)
  a_stocks_so_far : Addr
  fd_stocks_so_far : FuncData
  F_stocks_so_far : Fun K "stocks_so_far" "stocks_so_far" s_stocks_so_far a_stocks_so_far fd_stocks_so_far
  b_stocks_so_far : Binds K fd_stocks_so_far ["book", "stock", "members"] []
  m_stocks_so_far : mg "stocks_so_far" = some (.ref a_stocks_so_far)
  a_walked : Addr
  fd_walked : FuncData
  F_walked : Fun K "walked" "walked" s_walked a_walked fd_walked
  b_walked : Binds K fd_walked ["book", "stock", "script"] []
  m_walked : mg "walked" = some (.ref a_walked)
  a_script_back : Addr
  fd_script_back : FuncData
  F_script_back : Fun K "script_back" "script_back" s_script_back a_script_back fd_script_back
  b_script_back : Binds K fd_script_back ["book", "stock", "script"] []
  m_script_back : mg "script_back" = some (.ref a_script_back)
  a_first_bad : Addr
  fd_first_bad : FuncData
  F_first_bad : Fun K "first_bad" "first_bad" s_first_bad a_first_bad fd_first_bad
  b_first_bad : Binds K fd_first_bad ["book", "stock", "value"] []
  m_first_bad : mg "first_bad" = some (.ref a_first_bad)
  a_wrong_goods : Addr
  fd_wrong_goods : FuncData
  F_wrong_goods : Fun K "wrong_goods" "wrong_goods" s_wrong_goods a_wrong_goods fd_wrong_goods
  b_wrong_goods : Binds K fd_wrong_goods ["goods"] []
  m_wrong_goods : mg "wrong_goods" = some (.ref a_wrong_goods)
  a_wrong_barters : Addr
  fd_wrong_barters : FuncData
  F_wrong_barters : Fun K "wrong_barters" "wrong_barters" s_wrong_barters a_wrong_barters fd_wrong_barters
  b_wrong_barters : Binds K fd_wrong_barters ["barters", "many"] []
  m_wrong_barters : mg "wrong_barters" = some (.ref a_wrong_barters)
  a_wrong_barter : Addr
  fd_wrong_barter : FuncData
  F_wrong_barter : Fun K "wrong_barter" "wrong_barter" s_wrong_barter a_wrong_barter fd_wrong_barter
  b_wrong_barter : Binds K fd_wrong_barter ["barter", "told", "many"] []
  m_wrong_barter : mg "wrong_barter" = some (.ref a_wrong_barter)
  a_wrong_row : Addr
  fd_wrong_row : FuncData
  F_wrong_row : Fun K "wrong_row" "wrong_row" s_wrong_row a_wrong_row fd_wrong_row
  b_wrong_row : Binds K fd_wrong_row ["row", "many"] []
  m_wrong_row : mg "wrong_row" = some (.ref a_wrong_row)
  a_is_mixed : Addr
  fd_is_mixed : FuncData
  F_is_mixed : Fun K "is_mixed" "is_mixed" s_is_mixed a_is_mixed fd_is_mixed
  b_is_mixed : Binds K fd_is_mixed ["entries"] []
  m_is_mixed : mg "is_mixed" = some (.ref a_is_mixed)
  a_law_source : Addr
  fd_law_source : FuncData
  F_law_source : Fun K "_law_source" "_law_source" s_law_source a_law_source fd_law_source
  b_law_source : Binds K fd_law_source ["_law_script_here"] []
  m_law_source : mg "_law_source" = some (.ref a_law_source)
  a_law_pick : Addr
  fd_law_pick : FuncData
  F_law_pick : Fun K "_law_pick" "_law_pick" s_law_pick a_law_pick fd_law_pick
  b_law_pick : Binds K fd_law_pick ["_law_source_here", "_law_many"] []
  m_law_pick : mg "_law_pick" = some (.ref a_law_pick)
  a_law_of : Addr
  fd_law_of : FuncData
  F_law_of : Fun K "_law_of" "_law_of" s_law_of a_law_of fd_law_of
  b_law_of : Binds K fd_law_of ["_law_source_here", "_law_some"] []
  m_law_of : mg "_law_of" = some (.ref a_law_of)
  a_law_mixed : Addr
  fd_law_mixed : FuncData
  F_law_mixed : Fun K "_law_mixed" "_law_mixed" s_law_mixed a_law_mixed fd_law_mixed
  b_law_mixed : Binds K fd_law_mixed ["_law_source_here", "_law_things"] []
  m_law_mixed : mg "_law_mixed" = some (.ref a_law_mixed)
  a_law_names : Addr
  fd_law_names : FuncData
  F_law_names : Fun K "_law_names" "_law_names" s_law_names a_law_names fd_law_names
  b_law_names : Binds K fd_law_names ["_law_source_here", "_law_many"] []
  m_law_names : mg "_law_names" = some (.ref a_law_names)
  a_law_odd : Addr
  fd_law_odd : FuncData
  F_law_odd : Fun K "_law_odd" "_law_odd" s_law_odd a_law_odd fd_law_odd
  b_law_odd : Binds K fd_law_odd ["_law_source_here"] []
  m_law_odd : mg "_law_odd" = some (.ref a_law_odd)
  a_law_tree : Addr
  fd_law_tree : FuncData
  F_law_tree : Fun K "_law_tree" "_law_tree" s_law_tree a_law_tree fd_law_tree
  b_law_tree : Binds K fd_law_tree ["_law_source_here", "_law_goods"] []
  m_law_tree : mg "_law_tree" = some (.ref a_law_tree)
  a_law_leaves : Addr
  fd_law_leaves : FuncData
  F_law_leaves : Fun K "_law_leaves" "_law_leaves" s_law_leaves a_law_leaves fd_law_leaves
  b_law_leaves : Binds K fd_law_leaves ["_law_tree_here"] []
  m_law_leaves : mg "_law_leaves" = some (.ref a_law_leaves)
  a_law_forked : Addr
  fd_law_forked : FuncData
  F_law_forked : Fun K "_law_forked" "_law_forked" s_law_forked a_law_forked fd_law_forked
  b_law_forked : Binds K fd_law_forked ["_law_source_here", "_law_tree_here", "_law_goods", "_law_share", "_law_rows"] []
  m_law_forked : mg "_law_forked" = some (.ref a_law_forked)
  a_law_made : Addr
  fd_law_made : FuncData
  F_law_made : Fun K "_law_made" "_law_made" s_law_made a_law_made fd_law_made
  b_law_made : Binds K fd_law_made ["_law_goods", "_law_barters"] []
  m_law_made : mg "_law_made" = some (.ref a_law_made)
  a_law_book : Addr
  fd_law_book : FuncData
  F_law_book : Fun K "_law_book" "_law_book" s_law_book a_law_book fd_law_book
  b_law_book : Binds K fd_law_book ["_law_source_here", "_law_most"] []
  m_law_book : mg "_law_book" = some (.ref a_law_book)
  a_law_any_row : Addr
  fd_law_any_row : FuncData
  F_law_any_row : Fun K "_law_any_row" "_law_any_row" s_law_any_row a_law_any_row fd_law_any_row
  b_law_any_row : Binds K fd_law_any_row ["_law_source_here", "_law_size"] []
  m_law_any_row : mg "_law_any_row" = some (.ref a_law_any_row)
  a_law_any_book : Addr
  fd_law_any_book : FuncData
  F_law_any_book : Fun K "_law_any_book" "_law_any_book" s_law_any_book a_law_any_book fd_law_any_book
  b_law_any_book : Binds K fd_law_any_book ["_law_source_here", "_law_most"] []
  m_law_any_book : mg "_law_any_book" = some (.ref a_law_any_book)
  a_law_plus : Addr
  fd_law_plus : FuncData
  F_law_plus : Fun K "_law_plus" "_law_plus" s_law_plus a_law_plus fd_law_plus
  b_law_plus : Binds K fd_law_plus ["_law_stock_here", "_law_row_here", "_law_times"] []
  m_law_plus : mg "_law_plus" = some (.ref a_law_plus)
  a_law_row : Addr
  fd_law_row : FuncData
  F_law_row : Fun K "_law_row" "_law_row" s_law_row a_law_row fd_law_row
  b_law_row : Binds K fd_law_row ["_law_world", "_law_name"] []
  m_law_row : mg "_law_row" = some (.ref a_law_row)
  a_law_done : Addr
  fd_law_done : FuncData
  F_law_done : Fun K "_law_done" "_law_done" s_law_done a_law_done fd_law_done
  b_law_done : Binds K fd_law_done ["_law_world", "_law_stock_here", "_law_deed"] []
  m_law_done : mg "_law_done" = some (.ref a_law_done)
  a_law_deeds : Addr
  fd_law_deeds : FuncData
  F_law_deeds : Fun K "_law_deeds" "_law_deeds" s_law_deeds a_law_deeds fd_law_deeds
  b_law_deeds : Binds K fd_law_deeds ["_law_world", "_law_stock_here"] []
  m_law_deeds : mg "_law_deeds" = some (.ref a_law_deeds)
  a_law_stock : Addr
  fd_law_stock : FuncData
  F_law_stock : Fun K "_law_stock" "_law_stock" s_law_stock a_law_stock fd_law_stock
  b_law_stock : Binds K fd_law_stock ["_law_source_here", "_law_world", "_law_most"] []
  m_law_stock : mg "_law_stock" = some (.ref a_law_stock)
  a_law_some_book : Addr
  fd_law_some_book : FuncData
  F_law_some_book : Fun K "_law_some_book" "_law_some_book" s_law_some_book a_law_some_book fd_law_some_book
  b_law_some_book : Binds K fd_law_some_book ["_law_source_here", "_law_most"] []
  m_law_some_book : mg "_law_some_book" = some (.ref a_law_some_book)
  a_law_drawn_stock : Addr
  fd_law_drawn_stock : FuncData
  F_law_drawn_stock : Fun K "_law_drawn_stock" "_law_drawn_stock" s_law_drawn_stock a_law_drawn_stock fd_law_drawn_stock
  b_law_drawn_stock : Binds K fd_law_drawn_stock ["_law_source_here", "_law_world"] []
  m_law_drawn_stock : mg "_law_drawn_stock" = some (.ref a_law_drawn_stock)
  a_law_is_deed : Addr
  fd_law_is_deed : FuncData
  F_law_is_deed : Fun K "_law_is_deed" "_law_is_deed" s_law_is_deed a_law_is_deed fd_law_is_deed
  b_law_is_deed : Binds K fd_law_is_deed ["_law_world", "_law_stock_here", "_law_value"] []
  m_law_is_deed : mg "_law_is_deed" = some (.ref a_law_is_deed)
  a_law_near_deed : Addr
  fd_law_near_deed : FuncData
  F_law_near_deed : Fun K "_law_near_deed" "_law_near_deed" s_law_near_deed a_law_near_deed fd_law_near_deed
  b_law_near_deed : Binds K fd_law_near_deed ["_law_source_here", "_law_world", "_law_stock_here"] []
  m_law_near_deed : mg "_law_near_deed" = some (.ref a_law_near_deed)
  a_law_number : Addr
  fd_law_number : FuncData
  F_law_number : Fun K "_law_number" "_law_number" s_law_number a_law_number fd_law_number
  b_law_number : Binds K fd_law_number ["_law_call"] []
  m_law_number : mg "_law_number" = some (.ref a_law_number)
  a_law_script : Addr
  fd_law_script : FuncData
  F_law_script : Fun K "_law_script" "_law_script" s_law_script a_law_script fd_law_script
  b_law_script : Binds K fd_law_script ["_law_source_here", "_law_world", "_law_stock_here", "_law_many"] []
  m_law_script : mg "_law_script" = some (.ref a_law_script)
  a_law_right : Addr
  fd_law_right : FuncData
  F_law_right : Fun K "_law_right" "_law_right" s_law_right a_law_right fd_law_right
  b_law_right : Binds K fd_law_right ["_law_book_here", "_law_stock_here", "_law_script_here", "_law_stocks"] []
  m_law_right : mg "_law_right" = some (.ref a_law_right)
  a_law_spoilt : Addr
  fd_law_spoilt : FuncData
  F_law_spoilt : Fun K "_law_spoilt" "_law_spoilt" s_law_spoilt a_law_spoilt fd_law_spoilt
  b_law_spoilt : Binds K fd_law_spoilt ["_law_source_here", "_law_world", "_law_script_here", "_law_stocks"] []
  m_law_spoilt : mg "_law_spoilt" = some (.ref a_law_spoilt)
  a_law : Addr
  fd_law : FuncData
  F_law : Fun K "law" "law" s_law a_law fd_law
  b_law : Binds K fd_law ["_law_script_here"] []
  m_law : mg "law" = some (.ref a_law)
  C_Book : Addr
  cl_Book : Cls K C_Book
  m_Book : mg "Book" = some (.ref C_Book)
  na_Book_goods : NoAttr K C_Book "_goods"
  na_Book_barters : NoAttr K C_Book "_barters"
  na_Book_good_numbers : NoAttr K C_Book "_good_numbers"
  na_Book_barter_numbers : NoAttr K C_Book "_barter_numbers"
  a_Book_init : Addr
  fd_Book_init : FuncData
  F_Book_init : Fun K "__init__" "Book.__init__" s_Book_init a_Book_init fd_Book_init
  b_Book_init : Binds K fd_Book_init ["self", "goods", "barters"] []
  M_Book : Mk K C_Book a_Book_init
  a_Book_names : Addr
  fd_Book_names : FuncData
  F_Book_names : Fun K "names" "Book.names" s_Book_names a_Book_names fd_Book_names
  b_Book_names : Binds K fd_Book_names ["self"] []
  me_Book_names : Meth K C_Book "names" a_Book_names
  a_Book_barters : Addr
  fd_Book_barters : FuncData
  F_Book_barters : Fun K "barters" "Book.barters" s_Book_barters a_Book_barters fd_Book_barters
  b_Book_barters : Binds K fd_Book_barters ["self"] []
  me_Book_barters : Meth K C_Book "barters" a_Book_barters
  a_Book_row : Addr
  fd_Book_row : FuncData
  F_Book_row : Fun K "row" "Book.row" s_Book_row a_Book_row fd_Book_row
  b_Book_row : Binds K fd_Book_row ["self", "name"] []
  me_Book_row : Meth K C_Book "row" a_Book_row
  a_Book_barter_number : Addr
  fd_Book_barter_number : FuncData
  F_Book_barter_number : Fun K "barter_number" "Book.barter_number" s_Book_barter_number a_Book_barter_number fd_Book_barter_number
  b_Book_barter_number : Binds K fd_Book_barter_number ["self", "name"] []
  me_Book_barter_number : Meth K C_Book "barter_number" a_Book_barter_number
  a_Book_has_barter : Addr
  fd_Book_has_barter : FuncData
  F_Book_has_barter : Fun K "has_barter" "Book.has_barter" s_Book_has_barter a_Book_has_barter fd_Book_has_barter
  b_Book_has_barter : Binds K fd_Book_has_barter ["self", "value"] []
  me_Book_has_barter : Meth K C_Book "has_barter" a_Book_has_barter
  e_BadDeed : OwnE K mg "BadDeed" "BadDeed.__init__" "number" s_BadDeed
  i1_Book : PySem.W.findIn K (.ref C_Book) "__class__" = some (some (.builtin "object.__class__"))
  i2_Book : PySem.W.specialIn K (.builtin "object.__class__") "__get__" = some (some (.builtin "getset_descriptor.__get__"))
  i3_Book : PySem.W.takesIn K (.builtin "object.__class__") = some true
  i4_Book : PySem.W.mroIn K C_Book (.type "object") = some true
  i5_Book : PySem.W.subIn K (.ref C_Book) (.type "list") = some false
  i6_Book : PySem.W.subIn K (.ref C_Book) (.type "tuple") = some false
  c_DIGITS : ∃ t, mg "DIGITS" = some (.str "0123456789" t)
  c_LETTERS : ∃ t, mg "LETTERS" = some (.str "abcdefghijklmnopqrstuvwxyz" t)
  c_LONGEST_WORD : ∃ t, mg "LONGEST_WORD" = some (.int 12 t)
  w_WAYS : Addr
  c_WAYS : mg "WAYS" = some (.ref w_WAYS)
  t_WAYS : ∀ H, SqT K H w_WAYS [.int (1), .int (-1)]
  n_abs : mg "abs" = none
  n_all : mg "all" = none
  n_any : mg "any" = none
  n_bool : mg "bool" = none
  n_dict : mg "dict" = none
  n_enumerate : mg "enumerate" = none
  n_int : mg "int" = none
  n_isinstance : mg "isinstance" = none
  n_len : mg "len" = none
  n_list : mg "list" = none
  n_max : mg "max" = none
  n_min : mg "min" = none
  n_range : mg "range" = none
  n_repr : mg "repr" = none
  n_reversed : mg "reversed" = none
  n_str : mg "str" = none
  n_tuple : mg "tuple" = none
  n_zip : mg "zip" = none
end My
namespace My
open PySem PySem.Spec PyProof.Rows L2
/-! ### lexemes, as functions of plain lists -/
abbrev SGN : Str := "(){},;"
abbrev LTR : Str := "abcdefghijklmnopqrstuvwxyz"
abbrev DIG : Str := "0123456789"
abbrev BLK : Str := " \n"
def inS (z : Str) (c : Nat) : Bool := decide (c ∈ z.cps.toList)
def txt (l : List Nat) : Str := ⟨l.toArray⟩
theorem txt_self (z : Str) : txt z.cps.toList = z := by
  obtain ⟨a⟩ := z
  show (⟨a.toList.toArray⟩ : Str) = ⟨a⟩
  rw [Array.toArray_toList]
theorem txt_len (l : List Nat) : (txt l).length = l.length := by
  show l.toArray.size = l.length
  rw [List.size_toArray]
theorem str_len (z : Str) : z.cps.toList.length = z.length := by
  show z.cps.toList.length = z.cps.size
  rw [Array.length_toList]
def runL (p : Nat → Bool) : List Nat → Nat
  | [] => 0
  | c :: r => if p c = true then runL p r + 1 else 0
theorem runL_le (p : Nat → Bool) : ∀ t : List Nat, runL p t ≤ t.length
  | [] => Nat.le_refl _
  | c :: r => by
    have ih := runL_le p r
    show (if p c = true then runL p r + 1 else 0) ≤ r.length + 1
    by_cases h : p c = true
    · rw [if_pos h]; omega
    · rw [if_neg h]; omega
theorem runL_yes {p : Nat → Bool} {c : Nat} {r : List Nat} (h : p c = true) : runL p (c :: r) = runL p r + 1 := if_pos h
theorem runL_no {p : Nat → Bool} {c : Nat} {r : List Nat} (h : p c = false) : runL p (c :: r) = 0 := if_neg (by rw [h]; exact Bool.false_ne_true)
theorem runL_nil {p : Nat → Bool} : runL p [] = 0 := rfl
def lexC (c : Nat) (r : List Nat) : Option (Str × Nat) :=
  if inS SGN c = true then some ("sign", 1)
  else if inS LTR c = true then (if runL (inS (LTR ++ DIG)) (c :: r) ≤ 12 then some ("word", runL (inS (LTR ++ DIG)) (c :: r)) else none)
  else if inS DIG c = true then some ("number", if c = 48 then 1 else runL (inS DIG) (c :: r)) else none
def lexL : List Nat → Option (Str × Nat)
  | [] => none
  | c :: r => lexC c r
theorem in_cat (c : Nat) : inS (LTR ++ DIG) c = (inS LTR c || inS DIG c) := by
  show decide (c ∈ (LTR.cps ++ DIG.cps).toList) = (decide (c ∈ LTR.cps.toList) || decide (c ∈ DIG.cps.toList))
  rw [Array.toList_append]
  by_cases h1 : c ∈ LTR.cps.toList <;> by_cases h2 : c ∈ DIG.cps.toList <;> simp [h1, h2]
theorem lexL_pos {c : Nat} {r : List Nat} {k : Str} {n : Nat} (h : lexL (c :: r) = some (k, n)) : 1 ≤ n ∧ n ≤ (c :: r).length := by
  have h : lexC c r = some (k, n) := h
  unfold lexC at h
  by_cases h1 : inS SGN c = true
  · rw [if_pos h1] at h
    cases h; exact ⟨Nat.le_refl _, Nat.succ_le_succ (Nat.zero_le _)⟩
  rw [if_neg h1] at h
  by_cases h2 : inS LTR c = true
  · rw [if_pos h2] at h
    by_cases h3 : runL (inS (LTR ++ DIG)) (c :: r) ≤ 12
    · rw [if_pos h3] at h
      cases h
      refine ⟨?_, runL_le _ _⟩
      rw [runL_yes (by rw [in_cat, h2]; rfl)]
      omega
    · rw [if_neg h3] at h
      cases h
  rw [if_neg h2] at h
  by_cases h3 : inS DIG c = true
  · rw [if_pos h3] at h
    cases h
    by_cases h4 : c = 48
    · rw [if_pos h4]; exact ⟨Nat.le_refl _, Nat.succ_le_succ (Nat.zero_le _)⟩
    · rw [if_neg h4]
      refine ⟨?_, runL_le _ _⟩
      rw [runL_yes h3]
      omega
  · rw [if_neg h3] at h
    cases h
abbrev Tk := Str × List Nat × Nat
def scanF : Nat → List Nat → Nat → List Tk × Option Nat
  | 0, _, _ => ([], none)
  | _ + 1, [], _ => ([], none)
  | f + 1, c :: r, p => if inS BLK c = true then scanF f r (p + 1) else match lexL (c :: r) with
    | none => ([], some p)
    | some (k, n) => ((k, (c :: r).take n, p) :: (scanF f ((c :: r).drop n) (p + n)).1, (scanF f ((c :: r).drop n) (p + n)).2)
theorem scanF_enough : ∀ (f g : Nat) (t : List Nat) (p : Nat), t.length < f → t.length < g → scanF f t p = scanF g t p
  | 0, _, _, _, h, _ => absurd h (Nat.not_lt_zero _)
  | _ + 1, 0, _, _, _, h => absurd h (Nat.not_lt_zero _)
  | f + 1, g + 1, [], p, _, _ => rfl
  | f + 1, g + 1, c :: r, p, h1, h2 => by
    have l : (c :: r).length = r.length + 1 := rfl
    unfold scanF
    by_cases hb : inS BLK c = true
    · rw [if_pos hb, if_pos hb]
      exact scanF_enough f g r (p + 1) (by omega) (by omega)
    · rw [if_neg hb, if_neg hb]
      cases e : lexL (c :: r) with
      | none => rfl
      | some q =>
        obtain ⟨k, n⟩ := q
        have ⟨n1, n2⟩ := lexL_pos e
        have ih := scanF_enough f g ((c :: r).drop n) (p + n) (by rw [List.length_drop]; omega) (by rw [List.length_drop]; omega)
        show ((k, (c :: r).take n, p) :: (scanF f ((c :: r).drop n) (p + n)).1, (scanF f ((c :: r).drop n) (p + n)).2) = ((k, (c :: r).take n, p) :: (scanF g ((c :: r).drop n) (p + n)).1, (scanF g ((c :: r).drop n) (p + n)).2)
        rw [ih]
def scan (t : List Nat) (p : Nat) : List Tk × Option Nat := scanF (t.length + 1) t p
theorem scan_nil (p : Nat) : scan [] p = ([], none) := rfl
theorem scan_blank {c : Nat} {r : List Nat} {p : Nat} (h : inS BLK c = true) : scan (c :: r) p = scan r (p + 1) := by
  show scanF (r.length + 1 + 1) (c :: r) p = _
  unfold scanF
  rw [if_pos h]
  rfl
theorem scan_none {c : Nat} {r : List Nat} {p : Nat} (h : inS BLK c = false) (e : lexL (c :: r) = none) : scan (c :: r) p = ([], some p) := by
  show scanF (r.length + 1 + 1) (c :: r) p = _
  unfold scanF
  rw [if_neg (by rw [h]; exact Bool.false_ne_true), e]
theorem scan_some {c : Nat} {r : List Nat} {p : Nat} {k : Str} {n : Nat} (h : inS BLK c = false) (e : lexL (c :: r) = some (k, n)) :
    scan (c :: r) p = ((k, (c :: r).take n, p) :: (scan ((c :: r).drop n) (p + n)).1, (scan ((c :: r).drop n) (p + n)).2) := by
  have ⟨n1, n2⟩ := lexL_pos e
  have l : (c :: r).length = r.length + 1 := rfl
  have q : scanF (r.length + 1) ((c :: r).drop n) (p + n) = scan ((c :: r).drop n) (p + n) := scanF_enough _ _ _ _ (by rw [List.length_drop]; omega) (Nat.lt_succ_self _)
  show scanF (r.length + 1 + 1) (c :: r) p = _
  unfold scanF
  rw [if_neg (by rw [h]; exact Bool.false_ne_true), e]
  show ((k, (c :: r).take n, p) :: (scanF (r.length + 1) ((c :: r).drop n) (p + n)).1, (scanF (r.length + 1) ((c :: r).drop n) (p + n)).2) = _
  rw [q]
/-- where the reading stops -/
def stopAt (t : List Nat) (o : Option Nat) : Nat := o.getD t.length
theorem at_drop {t : List Nat} {p : Nat} (h : p < t.length) : t.drop p = t[p] :: t.drop (p + 1) := List.drop_eq_getElem_cons h
/-! the tuples of lexemes, in the heap -/
def tkV (t : Tk) : List V := [.str t.1, .str (txt t.2.1), .int (t.2.2 : Nat)]
inductive Tks (H : Hp) : List V → List Tk → Prop
  | nil : Tks H [] []
  | cons {a : Addr} {t : Tk} {xs : List V} {ts : List Tk} (e : H a = some (.tup (tkV t))) (h : Tks H xs ts) : Tks H (.ref a :: xs) (t :: ts)
theorem Tks.keep {H H' : Hp} (g : ∀ a xs, H a = some (.tup xs) → H' a = some (.tup xs)) : ∀ {xs : List V} {ts : List Tk}, Tks H xs ts → Tks H' xs ts
  | _, _, .nil => .nil
  | _, _, .cons e h => .cons (g _ _ e) (h.keep g)
theorem Tks.same {H H' : Hp} {xs : List V} {ts : List Tk} (h : Tks H xs ts) (g : Same H H') : Tks H' xs ts := h.keep fun a _ e => g a _ e
theorem Tks.length {H : Hp} : ∀ {xs : List V} {ts : List Tk}, Tks H xs ts → xs.length = ts.length
  | _, _, .nil => rfl
  | _, _, .cons _ h => congrArg (· + 1) h.length
theorem Tks.snoc {H : Hp} {a : Addr} {t : Tk} (e : H a = some (.tup (tkV t))) : ∀ {xs : List V} {ts : List Tk}, Tks H xs ts → Tks H (xs ++ [.ref a]) (ts ++ [t])
  | _, _, .nil => .cons e .nil
  | _, _, .cons e' h => .cons e' (h.snoc e)
/-- the list at a, which is new, holds these -/
structure TkL (H : Hp) (a : Addr) (ts : List Tk) : Prop where
  at_ : ∃ xs, H a = some (.lst xs) ∧ Tks H xs ts
end My

namespace My
open PySem PySem.Spec PyProof.Rows L2
/-! ### over the signs of a text -/
theorem lc_str {z : Str} {g : TG} {tt : TT} {te : TE} {vs : List Nat} {σ : L2.St} {H1 : Hp} {D : Addr} {Qd : Hp → Prop} (Pv : Nat → Hp → Prop) (h0 : Pv 0 (L2.upd H1 D (.lst [])))
    (hs : ∀ i c H, z.cps.toList[i]? = some c → Pv i H → g (.str ⟨#[c]⟩) (wipe σ vs) H fun σ2 H2 => wipe σ2 vs = wipe σ vs ∧ tt σ2 H2 fun b H3 =>
      if b = true then te σ2 H3 (fun y H4 => ∃ acc, H4 D = some (.lst acc) ∧ acc.length < sizeLine ∧ Pv (i + 1) (L2.upd H4 D (.lst (acc ++ [y])))) else Pv (i + 1) H3)
    (hd : ∀ H, Pv z.length H → Qd H) :
    ∃ W : Nat → Nat → Hp → Prop, (∃ m, W 0 m (L2.upd H1 D (.lst []))) ∧ ∀ i m H, W i m H → ((Its z).stop i H ∧ Qd H) ∨
      ((Its z).go i H ∧ ∃ N : Hp → Prop, (∀ H', N H' → ∃ m', m' < m ∧ W (i + 1) m' H') ∧ ∀ x H', (Its z).yld i H x H' → g x (wipe σ vs) H' fun σ2 H2 => wipe σ2 vs = wipe σ vs ∧ tt σ2 H2 fun b H3 =>
        if b = true then te σ2 H3 (fun y H4 => ∃ acc, H4 D = some (.lst acc) ∧ acc.length < sizeLine ∧ N (L2.upd H4 D (.lst (acc ++ [y])))) else N H3) := by
  refine ⟨fun i m H => m = z.length - i ∧ i ≤ z.length ∧ Pv i H, ⟨z.length, rfl, Nat.zero_le _, h0⟩, fun i m H ⟨em, hi, p⟩ => ?_⟩
  by_cases hlt : i < z.length
  · refine .inr ⟨hlt, Pv (i + 1), fun H' p' => ⟨z.length - (i + 1), by omega, rfl, hlt, p'⟩, fun x H' ⟨e1, c, e2, e3⟩ => ?_⟩
    rw [e1, e3]
    exact hs i c H (by rw [Array.getElem?_toList]; exact e2) p
  · have e : i = z.length := by omega
    exact .inl ⟨Nat.le_of_not_lt hlt, hd H (e ▸ p)⟩
theorem for_str {z : Str} {g : TG} {tb : TS} {D : Ends} {σ : L2.St} {H : Hp} (Pv : Nat → L2.St → Hp → Prop) (h0 : Pv 0 σ H)
    (hs : ∀ i c σ H, z.cps.toList[i]? = some c → Pv i σ H → g (.str ⟨#[c]⟩) σ H fun σ2 H2 => tb { D with nx := Pv (i + 1), ct := Pv (i + 1), bk := D.nx } σ2 H2) (hd : ∀ σ H, Pv z.length σ H → D.nx σ H) :
    ∃ W : Nat → Nat → L2.St → Hp → Prop, (∃ m, W 0 m σ H) ∧ ∀ i m σ H, W i m σ H → ((Its z).stop i H ∧ D.nx σ H) ∨
      ((Its z).go i H ∧ ∃ N : L2.St → Hp → Prop, (∀ σ' H', N σ' H' → ∃ m', m' < m ∧ W (i + 1) m' σ' H') ∧ ∀ x H', (Its z).yld i H x H' → g x σ H' fun σ2 H2 => tb { D with nx := N, ct := N, bk := D.nx } σ2 H2) := by
  refine ⟨fun i m σ H => m = z.length - i ∧ i ≤ z.length ∧ Pv i σ H, ⟨z.length, rfl, Nat.zero_le _, h0⟩, fun i m σ H ⟨em, hi, p⟩ => ?_⟩
  by_cases hlt : i < z.length
  · refine .inr ⟨hlt, Pv (i + 1), fun σ' H' p' => ⟨z.length - (i + 1), by omega, rfl, hlt, p'⟩, fun x H' ⟨e1, c, e2, e3⟩ => ?_⟩
    rw [e1, e3]
    exact hs i c σ H (by rw [Array.getElem?_toList]; exact e2) p
  · have e : i = z.length := by omega
    exact .inl ⟨Nat.le_of_not_lt hlt, hd σ H (e ▸ p)⟩
end My

namespace My
open PySem PySem.Spec PyProof.Rows L2
/-! ### a def that is called where nothing is being shown: its body may show values -/
structure FnG (P : Program) (w : World) (K : PySem.W.Frag) (mg : Str → Option Value) (base : Heap) (k : Nat) (f : Addr) (fd : FuncData) (ps : List Str) (sp : Sp) : Prop where
  len : ∀ vs H Q E, sp vs H Q E → vs.length = ps.length
  run : ∀ (A : Around), A.guards = some [] → Room k A → ∀ (outer : List Env) (s : Shared) (H : Hp), Env0 P w K mg base A outer s H → ∀ (args : Args) (us : List Value), BindsTo s fd args (ps.zip us) →
    ∀ (vs : List V), Vals vs us → ∀ (Q : VK) (E : XK), sp vs H Q E → codeAny (model P w) A (.call (.ref f) args) (CR CX0 outer P w H s Q E) s
section
variable {P : Program} {w : World} {K : PySem.W.Frag} {mg : Str → Option Value} {base : Heap}
theorem FnG.of {x qual : Str} {st : Stmt} {f : Addr} {fd : FuncData} {N ps : List Str} {k : Nat} {sp : Sp} (F : Fun K x qual st f fd) (S : FnScope N ps (defScope st)) (len : ∀ vs H Q E, sp vs H Q E → vs.length = ps.length)
    (body : ∀ (cdv : Value) (A : Around) (outer : List Env) (s : Shared) (H : Hp) (vs : List V) (Q : VK) (E : XK), A.guards = some [] → Room k (A.deeper (envOfC qual (defScope st) s.heap.objs.size f cdv)) → sp vs H Q E →
      ∃ t, PSs (cxOf CX0 P w K mg base N qual (defScope st) f cdv A outer s H E).nox (defBody st) t ∧ t { nx := fun _ H' => Q .non H', rt := Q } (start N vs) H) :
    FnG P w K mg base (k + 1) f fd ps sp := by
  obtain ⟨oc, od, kV, doc, pm, an, cdv, ct, osl, rfl, lk, hcd⟩ := F.ex
  refine ⟨len, fun A hg hr outer s H e0 args us hb vs r Q E hsp => ?_⟩
  have KX : K.In s.heap := e0.mod.kin.keeps fun b o q => (e0.bs b o q).1
  have nl : s.heap.NoLimit := e0.mod.nolimit.keeps fun b o q => (e0.bs b o q).1
  have kinds : ∀ y ∈ ps.zip us, (defScope st).names.lookup y.1 = some .local ∨ ((defScope st).names.lookup y.1 = some .cell ∧ ((cellsFrom (s.heap.objs.size + 1) (defScope st).names []).lookup y.1).isSome = true) := by
    rintro ⟨n, v⟩ hy
    have q := S.par n (List.of_mem_zip hy).1
    exact q.imp id fun q => ⟨q, PySem.W.cellsFrom_some _ _ _ (.inl q)⟩
  refine codeAny_call_function hr.depth (KX _ _ lk) rfl S.co S.gen rfl (PySem.W.codeRec_of KX hcd) (hb _ _ _ _ (wpAny_newFunctionEnv_cells S.kind kinds fun env he s1 x => ?_))
  subst he
  refine ⟨nl.keeps x.toInCall.keep, codeAny_func ?_⟩
  obtain ⟨t, ht, hq⟩ := body cdv A outer s H vs Q E hg (hr.deeper _) hsp
  have I : Inv (cxOf CX0 P w K mg base N qual (defScope st) f cdv A outer s H E) [] (start N vs) H s1 := inv_start S hr.hd e0 (len _ _ _ _ hsp) r x
  refine wpAny_mono (ht.nox.run [] s1 (start N vs) H _ I hq) (fun fl s' hs => ?_) (fun e s' hs => hs)
  have last : ∀ {σ' : L2.St} {H' : Hp} {v : V} {u : Value}, Inv (cxOf CX0 P w K mg base N qual (defScope st) f cdv A outer s H E) [] σ' H' s' → RelV v u → Q v H' → CE outer P w H s Q u s' := fun J rv q => ⟨_, _, J.os, J.bare, J.base, J.hok, rv, q⟩
  rcases fl with _ | _ | _ | u
  all_goals first
    | (obtain ⟨v, σ', H', J, rv, q⟩ := hs; exact last J rv q)
    | (obtain ⟨σ', H', J, q⟩ := hs; exact last (v := V.non) (u := Value.none) J rfl q)
    | (obtain ⟨_, _, _, q⟩ := hs; exact False.elim q)
/-- the law's def, called by the one who asks for the proof -/
theorem law_runG {k : Nat} {fa a : Addr} {fd : FuncData} {x : Str} {sp : Sp} {mb : Str → Option Value} {s₁ : Shared} {vs : List Value} {ns : List Int}
    (KX : K.In s₁.heap) (hns : s₁.heap.Ns mainGlobals mg) (hb : s₁.heap.Ns builtinsNs mb) (hbb : ∀ x : Str, x ≠ "__name__" → mb x = bootBuiltins x) (nl : s₁.heap.NoLimit) (hg : s₁.gens = #[])
    (ha : s₁.heap.get? a = some { cls := .type "list", data := .seq vs.toArray }) (hi : IntsAre vs ns) (hl : ns.length ≤ sizeLine) (hr : Room k callerA)
    (F : ∀ base : Heap, K.In base → base.Ns mainGlobals mg → FnG P w K mg base k fa fd [x] sp) (bind : ∀ (s : Shared) (u : Value), BindsTo s fd ⟨[u], []⟩ [(x, u)])
    (hsp : ∀ H : Hp, Only H → SqL K H a (ns.map V.int) → sp [.ref a] H (fun v _ => v = .bl true) fun _ _ _ => False) :
    codeAny (model P w) callerA (.call (.ref fa) ⟨[.ref a], []⟩) (fun r s' => r = .ok (.ret (.bool true)) ∧ OldK s₁.heap s'.heap ∧ s'.os = s₁.os ∧ AllBare s'.gens) s₁ := by
  have rv := vals_ints hi
  have lv := hi.length
  have core : ∀ H : Hp, Only H ∧ SqL K H a (ns.map V.int) ∧ HOk P w H s₁.heap ∧ (∀ b, H b ≠ none → b = a) ∧ (H a ≠ none → K.lookup a = none) →
      codeAny (model P w) callerA (.call (.ref fa) ⟨[.ref a], []⟩) (fun r s' => r = .ok (.ret (.bool true)) ∧ OldK s₁.heap s'.heap ∧ s'.os = s₁.os ∧ AllBare s'.gens) s₁ := by
    rintro H ⟨hO, hS, hok, hA, hK⟩
    have no : ∀ {b : Addr}, b ≠ a → H b = none := fun {b} n => by
      cases q : H b with
      | none => rfl
      | some u => exact absurd (hA b fun z => by rw [q] at z; cases z) n
    have dicts : ∀ {b : Addr} {o : Obj} {es : Array DictEntry} {ep : Nat}, s₁.heap.get? b = some o → o.data = .dict es ep → (hidT s₁.heap H).get? b = some o := fun {b o es ep} e d => hidT_get e (no fun z => by
      rw [z, ha] at e
      have e' := Option.some.inj e
      rw [← e'] at d
      exact Data.noConfusion d)
    have nsK : ∀ {b : Addr} {m : Str → Option Value}, s₁.heap.Ns b m → (hidT s₁.heap H).Ns b m := fun z => by
      obtain ⟨o, es, ep, e, d, r⟩ := z
      exact ⟨o, es, ep, dicts e d, d, r⟩
    have inK : K.In (hidT s₁.heap H) := fun b o e => by
      refine hidT_get (KX b o e) ?_
      by_cases hb : b = a
      · cases q : H b with
        | none => rfl
        | some u =>
          have z := hK (by rw [← hb, q]; exact fun z => nomatch z)
          rw [hb, z] at e
          cases e
      · exact no hb
    obtain ⟨mc, c1, c2⟩ := nl
    have e0 : Env0 P w K mg (hidT s₁.heap H) callerA [] s₁ H :=
      { frames := rfl, mod := ⟨inK, nsK hns, ⟨mb, nsK hb, hbb⟩, ⟨mc, nsK c1, c2⟩⟩, bs := fun b o e => of_hidT e, bsz := Nat.le_of_eq (hidT_size _ _), funs := trivial, frf := fun b z => absurd z List.not_mem_nil, hok := hok, bare := .of_eq hg }
    refine codeAny_mono ((F _ inK (nsK hns)).run callerA rfl hr [] s₁ H e0 ⟨[.ref a], []⟩ [.ref a] (bind s₁ (.ref a)) [.ref a] (.cons rfl .nil) _ _ (hsp H hO hS)) fun r s' h => ?_
    rcases r with e | fl
    · exact False.elim h
    rcases fl with _ | _ | _ | u
    all_goals first
      | exact False.elim h
      | skip
    obtain ⟨v, H', os, bare, un, hok', r', q⟩ := h
    have q' : v = .bl true := q
    rw [q'] at r'
    have r2 : u = Value.bool true := r'
    refine ⟨by rw [r2], OldK.of_keep fun b o e => ?_, os, bare⟩
    rcases hO b with z | ⟨ob, xs, z⟩
    · exact un.keep b o e z List.not_mem_nil List.not_mem_nil
    · have z1 := (hok b _ z).1
      have z2 := (hok' b _ (un.frzs b ob _ z)).1
      rw [e] at z1
      cases z1
      exact z2
  cases hk : K.lookup a with
  | some o =>
    have e := KX a o hk
    rw [ha] at e
    cases e
    exact core (fun _ => none) ⟨fun _ => .inl rfl, .inr ⟨_, vs.toArray, _, hk, rfl, rfl, rfl, by rw [List.size_toArray, lv]; exact hl, by simpa using rv⟩, (fun b u z => nomatch z), fun b z => absurd rfl z, fun z => absurd rfl z⟩
  | none =>
    have at_ : ∀ {b : Addr} {u : HO}, (if b = a then some (HO.frz { cls := .type "list", data := .seq vs.toArray } (.lst (ns.map V.int))) else none) = some u → b = a ∧ u = HO.frz { cls := .type "list", data := .seq vs.toArray } (.lst (ns.map V.int)) := fun {b u} z => by
      by_cases h : b = a
      · rw [if_pos h] at z; exact ⟨h, (Option.some.inj z).symm⟩
      · rw [if_neg h] at z; cases z
    refine core (fun b => if b = a then some (.frz { cls := .type "list", data := .seq vs.toArray } (.lst (ns.map V.int))) else none) ⟨fun b => ?_, .inl (.inr ⟨_, if_pos rfl⟩), fun b u z => ?_, fun b z => ?_, fun _ => hk⟩
    · by_cases h : b = a
      · exact .inr ⟨_, _, if_pos h⟩
      · exact .inl (if_neg h)
    · obtain ⟨rfl, rfl⟩ := at_ z
      exact ⟨ha, by rw [List.length_map]; exact hl, vs, _, rv, ha⟩
    · by_cases h : b = a
      · exact h
      · exact absurd (if_neg h) z
end
/-- the walk's goal from the law's promise, the values being shown within -/
theorem walk_ofG {l : PySem.W.OpenLaw} {n k : Nat} {q : Program} {loose : List Str} {XP : (Str → Option Value) → Heap → Prop} {YP : World → Heap → Prop} {d : DefRec} {K : Params → PySem.W.Frag} {sp : World → Sp} {x : Str}
    (hn : l.most = some n) (hn2 : n ≤ sizeLine) (hdf : d.params.defaults = []) (hr : Room k callerA) (hY : ∀ (w : World) (h : Heap), YP w h → (K w.params).In h)
    (F : ∀ (w : World) (mg : Str → Option Value) (fa : Addr) (h : Heap), (K w.params).In h → h.Ns mainGlobals mg → mg d.name = some (.ref fa) → ∃ fd : FuncData, (∀ (s : Shared) (u : Value), BindsTo s fd ⟨[u], []⟩ [(x, u)]) ∧
      ∀ base : Heap, (K w.params).In base → base.Ns mainGlobals mg → FnG l.prog w (K w.params) mg base k fa fd [x] (sp w))
    (hsp : ∀ (w : World) (H : Hp) (a : Addr) (ns : List Int), ns.length ≤ n → Only H → SqL (K w.params) H a (ns.map V.int) → sp w [.ref a] H (fun v _ => v = .bl true) fun _ _ _ => False) :
    PySem.W.WalkO q loose XP YP l.row.toRowW d [] (fun f vs => PySem.call f vs) :=
  Att.attach_call hn hdf fun w s₀ s₁ mg mb fa o pm cd doc a vs ns G Y _ _ _ hmg ho hi hlen hg => by
    obtain ⟨fd, b, hF⟩ := F w mg fa _ (hY w _ Y) G.T.g hmg
    exact law_runG (hY w _ Y) G.T.g G.T.b G.T.builtins G.T.nolimit hg ho hi (Nat.le_trans hlen hn2) hr hF b fun H hO hS => hsp w H a ns hlen hO hS
end My

namespace My
open PySem PySem.Spec PyProof.Rows L2
/-! ### repr of data at any depth -/
mutual
theorem Dp.noDict {K : PySem.W.Frag} {H : Hp} : ∀ {v : V} {d : PyData}, Dp K H v d → d.hasDict = false
  | _, _, .non => rfl
  | _, _, .bl _ => rfl
  | _, _, .int _ => rfl
  | _, _, .str _ => rfl
  | _, _, .lst _ h => My.DpAll.noDict h
  | _, _, .tup _ h => My.DpAll.noDict h
theorem DpAll.noDict {K : PySem.W.Frag} {H : Hp} : ∀ {vs : List V} {ds : List PyData}, DpAll K H vs ds → PyData.hasDictAll ds = false
  | _, _, .nil => rfl
  | _, _, .cons h hs => by
    show (_ || _) = false
    rw [My.Dp.noDict h, My.DpAll.noDict hs]
    rfl
end
section
variable {X : Cx}
def rReprD (K : PySem.W.Frag) : List V → Hp → VK → Prop := fun xs H Q => ∃ (a : Addr) (d : PyData), xs = [.ref a] ∧ Dp K H (.ref a) d ∧ d.showable = true ∧ d.depth ≤ 60 ∧ d.shown.length ≤ sizeLine ∧ Q (.str d.shown) H
theorem call_repr_D (hg : X.A.guards = some []) (hu : X.A.units + 64 < cLine) : CallR X (.builtin "repr") (rReprD X.K) := by
  intro pins s σ H xs us Q I r h
  obtain ⟨a, d, rfl, dp, sh, dd, sz, q⟩ := h
  obtain ⟨u, rfl, r1⟩ := vals1 r
  cases (show u = Value.ref a from r1)
  obtain ⟨as, hr⟩ := Dp.reads I d _ _ dp rfl
  have nd := My.Dp.noDict dp
  exact repr_of_reads' hr sh (fun z => by rw [nd] at z; cases z) hg (by omega) (fun _ _ e => e) (fun h' u tk hk => ⟨.str d.shown, H, I.kept hk, ⟨u, rfl⟩, q⟩) sz
end
theorem seqT {K : PySem.W.Frag} {H H' : Hp} {a : Addr} {xs : List V} (e : Same H H') (h : SqT K H a xs) : SqT K H' a xs := by
  rcases h with h | h
  · refine .inl ?_
    rcases h with h | h
    · exact .inl (e _ _ h)
    · obtain ⟨o, h⟩ := h
      exact .inr ⟨o, e _ _ h⟩
  · exact .inr h
mutual
theorem Dp.same {K : PySem.W.Frag} {H H' : Hp} (e : Same H H') : ∀ {v : V} {d : PyData}, Dp K H v d → Dp K H' v d
  | _, _, .non => .non
  | _, _, .bl b => .bl b
  | _, _, .int i => .int i
  | _, _, .str x => .str x
  | _, _, .lst h hs => .lst (e.seq h) (My.DpAll.same e hs)
  | _, _, .tup h hs => .tup (seqT e h) (My.DpAll.same e hs)
theorem DpAll.same {K : PySem.W.Frag} {H H' : Hp} (e : Same H H') : ∀ {vs : List V} {ds : List PyData}, DpAll K H vs ds → DpAll K H' vs ds
  | _, _, .nil => .nil
  | _, _, .cons h hs => .cons (My.Dp.same e h) (My.DpAll.same e hs)
end
end My

namespace My
open PySem PySem.Spec PyProof.Rows L2
section
variable {X : Cx} {es : List Expr} {t : TA} {pos : Pos}
/-- a list display whose list is told to lie above the table of modules -/
def tLstN (t : TA) : TE := fun σ H Q => t σ H fun xs H1 => xs.length ≤ sizeLine ∧ ∀ p, H1 p = none → sysModules < p → Q (.ref p) (L2.upd H1 p (.lst xs))
theorem pe_lstN (h : PA X es t) : PE X (.List es pos) (tLstN t) := by
  refine ⟨fun pins s σ H Q I hq => wpAny_List_spliced (thn (h.run pos pins s σ H _ I hq) ?_)⟩
  rintro us s1 ⟨xs, H1, I1, r, z, q⟩
  have fr : H1 s1.heap.objs.size = none := I1.hok.fresh (Nat.le_refl _)
  refine ⟨by rw [← r.length]; exact z, .ref s1.heap.objs.size, L2.upd H1 s1.heap.objs.size (.lst xs), ?_, rfl, q _ fr I1.big⟩
  exact I1.laid (t' := s1.toks) (fun b u e => Heap.get?_push_of_some _ e) (Nat.le_refl _) ⟨z, us, 0, r, Heap.get?_push_size _ rfl⟩
/-- list(..) of a list or tuple, likewise -/
theorem call_list_ofN : CallR X (.type "list") (fun xs H Q => ∃ p ys, xs = [.ref p] ∧ (SqL X.K H p ys ∨ SqT X.K H p ys) ∧ ∀ l, H l = none → sysModules < l → Q (.ref l) (L2.upd H l (.lst ys))) := by
  intro pins s σ H xs us Q I r h
  obtain ⟨p, ys, rfl, hq, q⟩ := h
  obtain ⟨u, rfl, rx⟩ := vals1 r
  cases rx
  have big := I.big
  have fr : H s.heap.objs.size = none := I.hok.fresh (Nat.le_refl _)
  have fin : ∀ (its : List Value), Vals ys its → ys.length ≤ sizeLine → ∀ (h' : Heap) (c' : Nat), (∀ b o', s.heap.get? b = some o' → h'.get? b = some o') → h'.get? s.heap.objs.size = some { cls := .type "list", dict := none, data := .seq its.toArray c', slots := #[] } →
      EP X pins σ Q (.ref s.heap.objs.size) { s with heap := h' } := by
    intro its r' hz h' c' kp e
    refine ⟨.ref s.heap.objs.size, L2.upd H s.heap.objs.size (.lst ys), I.laid (t' := s.toks) kp (Nat.le_refl _) ?_, rfl, q _ fr big⟩
    exact (show ObjOk X.prog X.w _ h' _ (.lst ys) from ⟨hz, its, c', r', e⟩)
  rcases hq with hq | hq
  · obtain ⟨its, r', pl, hz⟩ := I.list hq
    have hlen := r'.length
    obtain ⟨o, ho, hc, n, hd⟩ := pl.isList
    exact call_list_seq p (.inl rfl) ho hc hd (fun h' c' kp e => fin its r' hz h' c' kp e) (by rw [List.size_toArray]; omega)
  · obtain ⟨its, r', pl, hz⟩ := I.tuple hq
    have hlen := r'.length
    obtain ⟨o, ho, hc, n, hd⟩ := pl
    exact call_list_seq p (.inr rfl) ho hc hd (fun h' c' kp e => fin its r' hz h' c' kp e) (by rw [List.size_toArray]; omega)
end
end My

namespace My
open PySem PySem.Spec PyProof.Rows L2
/-! ### values at any depth, dicts among them -/
/-- the dicts that occur -/
inductive DctE : List (Key × V) → List (PyData × PyData) → Prop
  | none : DctE [] []
  | one : DctE [(.inl 0, .int 1)] [(.int 0, .int 1)]
mutual
inductive Dq (H : Hp) : V → PyData → Prop
  | non : Dq H .non .none
  | bl (b : Bool) : Dq H (.bl b) (.bool b)
  | int (i : Int) : Dq H (.int i) (.int i)
  | str (x : Str) : Dq H (.str x) (.str x)
  | lst {a : Addr} {xs : List V} {ds : List PyData} : H a = some (.lst xs) → sysModules < a → DqAll H xs ds → Dq H (.ref a) (.list ds)
  | tup {a : Addr} {xs : List V} {ds : List PyData} : H a = some (.tup xs) → DqAll H xs ds → Dq H (.ref a) (.tuple ds)
  | dct {a : Addr} {kvs : List (Key × V)} {es : List (PyData × PyData)} : H a = some (.dK kvs) → DctE kvs es → Dq H (.ref a) (.dict es)
inductive DqAll (H : Hp) : List V → List PyData → Prop
  | nil : DqAll H [] []
  | cons {v : V} {vs : List V} {d : PyData} {ds : List PyData} : Dq H v d → DqAll H vs ds → DqAll H (v :: vs) (d :: ds)
end
mutual
theorem Dq.same {H H' : Hp} (e : Same H H') : ∀ {v : V} {d : PyData}, Dq H v d → Dq H' v d
  | _, _, .non => .non
  | _, _, .bl b => .bl b
  | _, _, .int i => .int i
  | _, _, .str x => .str x
  | _, _, .lst h n hs => .lst (e _ _ h) n (DqAll.same e hs)
  | _, _, .tup h hs => .tup (e _ _ h) (DqAll.same e hs)
  | _, _, .dct h x => .dct (e _ _ h) x
theorem DqAll.same {H H' : Hp} (e : Same H H') : ∀ {vs : List V} {ds : List PyData}, DqAll H vs ds → DqAll H' vs ds
  | _, _, .nil => .nil
  | _, _, .cons h hs => .cons (Dq.same e h) (DqAll.same e hs)
end
theorem DqAll.length {H : Hp} : ∀ {vs : List V} {ds : List PyData}, DqAll H vs ds → vs.length = ds.length
  | _, _, .nil => rfl
  | _, _, .cons _ h => congrArg (· + 1) h.length
theorem DqAll.get {H : Hp} : ∀ {vs : List V} {ds : List PyData} {i : Nat} {d : PyData}, DqAll H vs ds → ds[i]? = some d → ∃ v, vs[i]? = some v ∧ Dq H v d
  | _, _, 0, _, .cons h _, e => by
    cases e
    exact ⟨_, rfl, h⟩
  | _, _, i + 1, _, .cons _ hs, e => hs.get (i := i) e
/-- the kind's name -/
def tyD : PyData → String
  | .none => "NoneType"
  | .bool _ => "bool"
  | .int _ => "int"
  | .str _ => "str"
  | .list _ => "list"
  | .tuple _ => "tuple"
  | .dict _ => "dict"
theorem Dq.ty {K : PySem.W.Frag} {H : Hp} {v : V} {d : PyData} (h : Dq H v d) : TyX K H v (.type (tyD d)) := by
  cases h with
  | non => exact .base .non
  | bl b => exact .base (.bl b)
  | int i => exact .base (.int i)
  | str x => exact .base (.str x)
  | lst e _ _ => exact .base (.lst e)
  | tup e _ => exact .base (.tup e)
  | dct e _ => exact .base (.dK e)
theorem is_str {K : PySem.W.Frag} (d : PyData) : PySem.W.kitOne K (.type (tyD d)) (.type "str") = some (decide (tyD d = "str")) := by
  cases d with
  | none  => exact (kit_ty (r := false) (by decide +kernel) : PySem.W.kitOne K (.type "NoneType") (.type "str") = some false)
  | bool _ => exact (kit_ty (r := false) (by decide +kernel) : PySem.W.kitOne K (.type "bool") (.type "str") = some false)
  | int _ => exact (kit_ty (r := false) (by decide +kernel) : PySem.W.kitOne K (.type "int") (.type "str") = some false)
  | str _ => exact (kit_ty (r := true) (by decide +kernel) : PySem.W.kitOne K (.type "str") (.type "str") = some true)
  | list _ => exact (kit_ty (r := false) (by decide +kernel) : PySem.W.kitOne K (.type "list") (.type "str") = some false)
  | tuple _ => exact (kit_ty (r := false) (by decide +kernel) : PySem.W.kitOne K (.type "tuple") (.type "str") = some false)
  | dict _ => exact (kit_ty (r := false) (by decide +kernel) : PySem.W.kitOne K (.type "dict") (.type "str") = some false)
theorem is_tup {K : PySem.W.Frag} (d : PyData) : PySem.W.kitOne K (.type (tyD d)) (.type "tuple") = some (decide (tyD d = "tuple")) := by
  cases d with
  | none  => exact (kit_ty (r := false) (by decide +kernel) : PySem.W.kitOne K (.type "NoneType") (.type "tuple") = some false)
  | bool _ => exact (kit_ty (r := false) (by decide +kernel) : PySem.W.kitOne K (.type "bool") (.type "tuple") = some false)
  | int _ => exact (kit_ty (r := false) (by decide +kernel) : PySem.W.kitOne K (.type "int") (.type "tuple") = some false)
  | str _ => exact (kit_ty (r := false) (by decide +kernel) : PySem.W.kitOne K (.type "str") (.type "tuple") = some false)
  | list _ => exact (kit_ty (r := false) (by decide +kernel) : PySem.W.kitOne K (.type "list") (.type "tuple") = some false)
  | tuple _ => exact (kit_ty (r := true) (by decide +kernel) : PySem.W.kitOne K (.type "tuple") (.type "tuple") = some true)
  | dict _ => exact (kit_ty (r := false) (by decide +kernel) : PySem.W.kitOne K (.type "dict") (.type "tuple") = some false)
def isAl (c : Nat) : Bool := inS LTR c || inS DIG c
/-! what is asked of trees, as functions -/
def wordD : PyData → Bool
  | .str x => decide (x.length ≤ 12) && (match x.cps.toList with
    | [] => false
    | c :: r => inS LTR c && (c :: r).all isAl)
  | _ => false
def forkD : PyData → Bool
  | .tuple ds => decide (ds.length = 3)
  | _ => false
def emptyD : PyData → Bool
  | .tuple ds => decide (ds.length = 0)
  | _ => false
def nthD (d : PyData) (i : Nat) : PyData := match d with
  | .tuple ds => ds.getD i .none
  | _ => .none
def noneD : PyData → Bool
  | .none => true
  | _ => false
/-- the first wrong side, if any -/
def wrongF : Nat → PyData → Option (List Int)
  | 0, _ => some []
  | n + 1, d => if wordD d = true then none else if forkD d = false then some [] else match wrongF n (nthD d 0) with
    | some p => some (0 :: p)
    | none => match wrongF n (nthD d 1) with
      | some p => some (1 :: p)
      | none => if noneD (nthD d 2) = true ∨ wordD (nthD d 2) = true then none else some [2]
def leavesF : Nat → PyData → List PyData
  | 0, _ => []
  | n + 1, d => if forkD d = true then leavesF n (nthD d 0) ++ leavesF n (nthD d 1) else if emptyD d = true then [] else [d]
def forksF : Nat → PyData → List PyData
  | 0, _ => []
  | n + 1, d => if forkD d = false then [] else [.tuple [nthD d 2, .tuple (leavesF n (nthD d 0)), .tuple (leavesF n (nthD d 1))]] ++ forksF n (nthD d 0) ++ forksF n (nthD d 1)
theorem Dq.fork {H : Hp} {v : V} {d : PyData} (h : Dq H v d) (f : forkD d = true) : ∃ (a : Addr) (x y z : V), v = .ref a ∧ H a = some (.tup [x, y, z]) ∧ Dq H x (nthD d 0) ∧ Dq H y (nthD d 1) ∧ Dq H z (nthD d 2) := by
  cases h with
  | tup e hs =>
    rename_i a xs ds
    have l : ds.length = 3 := of_decide_eq_true f
    match ds, xs, hs, l with
    | [d0, d1, d2], [x, y, z], .cons h0 (.cons h1 (.cons h2 .nil)), _ => exact ⟨a, x, y, z, rfl, e, h0, h1, h2⟩
  | non => cases f
  | bl _ => cases f
  | int _ => cases f
  | str _ => cases f
  | lst _ _ _ => cases f
  | dct _ _ => cases f
end My

namespace My
open PySem PySem.Spec PyProof.Rows L2
section
variable {P : Program} {w : World} {K : PySem.W.Frag} {mg : Str → Option Value} {base : Heap}
theorem max1 {n : Int} (h : 1 ≤ n) : (if n > 1 then n else 1) = n := by
  by_cases e : n > 1
  · rw [if_pos e]
  · rw [if_neg e]; omega
/-- the number of cells that are left -/
def cellsLeft (c : Addr) (H : Hp) : Nat := match H c with
  | some (.lst xs) => xs.length
  | _ => 0
theorem ok_pick (T : Tx K mg) : FnOk P w K mg base CX0 1 T.a_law_pick T.fd_law_pick ["_law_source_here", "_law_many"] spPick := by
  refine T.F_law_pick.ok sc_law_pick (fun vs H Q E h => ?_) (fun cdv A outer st H vs Q E hr h => ?_)
  · obtain ⟨s, c, n, rfl, _⟩ := h
    rfl
  obtain ⟨s, c, n, rfl, hS, h1, h2, k⟩ := h
  have hu := hu_of hr
  refine ⟨_, ((pss_cons (ps_while PassesOwn.never (PW.pt (pw_and (pt_cmpR op_gt (pv 1) pe_int (nomark _)) (pw_and (pt_cmpR op_lt (pe_dget hu (pv 0) pe_str (fun _ _ => rfl)) pe_int (nomark _)) (pw_and1 (pt_cmpR op_gt (pe_callB call_len_seq (by rfl) T.n_len (by decide +kernel) (pa_cons (pe_dget hu (pv 0) pe_str (fun _ _ => rfl)) pa_nil)) pe_int (nomark _))))))
        (pss_one (ps_dput hu (pv 0) pe_str (pe_bm0 PySem.F.plainAttrs_list PySem.F.slot_list_pop PySem.F.type_list_pop mt_pop (pe_dget hu (pv 0) pe_str (fun _ _ => rfl))) rfl)))
      (pss_cons (ps_set (i := 2) sc_law_pick.nd rfl (Or.inl rfl) (pe_dget hu (pv 0) pe_str (fun _ _ => rfl)))
      (pss_cons (ps_if (PW.pt (pw_or (pt_cmpR op_lt (pv 1) pe_int (nomark _)) (pw_or1 (pt_cmpR op_gt (pv 2) pe_int (nomark _)))))
        (pss_cons (ps_dput hu (pv 0) pe_str (pe_op op_fdiv (pv 2) (pe_callB (call_max2 rfl) (by rfl) T.n_max (by decide +kernel) (pa_cons pe_int (pa_cons (pv 1) pa_nil)))) rfl)
      (pss_one (ps_ret (pe_op op_mod (pe_callTy call_int1 (by rfl) T.n_int (by decide +kernel) (pa_cons (pv 2) pa_nil)) (pe_callB (call_max2 rfl) (by rfl) T.n_max (by decide +kernel) (pa_cons pe_int (pa_cons (pv 1) pa_nil)))))))
        pss_nil)
      (pss_cons (ps_dput hu (pv 0) pe_str (pe_op op_add (pe_dget hu (pv 0) pe_str (fun _ _ => rfl)) pe_int) rfl)
      (pss_cons (ps_set (i := 3) sc_law_pick.nd rfl (Or.inl rfl) (pe_op op_mod (pe_callTy call_int1 (by rfl) T.n_int (by decide +kernel) (pa_cons (pe_op op_add (pe_dget hu (pv 0) pe_str (fun _ _ => rfl)) (pe_op op_mul (pe_dget hu (pv 0) pe_str (fun _ _ => rfl)) pe_int)) pa_nil)) pe_int))
      (pss_cons (ps_set (i := 3) sc_law_pick.nd rfl (Or.inl rfl) (pe_op op_mod (pe_callTy call_int1 (by rfl) T.n_int (by decide +kernel) (pa_cons (pe_op op_add (pe_op op_mul (pv 3) (pv 3)) (pe_op op_mul (pe_dget hu (pv 0) pe_str (fun _ _ => rfl)) pe_int)) pa_nil)) pe_int))
      (pss_cons (ps_dput hu (pv 0) pe_str (pv 3) rfl)
      (pss_one (ps_ret (pe_op op_mod (pe_callTy call_int1 (by rfl) T.n_int (by decide +kernel) (pa_cons (pe_op op_fdiv (pv 3) pe_int) pa_nil)) (pv 1)))))))))))), ?_⟩
  -- the while
  refine while_b (fun σ H' => σ = [some (.ref s), some (.int n), none, none] ∧ Go s c H H') (fun _ H' => cellsLeft c H') ⟨rfl, Go.refl hS⟩ ?_
  rintro σ H1 ⟨rfl, g⟩
  obtain ⟨l, m, t, ns, S⟩ := id g.src
  have gs : ∀ (x : Str) (v : V), valV (srcD c l m t) (Sum.inr x) = some v → DGet H1 s (.str x) (some v) := fun x v e => by
    rw [← e]
    exact DGet.k (k := Sum.inr x) S.hs
  by_cases hw : 1 < n ∧ l < 2 ∧ ns ≠ []
  · obtain ⟨w1, w2, w3⟩ := hw
    refine ⟨true, fun Q' q => ?_, ?_⟩
    · refine ⟨_, rfl, _, _, rfl, rfl, _, rfl, iteD (fun _ => ?_) (fun z => absurd w1 z)⟩
      refine ⟨_, rfl, s, _, rfl, gs "left" _ (get_left _ _ _ _), _, _, rfl, rfl, _, rfl, iteD (fun _ => ?_) (fun z => absurd w2 z)⟩
      refine ⟨_, rfl, s, _, rfl, gs "cells" _ (get_cells _ _ _ _), c, _, rfl, .inl (SqL.of S.hc), _, _, rfl, rfl, _, rfl, ?_⟩
      have e : decide ((0 : Int) < (((ns.map V.int).length : Nat) : Int)) = true := by
        rw [List.length_map]
        cases ns with
        | nil => exact absurd rfl w3
        | cons a r => exact decide_eq_true (by rw [List.length_cons]; omega)
      rw [e]
      exact q
    · refine iteT ?_
      have hlast : ∃ (y : Int), (ns.map V.int)[(ns.map V.int).length - 1]? = some (.int y) ∧ 0 ≤ y := by
        have hp : 0 < ns.length := List.length_pos_iff.mpr w3
        refine ⟨ns[ns.length - 1], ?_, S.n0 _ (List.getElem_mem _)⟩
        rw [List.length_map, List.getElem?_map, List.getElem?_eq_getElem (by omega)]
        rfl
      obtain ⟨y, ey, y0⟩ := hlast
      have hsc : s ≠ c := S.ne
      refine ⟨_, rfl, s, _, rfl, gs "cells" _ (get_cells _ _ _ _), .inl ⟨rfl, _, SqL.of S.hc⟩, c, _, _, rfl, rfl, S.hc, ey, ?_⟩
      refine ⟨_, rfl, s, _, rfl, DPut.k (k := Sum.inr "left") (kvs := srcD c l m t) (by rw [upd_ne hsc]; exact S.hs) (by show 4 < sizeLine; decide), ?_⟩
      rw [put_left]
      have S2 : SrcL (upd (upd H1 c (.lst (ns.map V.int).dropLast)) s (.dK (srcD c y m t))) s c y m t ns.dropLast :=
        ⟨upd_same, by rw [upd_ne hsc.symm, upd_same, List.map_dropLast], y0, S.m0, S.m1, S.t0, fun n h => S.n0 n (List.dropLast_subset _ h), by rw [List.length_dropLast]; have := S.len; omega⟩
      refine ⟨⟨rfl, ⟨fun a o h1 h2 e => ?_, _, _, _, _, S2⟩⟩, ?_⟩
      · rw [upd_ne h1, upd_ne h2]
        exact g.keep a o h1 h2 e
      · show cellsLeft c _ < cellsLeft c _
        unfold cellsLeft
        rw [S2.hc, S.hc]
        show (ns.dropLast.map V.int).length < (ns.map V.int).length
        rw [List.length_map, List.length_map, List.length_dropLast]
        have hp : 0 < ns.length := List.length_pos_iff.mpr w3
        omega
  · refine ⟨false, fun Q' q => ?_, iteF ?_⟩
    · refine ⟨_, rfl, _, _, rfl, rfl, _, rfl, iteD (fun w1 => ?_) (fun _ => q)⟩
      refine ⟨_, rfl, s, _, rfl, gs "left" _ (get_left _ _ _ _), _, _, rfl, rfl, _, rfl, iteD (fun w2 => ?_) (fun _ => q)⟩
      refine ⟨_, rfl, s, _, rfl, gs "cells" _ (get_cells _ _ _ _), c, _, rfl, .inl (SqL.of S.hc), _, _, rfl, rfl, _, rfl, ?_⟩
      have e0 : ns = [] := by
        cases e : ns with
        | nil => rfl
        | cons a r => exact absurd ⟨w1, w2, by rw [e]; exact List.cons_ne_nil _ _⟩ hw
      have e : decide ((0 : Int) < (((ns.map V.int).length : Nat) : Int)) = false := by
        rw [e0]
        rfl
      rw [e]
      exact q
    -- behind the while
    refine ⟨_, rfl, s, _, rfl, gs "left" _ (get_left _ _ _ _), ?_⟩
    have put : ∀ (l' m' t' : Int), 0 ≤ l' → 0 ≤ m' → m' < 4294967296 → 0 ≤ t' → ∀ H2, Go s c H H2 → (∀ b, b ≠ s → H2 b = H1 b) → SrcL (upd H2 s (.dK (srcD c l' m' t'))) s c l' m' t' ns ∧ Go s c H (upd H2 s (.dK (srcD c l' m' t'))) := fun l' m' t' a1 a2 a3 a4 H2 g2 e2 => by
      have S3 : SrcL (upd H2 s (.dK (srcD c l' m' t'))) s c l' m' t' ns := ⟨upd_same, by rw [upd_ne S.ne.symm, e2 _ S.ne.symm]; exact S.hc, a1, a2, a3, a4, S.n0, S.len⟩
      refine ⟨S3, fun a o h1 h2 e => ?_, _, _, _, _, S3⟩
      rw [upd_ne h1]
      exact g2.keep a o h1 h2 e
    have sz : (srcD c l m t).length < sizeLine := by show 4 < sizeLine; decide
    -- if many < 2 or left > 1
    refine ⟨_, rfl, _, _, rfl, rfl, _, rfl, iteD (fun c1 => ?ga) (fun c1 => ⟨_, rfl, _, _, rfl, rfl, _, rfl, iteD (fun c2 => ?gb) (fun c2 => ?gc)⟩)⟩
    case gc =>
      -- the mixed number
      have S2 := put l m (t + 1) S.l0 S.m0 S.m1 (by have := S.t0; omega) H1 g (fun _ _ => rfl)
      refine ⟨_, rfl, s, _, rfl, gs "turn" _ (get_turn _ _ _ _), _, _, rfl, rfl, _, rfl, s, _, rfl, DPut.k (k := Sum.inr "turn") S.hs sz, ?_⟩
      rw [put_turn]
      have gs2 : ∀ (x : Str) (v : V), valV (srcD c l m (t + 1)) (Sum.inr x) = some v → DGet (upd H1 s (.dK (srcD c l m (t + 1)))) s (.str x) (some v) := fun x v e => by
        rw [← e]
        exact DGet.k (k := Sum.inr x) upd_same
      refine ⟨_, rfl, s, _, rfl, gs2 "mixed" _ (get_mixed _ _ _ _), _, rfl, s, _, rfl, gs2 "turn" _ (get_turn _ _ _ _), _, _, rfl, rfl, .inr ⟨by decide, by decide⟩, _, _, rfl, rfl, .inl ⟨_, rfl, _, _, rfl, rfl, (by show (0 : Int) < 998244353; decide), ?_⟩⟩
      generalize hm : (m + (t + 1) * 104729) % 998244353 = m1
      have hm0 : 0 ≤ m1 ∧ m1 < 998244353 := by rw [← hm]; omega
      refine ⟨_, rfl, _, rfl, _, _, rfl, rfl, .inl ⟨by omega, by omega⟩, _, rfl, s, _, rfl, gs2 "turn" _ (get_turn _ _ _ _), _, _, rfl, rfl, .inr ⟨by decide, by decide⟩, _, _, rfl, rfl, .inl ⟨_, rfl, _, _, rfl, rfl, (by show (0 : Int) < 2147483647; decide), ?_⟩⟩
      generalize hn : (m1 * m1 + (t + 1) * 17) % 2147483647 = m2
      have hn0 : 0 ≤ m2 ∧ m2 < 2147483647 := by rw [← hn]; omega
      refine ⟨_, rfl, _, rfl, s, _, rfl, DPut.k (k := Sum.inr "mixed") S2.1.hs (by show 4 < sizeLine; decide), ?_⟩
      rw [put_mixed]
      have S3 := put l m2 (t + 1) S.l0 hn0.1 (by omega) (by have := S.t0; omega) _ S2.2 (fun b hb => upd_ne hb)
      refine ⟨_, rfl, _, _, rfl, rfl, ⟨by decide, by decide⟩, .inl ⟨_, rfl, _, rfl, _, _, rfl, rfl, (by omega : (0 : Int) < n), ?_⟩⟩
      subst hn
      subst hm
      exact k _ _ (Int.emod_nonneg _ (by omega)) (Int.emod_lt_of_pos _ (by omega)) S3.2
    all_goals
      have S2 := put (l / n) m t (Int.ediv_nonneg S.l0 (by omega)) S.m0 S.m1 S.t0 H1 g (fun _ _ => rfl)
      refine ⟨_, rfl, _, rfl, _, _, rfl, _, _, rfl, rfl, (by rw [max1 h1]; exact ⟨by omega, by omega⟩), _, rfl, s, _, rfl, DPut.k (k := Sum.inr "left") S.hs sz, ?_⟩
      rw [put_left, max1 h1]
      refine ⟨_, rfl, .inl ⟨_, rfl, _, rfl, _, _, rfl, _, _, rfl, rfl, (by rw [max1 h1]; omega : (0 : Int) < if n > 1 then n else 1), ?_⟩⟩
      rw [max1 h1]
      exact k _ _ (Int.emod_nonneg _ (by omega)) (Int.emod_lt_of_pos _ (by omega)) S2.2
theorem ok_of (T : Tx K mg) : FnOk P w K mg base CX0 2 T.a_law_of T.fd_law_of ["_law_source_here", "_law_some"] (spOf K) := by
  refine T.F_law_of.ok sc_law_of (fun vs H Q E h => ?_) (fun cdv A outer st H vs Q E hr h => ?_)
  · obtain ⟨s, c, a, xs, rfl, _⟩ := h
    rfl
  obtain ⟨s, c, a, xs, rfl, hS, ha, nac, h1, h2, k⟩ := h
  have G_law_pick : FnOk P w K mg base CX0 1 T.a_law_pick T.fd_law_pick ["_law_source_here", "_law_many"] spPick := ok_pick T
  have hr_law_pick : Room 1 _ := hr
  refine ⟨_, ((pss_one (ps_ret (pe_ix (show IxR _ (rIxL K) from ix_list) (pv 1) (pe_call G_law_pick hr_law_pick rfl T.m_law_pick T.F_law_pick.kp T.b_law_pick .nil pass0 (pa_cons (pv 0) (pa_cons (pe_callB call_len_seq (by rfl) T.n_len (by decide +kernel) (pa_cons (pv 1) pa_nil)) pa_nil))) (fun _ _ => rfl))))), ?_⟩
  refine ⟨_, rfl, _, rfl, _, rfl, a, _, rfl, .inl (SqL.of ha), s, c, _, rfl, hS, by omega, by omega, fun i H' i0 i1 g => ?_⟩
  obtain ⟨j, rfl⟩ : ∃ j : Nat, i = (j : Int) := ⟨i.toNat, by omega⟩
  have hj : j < xs.length := by omega
  exact ⟨a, xs, _, xs[j], rfl, rfl, SqL.of (g.lst hS ha nac), atI_nat (List.getElem?_eq_getElem hj), k j _ H' (List.getElem?_eq_getElem hj) g⟩
theorem ok_source (T : Tx K mg) : FnOk P w K mg base CX0 1 T.a_law_source T.fd_law_source ["_law_script_here"] (spSource K) := by
  refine T.F_law_source.ok sc_law_source (fun vs H Q E h => ?_) (fun cdv A outer st H vs Q E hr h => ?_)
  · obtain ⟨a, ns, rfl, _⟩ := h
    rfl
  obtain ⟨a, ns, rfl, hS, hl, k⟩ := h
  refine ⟨_, ((pss_cons (ps_set (i := 1) sc_law_source.nd rfl (Or.inl rfl) pe_int)
      (pss_cons (ps_for PassesOwn.never rfl (pi_list (pv 0)) (pg_name (i := 2) sc_law_source.nd rfl (Or.inl rfl))
        (pss_one (ps_set (i := 1) sc_law_source.nd rfl (Or.inl rfl) (pe_op op_mod (pe_callTy call_int1 (by rfl) T.n_int (by decide +kernel) (pa_cons (pe_op op_add (pe_op op_add (pe_op op_mul (pv 1) pe_int) (pe_op op_mul (pv 2) pe_int)) pe_int) pa_nil)) pe_int))))
      (pss_one (ps_ret (pe_disp (pps_cons pe_str (pe_revL (pe_lc (own := [("_law_cell", 2)]) (by rfl) sc_law_source.nd (pi_list (pv 0)) (blkOk_by (own := [("_law_cell", 2)]) (N := ["_law_script_here", "_law_mixed_here", "_law_cell"]) (sc := defScope s_law_source) (by decide +kernel)) (fun _ _ _ _ _ => pg_name (i := 2) sc_law_source.nd rfl (Or.inl rfl)) (fun _ _ _ _ _ => pts_nil) (fun _ _ _ _ _ => (pe_callB call_abs (by rfl) T.n_abs (by decide +kernel) (pa_cons (pv 2) pa_nil))))) (pps_cons pe_str pe_int (pps_cons pe_str (pv 1) (pps_cons pe_str pe_int pps_nil)))) (by rfl) (by rfl) (fun z => by cases z) (by decide))))))), ?_⟩
  refine ⟨_, rfl, a, rfl, ⟨_, hS⟩, for_list (K := K) (a := a) (xs := ns.map V.int) (fun i σ H' => ∃ (m : Int) (v : Option V), σ = [some (.ref a), some (.int m), v] ∧ H' = H ∧ 0 ≤ m ∧ m < 2147483629) ⟨11, none, rfl, rfl, by decide, by decide⟩ (fun i σ H' _ ⟨_, _, _, e, _⟩ => e ▸ hS) ?_ ?_⟩
  · rintro i y σ H' hi ⟨m, v, rfl, rfl, m0, m1⟩
    obtain ⟨u, rfl⟩ : ∃ u, y = V.int u := by
      rw [List.getElem?_map] at hi
      cases e : ns[i]? with
      | none => rw [e] at hi; cases hi
      | some u => rw [e] at hi; exact ⟨u, (Option.some.inj hi).symm⟩
    refine ⟨_, rfl, _, _, rfl, rfl, .inr ⟨by decide, by decide⟩, _, rfl, _, _, rfl, rfl, .inr ⟨by decide, by decide⟩, _, _, rfl, rfl, _, _, rfl, rfl, .inl ⟨_, rfl, _, _, rfl, rfl, (by show (0 : Int) < 2147483629; decide), ?_⟩⟩
    exact ⟨_, _, rfl, rfl, Int.emod_nonneg _ (by decide), Int.emod_lt_of_pos _ (by decide)⟩
  · rintro σ H' ⟨m, v, rfl, rfl, m0, m1⟩
    intro p hp
    have s0 := same_new hp (.dK [])
    refine ⟨_, rfl, a, rfl, ⟨_, s0.seq hS⟩, fun D hD => ?_⟩
    have npD : p ≠ D := ne_of_none upd_same hD
    refine lc_list (K := K) (a := a) (xs := ns.map V.int) (fun i H2 => Same (upd H' p (.dK [])) H2 ∧ H2 D = some (.lst (((ns.take i).map fun n => if n < 0 then -n else n).map V.int))) ⟨same_new hD _, upd_same⟩ (fun i H2 _ z => z.1.seq (s0.seq hS)) ?_ ?_
    · rintro i y H2 hi ⟨s1, e1⟩
      have hil : i < ns.length := by
        have q := (List.getElem?_eq_some_iff.mp hi).1
        rw [List.length_map] at q
        exact q
      have ey : y = V.int ns[i] := by
        rw [List.getElem?_map, List.getElem?_eq_getElem hil] at hi
        exact (Option.some.inj hi).symm
      subst ey
      refine ⟨rfl, ?_⟩
      refine ⟨_, rfl, _, rfl, _, e1, ?_, ?_, ?_⟩
      · rw [List.length_map, List.length_map, List.length_take]
        exact small1000 (by omega)
      · intro b o e
        rw [upd_ne (ne_of_none e hD)]
        exact s1 b o e
      · rw [upd_same, List.take_succ_eq_append_getElem hil, List.map_append, List.map_append]
        rfl
    · rintro H2 ⟨s1, e1⟩
      refine ⟨D, _, rfl, SqL.of e1, fun c hc => ?_⟩
      have ncp : p ≠ c := ne_of_none (s1 _ _ upd_same) hc
      refine ⟨_, rfl, ?_⟩
      have ep : upd H2 c (.lst ((((ns.take (ns.map V.int).length).map fun n => if n < 0 then -n else n).map V.int).reverse)) p = some (.dK []) := by
        rw [upd_ne ncp]
        exact s1 _ _ upd_same
      refine ⟨ep, srcD c 1 m 0, rfl, (by show 4 ≤ 15; decide), ?_⟩
      rw [srcD_made]
      refine k p c _ ?_ hp ?_ ?_
      · intro b o e
        have nbp : b ≠ p := ne_of_none e hp
        have e2 := s1 b o (by rw [upd_ne nbp]; exact e)
        rw [upd_ne nbp, upd_ne (ne_of_none e2 hc)]
        exact e2
      · exact s0.free (s1.free hc)
      · refine ⟨1, m, 0, ((ns.take (ns.map V.int).length).map fun n => if n < 0 then -n else n).reverse, upd_same, ?_, by decide, m0, by omega, by decide, ?_, ?_⟩
        · rw [upd_ne ncp.symm, upd_same, List.map_reverse]
        · intro n hn
          rw [List.mem_reverse, List.mem_map] at hn
          obtain ⟨q, _, rfl⟩ := hn
          split <;> omega
        · rw [List.length_reverse, List.length_map, List.length_take]
          omega
end
end My

namespace My
open PySem PySem.Spec PyProof.Rows L2
/-! ### enumerate of a list or a tuple -/
set_option maxHeartbeats 1000000 in
theorem enum_new1 {v : Value} {o : Obj} {Hh : Heap → Prop} (B : Begins v o Hh) :
    Meets (Builtin.«enumerate.__new__» ⟨[.type "enumerate", v], []⟩) fun _ R s => Hh s.heap ∧ R (.ok (.ret (.ref (s.heap.push o).objs.size)))
      { s with heap := (s.heap.push o).push { cls := .type "enumerate", data := .fields #[.none, .bool false, .ref s.heap.objs.size, rawInt 0, .none, .none] } } := by
  refine .of_wp fun prog w A R s z => ?_
  obtain ⟨hp, g, d, tk, os⟩ := s
  obtain ⟨z1, z2⟩ := z
  have sb := sub_enumerate
  have it1 : ∀ {A' : Around} {E : Value → Shared → Prop} {Q : Value → Shared → Prop}, Q (.ref hp.objs.size) ⟨hp.push o, g, d, tk, os⟩ → wpAny (model prog w) A' (pyIter v) Q E ⟨hp, g, d, tk, os⟩ := fun q => B.iter prog w _ _ ⟨hp, g, d, tk, os⟩ _ z1 q
  wp_walk using it1
  refine wpAny_stack_any fun _ => (wpAny_pure ?_)
  split
  · rename_i cc _ _ _ _ _
    cases (cc == Value.type "enumerate") <;> (wp_walk using it1; exact ⟨_, rfl, z2⟩)
  · wp_walk using it1; exact ⟨_, rfl, z2⟩
theorem enum_begins1 {prog : Program} {w : World} {A : Around} {E : Value → Shared → Prop} {s : Shared} {v : Value} {o : Obj} {Hh : Heap → Prop} {Q : Value → Shared → Prop} (B : Begins v o Hh) (z : Hh s.heap)
    (q : ∀ g, IsEnum g (s.heap.objs.size + 1) s.heap.objs.size 0 .none → g.get? s.heap.objs.size = some o → (∀ b u, s.heap.get? b = some u → g.get? b = some u) → Q (.ref (s.heap.objs.size + 1)) { s with heap := g }) :
    wpAny (model prog w) A (call (.type "enumerate") [v]) Q E s := by
  refine callType_new F.called_enumerate (by decide) (F.typeCall_enumerate_1 _) (F.newCall_enumerate_1 _) (fun ob => F.args_object_init_2 ob _) F.entry_enumerate_new (enum_new1 B) ⟨z, ?_⟩
  have sz : (s.heap.push o).objs.size = s.heap.objs.size + 1 := Heap.size_push ..
  have en : IsEnum ((s.heap.push o).push { cls := .type "enumerate", data := .fields #[.none, .bool false, .ref s.heap.objs.size, rawInt 0, .none, .none] }) (s.heap.objs.size + 1) s.heap.objs.size 0 .none := by
    have e := Heap.get?_push_size (s.heap.push o) (o := { cls := .type "enumerate", data := .fields #[.none, .bool false, .ref s.heap.objs.size, rawInt 0, .none, .none] }) rfl
    rw [sz] at e
    exact e
  show _ ∧ _
  rw [sz]
  exact ⟨⟨_, en, rfl⟩, q _ en (Heap.get?_push_of_some _ (Heap.get?_push_size _ B.free)) fun b u e => Heap.get?_push_of_some _ (Heap.get?_push_of_some _ e)⟩
/-- the sequence at a as it stands at each turn, each item in a new pair -/
def IteM (k : Bool) (K : PySem.W.Frag) (a : Addr) : It :=
  ⟨fun n M => ∃ (p : List V) (u : V), SqK k K M a p ∧ p[n]? = some u, fun n M y M' => ∃ (C : Addr) (u : V), y = .ref C ∧ M C = none ∧ M' = upd M C (.tup [.int (n : Nat), u]) ∧ ∀ p, SqK k K M a p → p[n]? = some u,
    fun n M => ∃ p : List V, SqK k K M a p ∧ n = p.length⟩
def ESt (k : Bool) (e i a : Addr) (n : Nat) (h : Heap) : Prop := (∃ old, IsEnum h e i ((n : Nat) : Int) old) ∧ ItK k h i a n ∧ e ≠ i ∧ e ≠ a ∧ a ≠ i
theorem in2 {e i c : Addr} (h : c ∈ [e, i]) : c = e ∨ c = i := by simpa using h
theorem turn_enumM {P : Program} {w : World} {K : PySem.W.Frag} {elts : List Expr} {kk : Nat} {tpos : Pos} {k : Bool} {a e i : Addr} :
    Turn P w K (.Tuple elts kk tpos) (IteM k K a) [e, i] e (ESt k e i a) where
  mem := by simp
  obj := by
    intro n h S c hc
    obtain ⟨⟨old, S1⟩, S2, _⟩ := S
    rcases in2 hc with rfl | rfl
    · exact ⟨_, S1, fun v q => nomatch q⟩
    · exact S2.ob
  keep := by
    intro n h h' S q
    obtain ⟨⟨old, S1⟩, S2, S3⟩ := S
    exact ⟨⟨old, q _ (by simp) _ S1⟩, S2.to (q _ (by simp)), S3⟩
  item := by
    intro X hP hw hK hc n pins s σ M E I fr S go
    subst hP hw hK
    obtain ⟨⟨old, S1⟩, S2, n1, n2, n3⟩ := S
    obtain ⟨p, u, Lp, eu⟩ := go
    obtain ⟨is, rp, hp, _⟩ := readK I Lp
    have lp : n < is.toArray.size := by
      have := (List.getElem?_eq_some_iff.mp eu).1
      have := rp.length
      rw [List.size_toArray]; omega
    have el : e < s.heap.objs.size := Heap.lt_size S1
    have hd1 : X.A.in1.handled = none := I.ok.hd hc
    refine wpAny_pyNext_enum_itemD (drawK hd1 k i a n3 is.toArray) S1 ⟨S2, hp⟩ lp n1 (by simp; exact ⟨n1, n2⟩) ?_
    intro x g tk Pu ho s4 hT sz kp
    obtain ⟨w1, hw1, r1⟩ := rp.get eu
    obtain rfl : x = w1 := by
      have h1 : is[n]? = some x := by simpa using Pu
      rw [hw1] at h1; exact (Option.some.inj h1).symm
    refine ⟨_, rfl, wpAny_letOwnedTupleGo_enum (s := { s with heap := g, toks := tk + 1 }) ho fun g' z3 sb => ?_⟩
    have nz : s.heap.objs.size ≠ e := Nat.ne_of_gt el
    have hT' : g'.get? s.heap.objs.size = some { cls := .type "tuple", data := .seq #[.int n tk, x] } := (sb.2 _ nz).trans hT
    have ok : ObjOk X.prog X.w (upd M s.heap.objs.size (.tup [.int (n : Nat), u])) g' s.heap.objs.size (.tup [.int (n : Nat), u]) :=
      ⟨(by show 2 ≤ sizeLine; decide), [.int n tk, x], .cons ⟨_, rfl⟩ (.cons r1 .nil), _, hT', rfl, _, rfl⟩
    have J : Inv X pins σ (upd M s.heap.objs.size (.tup [.int (n : Nat), u])) { s with heap := g', toks := tk + 1 } := by
      refine I.turnedNew (t' := tk + 1) (ch := [e, i]) (fun c o hb q => ?_) fr (Nat.le_refl _) ok
      have nb : c ≠ e ∧ c ≠ i := by simpa using hb
      exact (sb.2 c nb.1).trans (kp c o nb.1 nb.2 q)
    refine ⟨.ref s.heap.objs.size, _, J, rfl, ⟨_, u, rfl, I.hok.fresh (Nat.le_refl _), rfl, fun p' hp' => ?_⟩, ⟨⟨x, ?_⟩, s4.1.to fun o q => (sb.2 _ n1.symm).trans q, n1, n2, n3⟩, fun c hcm => ?_⟩
    · rw [injK I hp' Lp]; exact eu
    · have e1 : ((n + 1 : Nat) : Int) = (n : Int) + 1 := by omega
      rw [e1]; exact z3
    · have lt : c < s.heap.objs.size := by
        rcases in2 hcm with rfl | rfl
        · exact el
        · obtain ⟨o, q, _⟩ := S2.ob; exact Heap.lt_size q
      rw [upd_ne (Nat.ne_of_lt lt)]
      exact (fr c hcm).1
  done := by
    intro X hP hw hK hc n pins s σ M E I fr S stop
    subst hP hw hK
    obtain ⟨⟨old, S1⟩, S2, n1, n2, n3⟩ := S
    obtain ⟨p, Lp, le⟩ := stop
    obtain ⟨is, rp, hp, _⟩ := readK I Lp
    have ep := rp.length
    have hd1 : X.A.in1.handled = none := I.ok.hd hc
    have sz : is.toArray.size = n := by rw [List.size_toArray]; omega
    refine wpAny_pyNext_enum_endD (drawK hd1 k i a n3 is.toArray) S1 (by rw [sz]; exact ⟨S2, hp⟩) fun g eb => ?_
    refine ⟨rfl, I.turnedL (t' := s.toks) (ch := [e, i]) (fun c o hb q => eb c o (fun z => hb (by simp [z])) q) fr⟩
  self := fun A n s Q E S h => by
    obtain ⟨⟨old, S1⟩, _⟩ := S
    exact wpAny_pyIter_enum S1 h
def iEnumM (K : PySem.W.Frag) (ta : TA) : TI := fun σ M R => ta σ M fun vs M1 => ∃ (k : Bool) (a : Addr) (p : List V), vs = [.ref a] ∧ SqK k K M1 a p ∧ R (IteM k K a) M1
theorem pi_enumM {X : Cx} {e : Expr} {ta : TA} {p pos tpos : Pos} {elts : List Expr} {kk : Nat} (hg : Gl X "enumerate") (hm : X.mg "enumerate" = none) (ha : PA X [e] ta) (hs : starEach [e] X.env = [(false, eval e X.env)] := by rfl) :
    PI X (.Tuple elts kk tpos) (.Call (.Name "enumerate" p) [e] [] pos) (iEnumM X.K ta) := by
  refine ⟨fun pins s σ M R I h => Call_ (ld_blt I hg hm boot_enumerate (PyProof.Rows.callWith_type1 (thn (ha.run pos pins s σ M _ I h) fun us s1 hh => ?_) hs rfl))⟩
  obtain ⟨vs, M1, I1, r1, k, a, xs, ev, Lx, q⟩ := hh
  subst ev
  obtain ⟨u1, rfl, e1⟩ := vals1 r1
  cases (show u1 = Value.ref a from e1)
  obtain ⟨is, rp, hp, la⟩ := readK I1 Lx
  obtain ⟨o1, B1, t1⟩ := beginK k a is.toArray
  refine enum_begins1 B1 hp fun g z1 g1 kp => wpAny_pyIter_enum z1 ?_
  have J : Inv X pins σ M1 { s1 with heap := g } := I1.kept (t' := s1.toks) kp
  refine ⟨s1.heap.objs.size + 1, [s1.heap.objs.size + 1, s1.heap.objs.size], _, _, M1, rfl, J, turn_enumM (e := s1.heap.objs.size + 1) (i := s1.heap.objs.size), ⟨⟨.none, z1⟩, t1 _ _ g1, Nat.succ_ne_self _, Nat.ne_of_gt (Nat.lt_succ_of_lt la), Nat.ne_of_lt la⟩, fun c hcm => ?_, q⟩
  have le : s1.heap.objs.size ≤ c := by
    rcases in2 hcm with rfl | rfl <;> first | exact Nat.le_add_right _ _ | exact Nat.le_refl _
  exact I1.fpOk le (I1.hok.fresh le)
theorem walk_enumM {k : Bool} {K : PySem.W.Frag} {a : Addr} {xs : List V} : Walk (IteM k K a) xs.length (fun H => SqK k K H a xs) (YPair (fun i => some (.int (i : Nat))) (fun i => xs[i]?)) := by
  refine ⟨fun i _ hi q => ⟨xs, xs[i], q, by simp [hi]⟩, fun _ q => ⟨xs, q, rfl⟩, fun i H v H' _ q y => ?_⟩
  obtain ⟨T, x, h1, h2, h3, h4⟩ := y
  exact ⟨T, .int (i : Nat), x, h1, h2, h3, rfl, h4 xs q⟩
end My

namespace My
open PySem PySem.Spec PyProof.Rows L2
/-! ### list(zip(xs, ys)) of two lists -/
theorem zip_no_len : typeLookup (.type "zip") "__len__" = pure none := by rw [typeLookup_type, builtinLookup_eq_fast]; kernel_rfl
theorem zip_no_hint : typeLookup (.type "zip") "__length_hint__" = pure none := by rw [typeLookup_type, builtinLookup_eq_fast]; kernel_rfl
/-- the zip object at z as it stands at the turn n, a list being built at S -/
structure ZS (z TI TO i j a b S : Addr) (xs ys : Array Value) (n : Nat) (h : Heap) : Prop where
  ti : IsPair h TI (.ref i) (.ref j)
  i1 : h.IsListIter i a n
  i2 : h.IsListIter j b n
  l1 : h.IsList a xs
  l2 : h.IsList b ys
  st : (IsZip h z TI TO .none ∧ ∃ u v, IsPair h TO u v) ∨ ∃ (C : Addr) (f : Bool) (oC : Obj), IsZipHeld h z TI TO C f ∧ h.get? C = some oC ∧ C ≠ z ∧ C ≠ i ∧ C ≠ j ∧ C ≠ S
structure OffS (z TI TO i j a b S : Addr) : Prop where
  z : z ≠ S
  TI : TI ≠ S
  TO : TO ≠ S
  i : i ≠ S
  j : j ≠ S
  a : a ≠ S
  b : b ≠ S
theorem ZS.keep {z TI TO i j a b S : Addr} {xs ys : Array Value} {n : Nat} {h h' : Heap} (x : ZS z TI TO i j a b S xs ys n h) (o : OffS z TI TO i j a b S) (k : ∀ c u, c ≠ S → h.get? c = some u → h'.get? c = some u) : ZS z TI TO i j a b S xs ys n h' where
  ti := k _ _ o.TI x.ti
  i1 := x.i1.at fun u e => k _ u o.i e
  i2 := x.i2.at fun u e => k _ u o.j e
  l1 := x.l1.at fun u e => k _ u o.a e
  l2 := x.l2.at fun u e => k _ u o.b e
  st := by
    rcases x.st with ⟨q, u, v, q2⟩ | ⟨C, f, oC, q, q2, q3⟩
    · exact .inl ⟨k _ _ o.z q, u, v, k _ _ o.TO q2⟩
    · exact .inr ⟨C, f, oC, k _ _ o.z q, k _ _ q3.2.2.2 q2, q3⟩
section
variable {prog : Program} {w : World} {A : Around} {E : Value → Shared → Prop} {s : Shared} {z TI TO i j a b S : Addr} {xs ys : Array Value} {n : Nat}
theorem zs_item {Q : Option Value → Shared → Prop} (D : ZipApart z TI TO i j a b) (x : ZS z TI TO i j a b S xs ys n s.heap) (hS : S < s.heap.objs.size) {u v : Value} (eu : xs[n]? = some u) (ev : ys[n]? = some v)
    (q : ∀ g, ZS z TI TO i j a b S xs ys (n + 1) g → IsPair g s.heap.objs.size u v → g.objs.size = s.heap.objs.size + 1 → (∀ c o, c ≠ z → c ≠ TO → c ≠ i → c ≠ j → s.heap.get? c = some o → g.get? c = some o) → Q (some (.ref s.heap.objs.size)) { s with heap := g }) :
    wpAny (model prog w) A (pyNext (.ref z)) Q E s := by
  have lt : ∀ {c o}, s.heap.get? c = some o → s.heap.objs.size ≠ c := fun e => Nat.ne_of_gt (Heap.lt_size e)
  have n1 : s.heap.objs.size ≠ i := let ⟨_, e, _⟩ := x.i1; lt e
  have n2 : s.heap.objs.size ≠ j := let ⟨_, e, _⟩ := x.i2; lt e
  rcases x.st with ⟨e1, u0, v0, e2⟩ | ⟨C, f, oC, e1, e2, r1, r2, r3, r4⟩
  · refine wpAny_pyNext_zip_item D e1 x.ti e2 x.i1 x.i2 x.l1 x.l2 eu ev fun g a1 _ a3 a4 a5 a6 kp => ?_
    exact q g ⟨kp _ _ D.TIz D.TITO D.TIi1 D.TIi2 x.ti, a3, a4, x.l1.at fun o e => kp _ o D.l1z D.l1TO D.l1i1 D.l1i2 e, x.l2.at fun o e => kp _ o D.l2z D.l2TO D.l2i1 D.l2i2 e, .inr ⟨_, false, _, a1, a5, lt e1, n1, n2, Nat.ne_of_gt hS⟩⟩ a5 a6 kp
  · refine wpAny_pyNext_zip_item_held D e1 e2 x.ti x.i1 x.i2 x.l1 x.l2 eu ev fun g a1 a3 a4 a5 a6 kp => ?_
    exact q g ⟨kp _ _ D.TIz D.TIi1 D.TIi2 x.ti, a3, a4, x.l1.at fun o e => kp _ o D.l1z D.l1i1 D.l1i2 e, x.l2.at fun o e => kp _ o D.l2z D.l2i1 D.l2i2 e, .inr ⟨C, true, oC, a1, kp _ _ r1 r2 r3 e2, r1, r2, r3, r4⟩⟩ a5 a6 fun c o c1 _ c3 c4 e => kp c o c1 c3 c4 e
theorem zs_done {Q : Option Value → Shared → Prop} (hh : A.handled = none) (D : ZipApart z TI TO i j a b) (x : ZS z TI TO i j a b S xs ys n s.heap) (en : xs[n]? = none)
    (q : ∀ g, (∀ c o, c ≠ z → c ≠ TO → c ≠ i → c ≠ j → s.heap.get? c = some o → g.get? c = some o) → Q none { s with heap := g }) : wpAny (model prog w) A (pyNext (.ref z)) Q E s := by
  rcases x.st with ⟨e1, u0, v0, e2⟩ | ⟨C, f, oC, e1, e2, _⟩
  · exact wpAny_pyNext_zip_end hh D e1 x.ti e2 x.i1 x.i2 x.l1 x.l2 (.inl en) fun g kp => q g kp
  · exact wpAny_pyNext_zip_end_held hh D e1 e2 x.ti x.i1 x.i2 x.l1 x.l2 (.inl en) fun g kp => q g fun c o c1 _ c3 c4 e => kp c o c1 c3 c4 e
/-- the new pairs, in order, above lo -/
structure ZG (xs ys : Array Value) (lo : Addr) (h : Heap) (as : List Addr) : Prop where
  rise : as.Pairwise (· < ·)
  above : ∀ c ∈ as, lo ≤ c
  pairs : ∀ (n : Nat) (c : Addr), as[n]? = some c → ∃ u v, xs[n]? = some u ∧ ys[n]? = some v ∧ IsPair h c u v
theorem ZG.there {lo : Addr} {h : Heap} {as : List Addr} (g : ZG xs ys lo h as) {c : Addr} (hc : c ∈ as) : c < h.objs.size := by
  obtain ⟨n, hn⟩ := List.mem_iff_getElem?.mp hc
  obtain ⟨_, _, _, _, e⟩ := g.pairs n c hn
  exact Heap.lt_size e
abbrev lstO (acc : Array Value) (c : Nat) : Obj := { cls := .type "list", dict := none, data := .seq acc c, slots := #[] }
theorem zl_loop {R : Result → Shared → Prop} {lo : Addr} {h₁ : Heap} {res : Value} (hh : A.handled = none) (D : ZipApart z TI TO i j a b) (O : OffS z TI TO i j a b S) (low : S < lo ∧ z < lo ∧ TO < lo ∧ i < lo ∧ j < lo) (hn : xs.size ≤ sizeLine) (ez : ys.size = xs.size)
    (hR : ∀ g tk acc c as, (∀ b o, b ≠ S → b ≠ z → b ≠ TO → b ≠ i → b ≠ j → h₁.get? b = some o → g.get? b = some o) → g.get? S = some (lstO acc c) → as.length = xs.size → ZG xs ys lo g as → acc.toList = as.map Value.ref → R (.ok (.ret res)) { s with heap := g, toks := tk }) :
    ∀ (k n : Nat) (h : Heap) (tk c : Nat) (acc : Array Value) (as : List Addr), xs.size - n = k → n ≤ xs.size → ZS z TI TO i j a b S xs ys n h → (∀ b o, b ≠ S → b ≠ z → b ≠ TO → b ≠ i → b ≠ j → h₁.get? b = some o → h.get? b = some o) →
      h.get? S = some (lstO acc c) → acc.toList = as.map Value.ref → as.length = n → ZG xs ys lo h as → lo ≤ h.objs.size →
      codeAny (model prog w) A (.builtin "list.extend.loop" ⟨[.ref S, .ref z, res], []⟩) R { s with heap := h, toks := tk } := by
  obtain ⟨l1, l2, l3, l4, l5⟩ := low
  have far : ∀ {as : List Addr} {h : Heap}, ZG xs ys lo h as → ∀ c ∈ as, c ≠ S ∧ c ≠ z ∧ c ≠ TO ∧ c ≠ i ∧ c ≠ j := fun g c hc => by
    have := g.above c hc
    exact ⟨Nat.ne_of_gt (Nat.lt_of_lt_of_le l1 this), Nat.ne_of_gt (Nat.lt_of_lt_of_le l2 this), Nat.ne_of_gt (Nat.lt_of_lt_of_le l3 this), Nat.ne_of_gt (Nat.lt_of_lt_of_le l4 this), Nat.ne_of_gt (Nat.lt_of_lt_of_le l5 this)⟩
  intro k
  induction k with
  | zero =>
    intro n h tk c acc as hk hi st kp hS ha hl G hlo
    have en : n = xs.size := by omega
    refine codeAny_builtin PySem.F.entry_extend_loop ?_
    rw [Around.under_plainId PySem.F.plain_extend_loop _]
    show wpAny _ A.in1 (pyNext (.ref z) >>= _) _ _ _
    refine wpAny_bind (zs_done (s := { s with heap := h, toks := tk }) (A := A.in1) hh D st (Array.getElem?_eq_none (by omega)) fun g he => wpAny_pure ?_)
    refine hR g tk acc c as (fun b o b1 b2 b3 b4 b5 e => he b o b2 b3 b4 b5 (kp b o b1 b2 b3 b4 b5 e)) (he S _ O.z.symm O.TO.symm O.i.symm O.j.symm hS) (by omega) ⟨G.rise, G.above, fun m b hb => ?_⟩ ha
    obtain ⟨u, v, eu, ev, eb⟩ := G.pairs m b hb
    have ⟨_, f2, f3, f4, f5⟩ := far G b (List.mem_of_getElem? hb)
    exact ⟨u, v, eu, ev, he b _ f2 f3 f4 f5 eb⟩
  | succ k ih =>
    intro n h tk c acc as hk hi st kp hS ha hl G hlo
    have hlt : n < xs.size := by omega
    have hsz : acc.size = n := by rw [← Array.length_toList, ha, List.length_map, hl]
    have eu : xs[n]? = some xs[n] := Array.getElem?_eq_getElem hlt
    have ev : ys[n]? = some (ys[n]'(by omega)) := Array.getElem?_eq_getElem (by omega)
    refine codeAny_builtin PySem.F.entry_extend_loop ?_
    rw [Around.under_plainId PySem.F.plain_extend_loop _]
    show wpAny _ A.in1 (pyNext (.ref z) >>= _) _ _ _
    refine wpAny_bind (zs_item (s := { s with heap := h, toks := tk }) D st (Heap.lt_size hS) eu ev fun g st' eT sz he => ?_)
    dsimp only at eT sz he ⊢
    have hS' := he S _ O.z.symm O.TO.symm O.i.symm O.j.symm hS
    have up : ∀ b o, b ≠ S → g.get? b = some o → (g.update S (Obj.mapSeq (·.push (Value.ref h.objs.size)))).get? b = some o := fun b o nb e => (Heap.get?_update_other _ _ (Ne.symm nb)).trans e
    have lS : S < h.objs.size := Heap.lt_size hS
    have sz2 : (g.update S (Obj.mapSeq (·.push (Value.ref h.objs.size)))).objs.size = h.objs.size + 1 := by rw [Heap.size_update]; exact sz
    show wpAny _ A.in1 (updateSeq S (·.push (Value.ref h.objs.size)) >>= _) _ _ _
    refine wpAny_bind (wpAny_updateSeq hS' rfl (wpAny_pure ⟨plainId_quiet PySem.F.plain_extend_loop _, ih (n + 1) _ tk _ (acc.push (Value.ref h.objs.size)) (as ++ [h.objs.size]) (by omega) hlt (st'.keep O up) (fun b o b1 b2 b3 b4 b5 e => up b o b1 (he b o b2 b3 b4 b5 (kp b o b1 b2 b3 b4 b5 e)))
      (Heap.get?_update_self _ hS' rfl) (by rw [Array.toList_push, ha, List.map_append]; rfl) (by rw [List.length_append, hl]; rfl) ⟨?_, ?_, ?_⟩ (by rw [sz2]; exact Nat.le_succ_of_le hlo)⟩) (by rw [hsz]; omega) (by show (acc.push (Value.ref h.objs.size)).size ≤ sizeLine + 1; rw [Array.size_push, hsz]; omega))
    · refine List.pairwise_append.mpr ⟨G.rise, List.pairwise_singleton _ _, fun x hx y hy => ?_⟩
      rw [List.mem_singleton.mp hy]
      exact G.there hx
    · intro x hx
      rcases List.mem_append.mp hx with hx | hx
      · exact G.above x hx
      · rw [List.mem_singleton.mp hx]; exact hlo
    · intro m x hx
      rcases Nat.lt_trichotomy m as.length with h1 | h1 | h1
      · rw [List.getElem?_append_left h1] at hx
        obtain ⟨u, v, eu', ev', ex⟩ := G.pairs m x hx
        have ⟨f1, f2, f3, f4, f5⟩ := far G x (List.mem_of_getElem? hx)
        exact ⟨u, v, eu', ev', up x _ f1 (he x _ f2 f3 f4 f5 ex)⟩
      · subst h1
        have e : h.objs.size = x := by simpa using hx
        subst e
        rw [hl]
        exact ⟨_, _, eu, ev, up _ _ (Nat.ne_of_gt lS) eT⟩
      · rw [List.getElem?_eq_none (by rw [List.length_append, List.length_singleton]; omega)] at hx
        cases hx
theorem zl_extend {R : Result → Shared → Prop} {res : Value} {c₀ : Nat} (hh : A.handled = none) (D : ZipApart z TI TO i j a b) (O : OffS z TI TO i j a b S) (hn : xs.size ≤ sizeLine) (ez : ys.size = xs.size) (st : ZS z TI TO i j a b S xs ys 0 s.heap) (e0 : IsZip s.heap z TI TO .none) (lTO : TO < s.heap.objs.size)
    (hS : s.heap.get? S = some (lstO #[] c₀))
    (hR : ∀ g tk acc c as, (∀ b o, b ≠ S → b ≠ z → b ≠ TO → b ≠ i → b ≠ j → s.heap.get? b = some o → g.get? b = some o) → g.get? S = some (lstO acc c) → as.length = xs.size → ZG xs ys s.heap.objs.size g as → acc.toList = as.map Value.ref → R (.ok (.ret res)) { s with heap := g, toks := tk }) :
    wpAny (model prog w) A.in1 (Builtin.List.listExtendWith (.ref S) (.ref z) res)
      (fun fin s' => match fin with | .done f => R (.ok f) s' | .again c' => c'.quiet = true ∧ codeAny (model prog w) A c' R s') (fun e s' => R (.error e) s') s := by
  have ty : s.TypeIs (.ref z) "zip" := ⟨_, e0, rfl⟩
  have l1 : i < s.heap.objs.size := by obtain ⟨_, e, _⟩ := st.i1; exact Heap.lt_size e
  have l2 : j < s.heap.objs.size := by obtain ⟨_, e, _⟩ := st.i2; exact Heap.lt_size e
  unfold Builtin.List.listExtendWith
  refine wpAny_bind (wpAny_typeOf ty ?_)
  have h1 : Builtin.List.listSameRef (.ref S) (.ref z) = false := by simp [Builtin.List.listSameRef, O.z.symm]
  have h2 : (Value.type "zip" == Value.type "list") = false := by decide
  have h3 : (Value.type "zip" == Value.type "tuple") = false := by decide
  simp only [h1, h2, h3, Bool.or_false, Bool.false_eq_true, if_false]
  refine wpAny_bind (wpAny_pyIter_zip e0 ?_)
  refine wpAny_bind (wpAny_holding ?_)
  unfold Builtin.List.listLengthHint
  refine wpAny_bind (wpAny_specialOf ty zip_no_len ?_)
  show wpAny _ A.in1 (specialOf (Value.ref z) (Str.ofString "__length_hint__") >>= _) _ _ _
  refine wpAny_bind (wpAny_specialOf ty zip_no_hint (wpAny_pure ?_))
  show wpAny _ A.in1 (rule "list.extend.makes-room" >>= fun _ => Builtin.List.listTouch (.ref S) >>= fun _ => again (.builtin "list.extend.loop" ⟨[.ref S, .ref z, res], []⟩)) _ _ _
  refine wpAny_bind (wpAny_rule (wpAny_bind ?_))
  show wpAny _ A.in1 (updateSeq S (·.push .none) >>= fun _ => updateSeq S (·.pop)) _ _ _
  refine wpAny_bind (wpAny_updateSeq hS rfl ?_)
  have hS2 := Heap.get?_update_self (Obj.mapSeq (·.push Value.none)) hS rfl
  refine wpAny_updateSeq (hz := by seq_fits) hS2 rfl ?_
  have hS3 := Heap.get?_update_self (Obj.mapSeq (·.pop)) hS2 rfl
  have oth : ∀ b o, b ≠ S → s.heap.get? b = some o → ((s.heap.update S (Obj.mapSeq (·.push Value.none))).update S (Obj.mapSeq (·.pop))).get? b = some o := fun b o nb e => (Heap.get?_update_other _ _ (Ne.symm nb)).trans ((Heap.get?_update_other _ _ (Ne.symm nb)).trans e)
  refine wpAny_pure ⟨plainId_quiet PySem.F.plain_extend_loop _, zl_loop (s := s) (h₁ := s.heap) hh D O ⟨Heap.lt_size hS, Heap.lt_size e0, lTO, l1, l2⟩ hn ez hR xs.size 0 _ s.toks _ #[] [] (Nat.sub_zero _) (Nat.zero_le _) (st.keep O oth) (fun b o b1 _ _ _ _ e => oth b o b1 e) hS3 rfl rfl
    ⟨List.Pairwise.nil, (fun _ q => nomatch q), (fun n c q => by simp at q)⟩ (by rw [Heap.size_update, Heap.size_update]; exact Nat.le_refl _)⟩
/-- list(z), z a zip object just made of two lists of one length -/
theorem zl_call {Q : Value → Shared → Prop} (hh : A.handled = none) (D : ZipApart z TI TO i j a b) (hn : xs.size ≤ sizeLine) (ez : ys.size = xs.size) (e0 : IsZip s.heap z TI TO .none) (eI : IsPair s.heap TI (.ref i) (.ref j)) (eO : IsPair s.heap TO .none .none) (q1 : s.heap.IsListIter i a 0) (q2 : s.heap.IsListIter j b 0) (q3 : s.heap.IsList a xs) (q4 : s.heap.IsList b ys)
    (hQ : ∀ g tk acc c as, (∀ b o, b ≠ z → b ≠ TO → b ≠ i → b ≠ j → s.heap.get? b = some o → g.get? b = some o) → g.get? s.heap.objs.size = some (lstO acc c) → as.length = xs.size → ZG xs ys (s.heap.objs.size + 1) g as → acc.toList = as.map Value.ref → Q (.ref s.heap.objs.size) { s with heap := g, toks := tk }) :
    wpAny (model prog w) A (call (.type "list") [.ref z]) Q E s := by
  refine callType_codes (Q₁ := fun obj s₁ => obj = .ref s.heap.objs.size ∧ s₁ = { s with heap := s.heap.push (lstO #[] 0) }) PySem.F.called_list (PySem.F.typeCall_list_1 _) PySem.F.entry_list_init (code_list_new _ ⟨rfl, rfl⟩) fun obj s₁ hs => ?_
  obtain ⟨rfl, rfl⟩ := hs
  have hS : (s.heap.push (lstO #[] 0)).get? s.heap.objs.size = some (lstO #[] 0) := Heap.get?_push_size _ rfl
  have pu : ∀ {c : Addr} {o : Obj}, s.heap.get? c = some o → (s.heap.push (lstO #[] 0)).get? c = some o := fun e => Heap.get?_push_of_some _ e
  have ne : ∀ {c : Addr} {o : Obj}, s.heap.get? c = some o → c ≠ s.heap.objs.size := fun e => Nat.ne_of_lt (Heap.lt_size e)
  have O : OffS z TI TO i j a b s.heap.objs.size := ⟨ne e0, ne eI, ne eO, let ⟨_, e, _⟩ := q1; ne e, let ⟨_, e, _⟩ := q2; ne e, let ⟨_, e, _⟩ := q3; ne e, let ⟨_, e, _⟩ := q4; ne e⟩
  have Z : ZS z TI TO i j a b s.heap.objs.size xs ys 0 (s.heap.push (lstO #[] 0)) := ⟨pu eI, q1.at fun _ e => pu e, q2.at fun _ e => pu e, q3.at fun _ e => pu e, q4.at fun _ e => pu e, .inl ⟨pu e0, _, _, pu eO⟩⟩
  refine ⟨⟨_, hS, rfl⟩, PySem.F.args_list_init_2 _ _, ?_⟩
  show wpAny _ _ (do let old ← Builtin.List.listItems (.ref s.heap.objs.size); Builtin.List.listUpdate (.ref s.heap.objs.size) (fun _ => #[]); letGo old.toList.reverse; Builtin.List.listExtendWith (.ref s.heap.objs.size) (.ref z) .none) _ _ _
  refine wpAny_bind ?_
  unfold Builtin.List.listItems
  refine wpAny_bind (wpAny_seqItems hS rfl (wpAny_pure ?_))
  show wpAny _ _ (updateSeq s.heap.objs.size (fun _ => #[]) >>= fun _ => letGo (#[] : Array Value).toList.reverse >>= fun _ => Builtin.List.listExtendWith (.ref s.heap.objs.size) (.ref z) .none) _ _ _
  refine wpAny_bind (wpAny_updateSeq hS rfl ?_)
  have hS2 := Heap.get?_update_self (Obj.mapSeq (fun _ => (#[] : Array Value))) hS rfl
  have oth : ∀ c o, c ≠ s.heap.objs.size → (s.heap.push (lstO #[] 0)).get? c = some o → ((s.heap.push (lstO #[] 0)).update s.heap.objs.size (Obj.mapSeq (fun _ => (#[] : Array Value)))).get? c = some o := fun c o nc e => (Heap.get?_update_other _ _ (Ne.symm nc)).trans e
  have sz : ((s.heap.push (lstO #[] 0)).update s.heap.objs.size (Obj.mapSeq (fun _ => (#[] : Array Value)))).objs.size = s.heap.objs.size + 1 := by rw [Heap.size_update, Heap.size_push]
  refine wpAny_bind (wpAny_letGo ?_)
  refine zl_extend (A := A.in1) hh D O hn ez (Z.keep O oth) (oth _ _ O.z (pu e0)) (by show TO < ((s.heap.push (lstO #[] 0)).update s.heap.objs.size (Obj.mapSeq (fun _ => (#[] : Array Value)))).objs.size; rw [sz]; exact Nat.lt_succ_of_lt (Heap.lt_size eO)) hS2 fun g tk acc c as kp e1 el G ea => ?_
  refine ⟨rfl, hQ g tk acc c as (fun c o c2 c3 c4 c5 e => kp c o (ne e) c2 c3 c4 c5 (oth _ _ (ne e) (pu e))) e1 el ?_ ea⟩
  have e : ((s.heap.push (lstO #[] 0)).update s.heap.objs.size (Obj.mapSeq (fun _ => (#[] : Array Value)))).objs.size = s.heap.objs.size + 1 := sz
  rw [← e]; exact G
end
end My

namespace My
open PySem PySem.Spec PyProof.Rows L2
/-- pairs of values tracked at their addresses -/
def putP : Hp → List Addr → List V → List V → Hp
  | H, c :: as, u :: us, v :: vs => putP (upd H c (.tup [u, v])) as us vs
  | H, _, _, _ => H
theorem putP_off {b : Addr} : ∀ (as : List Addr) (us vs : List V) (H : Hp), b ∉ as → putP H as us vs b = H b
  | [], _, _, _, _ => rfl
  | _ :: _, [], _, _, _ => rfl
  | _ :: _, _ :: _, [], _, _ => rfl
  | c :: as, u :: us, v :: vs, H, h => by
    show putP (upd H c (.tup [u, v])) as us vs b = H b
    rw [putP_off as us vs _ (fun z => h (List.mem_cons_of_mem _ z)), upd_ne (fun z => h (by rw [z]; exact List.mem_cons_self))]
theorem putP_at : ∀ (as : List Addr) (us vs : List V) (H : Hp), as.length = us.length → vs.length = us.length → as.Nodup → ∀ (n : Nat) (c : Addr), as[n]? = some c → ∃ u v, us[n]? = some u ∧ vs[n]? = some v ∧ putP H as us vs c = some (.tup [u, v])
  | [], _, _, _, _, _, _, n, c, h => by simp at h
  | _ :: _, [], _, _, h, _, _, _, _, _ => by cases h
  | _ :: _, _ :: _, [], _, _, h, _, _, _, _ => by cases h
  | a :: as, u :: us, v :: vs, H, e1, e2, nd, n, c, h => by
    have nd' := List.nodup_cons.mp nd
    cases n with
    | zero =>
      have e : a = c := Option.some.inj h
      subst e
      refine ⟨u, v, rfl, rfl, ?_⟩
      show putP (upd H a (.tup [u, v])) as us vs a = _
      rw [putP_off as us vs _ nd'.1, upd_same]
    | succ n => exact putP_at as us vs (upd H a (.tup [u, v])) (Nat.succ.inj e1) (Nat.succ.inj e2) nd'.2 n c h
theorem vals_refs : ∀ as : List Addr, Vals (as.map V.ref) (as.map Value.ref)
  | [] => .nil
  | _ :: as => .cons rfl (vals_refs as)
/-- list(zip(xs, ys)), two lists of one length: a new list of new pairs -/
def tZipL (K : PySem.W.Frag) (ta : TA) : TE := fun σ H Q => ta σ H fun vs H1 => ∃ (a b : Addr) (us ws : List V), vs = [.ref a, .ref b] ∧ SqL K H1 a us ∧ SqL K H1 b ws ∧ ws.length = us.length ∧
  ∀ (H' : Hp) (p : Addr) (as : List Addr), Same H1 H' → H1 p = none → H' p = some (.lst (as.map V.ref)) → as.length = us.length → (∀ (n : Nat) (c : Addr), as[n]? = some c → H1 c = none ∧ ∃ u v, us[n]? = some u ∧ ws[n]? = some v ∧ H' c = some (.tup [u, v])) → Q (.ref p) H'
section
variable {X : Cx}
theorem pe_zipL {e e2 : Expr} {ta : TA} {p zp pos zpos : Pos} (hc : X.calm = true) (hg : Gl X "list") (hm : X.mg "list" = none) (gz : Gl X "zip") (mz : X.mg "zip" = none) (ha : PA X [e, e2] ta)
    (hs : starEach [e, e2] X.env = (false, eval e X.env) :: starEach [e2] X.env := by rfl) (hpl : (backTo zpos (starEach [e2] X.env)).any (·.1) = false := by rfl)
    (hs1 : starEach [.Call (.Name "zip" zp) [e, e2] [] zpos] X.env = (false, eval (.Call (.Name "zip" zp) [e, e2] [] zpos) X.env) :: starEach [] X.env := by rfl) :
    PE X (.Call (.Name "list" p) [.Call (.Name "zip" zp) [e, e2] [] zpos] [] pos) (tZipL X.K ta) := by
  refine ⟨fun pins s σ H Q I h => ?_⟩
  refine wpAny_Call_Name_kw (ld_blt I hg hm PyProof.Rows.boot_list ?_)
  refine PyProof.Rows.callWith_type1 ?_ hs1 rfl
  rw [hs1]
  show wpAny _ _ (spliced ((false, eval (.Call (.Name "zip" zp) [e, e2] [] zpos) X.env) :: backTo pos (starEach [] X.env))) _ _ s
  refine Calls.spliced_cons (wpAny_Call_Name_kw (ld_blt I gz mz PyProof.Rows.boot_zip (PyProof.Rows.callWith_type1 (thn (ha.run zpos pins s σ H _ I h) fun xs s1 hh => ?_) hs hpl)))
  obtain ⟨vs, H1, I1, r1, a, b, us, ws, ev, Lu, Lw, el, q⟩ := hh
  subst ev
  obtain ⟨x1, x2, rfl, e1, e2⟩ := vals2 r1
  cases (show x1 = Value.ref a from e1)
  cases (show x2 = Value.ref b from e2)
  obtain ⟨is, rp, pa, za⟩ := I1.list Lu
  obtain ⟨js, rq, pb, zb⟩ := I1.list Lw
  have ep := rp.length
  have eq := rq.length
  refine call_zip_2 pa.isList pb.isList fun g1 z0 zI zO zi zj zs kp1 => Calls.spliced_nil ?_
  have big : ∀ {c : Addr} {o : Obj}, s1.heap.get? c = some o → c < s1.heap.objs.size := fun e => Heap.lt_size e
  refine zl_call (s := { s1 with heap := g1 }) (I1.ok.hd hc) (PySem.W.ktu_apart s1.heap.objs.size a b pa.lt pb.lt) (by rw [List.size_toArray]; omega) (by rw [List.size_toArray, List.size_toArray]; omega) z0 zI zO zi zj (pa.isList.at fun _ e => kp1 _ _ e) (pb.isList.at fun _ e => kp1 _ _ e) fun g tk acc c as kp2 eS l G ea => ?_
  dsimp only at kp2 eS G
  rw [zs] at eS G ⊢
  rw [List.size_toArray] at l
  have hk : ∀ c o, s1.heap.get? c = some o → g.get? c = some o := fun c o e => by
    have lt := big e
    exact kp2 c o (Nat.ne_of_lt (Nat.lt_of_lt_of_le lt (Nat.le_add_right _ _))) (Nat.ne_of_lt (Nat.lt_of_lt_of_le lt (Nat.le_add_right _ _))) (Nat.ne_of_lt lt) (Nat.ne_of_lt (Nat.lt_succ_of_lt lt)) (kp1 c o e)
  have new : ∀ t ∈ as, H1 t = none := fun t ht => I1.hok.fresh (Nat.le_trans (Nat.le_add_right _ 6) (G.above t ht))
  have newS : H1 (s1.heap.objs.size + 5) = none := I1.hok.fresh (Nat.le_add_right _ _)
  have nS : s1.heap.objs.size + 5 ∉ as := fun z => Nat.lt_irrefl _ (G.above _ z)
  have nd : as.Nodup := List.Pairwise.imp (fun {x y} (h : x < y) => Nat.ne_of_lt h) G.rise
  have atP := putP_at as us ws (upd H1 (s1.heap.objs.size + 5) (.lst (as.map V.ref))) (by omega) el nd
  have off : ∀ t, t ∉ as → t ≠ s1.heap.objs.size + 5 → putP (upd H1 (s1.heap.objs.size + 5) (.lst (as.map V.ref))) as us ws t = H1 t := fun t h1 h2 => by rw [putP_off as us ws _ h1, upd_ne h2]
  have kp : ∀ t u, H1 t = some u → putP (upd H1 (s1.heap.objs.size + 5) (.lst (as.map V.ref))) as us ws t = some u := fun t u e => by
    rw [off t (fun z => by rw [new t z] at e; cases e) (fun z => by rw [z, newS] at e; cases e)]
    exact e
  have eS' : putP (upd H1 (s1.heap.objs.size + 5) (.lst (as.map V.ref))) as us ws (s1.heap.objs.size + 5) = some (.lst (as.map V.ref)) := by rw [putP_off as us ws _ nS, upd_same]
  have J : Inv X pins σ (putP (upd H1 (s1.heap.objs.size + 5) (.lst (as.map V.ref))) as us ws) { s1 with heap := g, toks := tk } := by
    refine I1.call' (ch := []) rfl ⟨fun t o e _ _ _ => hk t o e, fun t o e _ _ _ => ⟨o.slots, hk t o e⟩, fun t o e n _ => ?_, fun t o e _ => ⟨o, hk t o e⟩, fun t ys e => kp t _ e, fun t o u e => kp t _ e, fun t ps e => ⟨#[], by rw [kp t _ e]; simp⟩⟩ (fun t u e => ?_) I1.bare fun t z => by simp at z
    · rw [off t (fun z => absurd (big e) (Nat.not_lt.mpr (Nat.le_trans (Nat.le_add_right _ 6) (G.above t z)))) (fun z => absurd (big e) (by rw [z]; exact Nat.not_lt.mpr (Nat.le_add_right _ _)))]
      exact n
    · by_cases ht : t ∈ as
      · obtain ⟨n, hn⟩ := List.mem_iff_getElem?.mp ht
        obtain ⟨u1, v1, f1, f2, f3⟩ := atP n t hn
        rw [f3] at e
        cases e
        obtain ⟨y1, y2, g1', g2', g3'⟩ := G.pairs n t hn
        obtain ⟨w1, hw1, rw1⟩ := rp.get f1
        obtain ⟨w2, hw2, rw2⟩ := rq.get f2
        have z1 : is[n]? = some y1 := by simpa using g1'
        have z2 : js[n]? = some y2 := by simpa using g2'
        rw [hw1] at z1
        rw [hw2] at z2
        cases z1
        cases z2
        exact ⟨(by show 2 ≤ sizeLine; decide), [y1, y2], .cons rw1 (.cons rw2 .nil), _, g3', rfl, _, rfl⟩
      · by_cases h2 : t = s1.heap.objs.size + 5
        · rw [h2] at e ⊢
          rw [eS'] at e
          cases e
          refine ⟨by rw [List.length_map]; omega, acc.toList, c, by rw [ea]; exact vals_refs as, ?_⟩
          rw [Array.toArray_toList]
          exact eS
        · rw [off t ht h2] at e
          exact (I1.hok t u e).stay (fun d v _ y => hk d v y) (fun d y => kp d _ y) fun d ys y => kp d _ y
  exact ⟨.ref _, _, J, rfl, q _ _ as kp newS eS' (by omega) fun n t hn => ⟨new t (List.mem_of_getElem? hn), atP n t hn⟩⟩
end
end My

namespace My
open PySem PySem.Spec PyProof.Rows L2
/-! ### a dict comprehension over anything that is walked -/
theorem dc_it {J : It} {n : Nat} {G : Hp → Prop} {Y : Nat → Hp → V → Hp → Prop} (w : Walk J n G Y) {g : TG} {tt : TT} {tk tv : TE} {vs : List Nat} {σ : L2.St} {H1 : Hp} {D : Addr} {Qd : Hp → Prop} (Pv : Nat → Hp → Prop) (h0 : Pv 0 (L2.upd H1 D (.dK []))) (hG : ∀ i H, i ≤ n → Pv i H → G H)
    (hs : ∀ i x H H', i < n → Pv i H → Y i H x H' → g x (wipe σ vs) H' fun σ2 H2 => wipe σ2 vs = wipe σ vs ∧ tt σ2 H2 fun b H3 =>
      if b = true then tk σ2 H3 fun y H4 => tv σ2 H4 fun z H5 => ∃ kvs k, y = kV k ∧ H5 D = some (.dK kvs) ∧ kvs.length < sizeLine ∧ Pv (i + 1) (L2.upd H5 D (.dK (putK kvs k z))) else Pv (i + 1) H3) (hd : ∀ H, Pv n H → Qd H) :
    ∃ W : Nat → Nat → Hp → Prop, (∃ m, W 0 m (L2.upd H1 D (.dK []))) ∧ ∀ i m H, W i m H →
      (J.stop i H ∧ Qd H) ∨ (J.go i H ∧ ∃ Nx : Hp → Prop, (∀ H', Nx H' → ∃ m', m' < m ∧ W (i + 1) m' H') ∧ ∀ x H', J.yld i H x H' → g x (wipe σ vs) H' fun σ2 H2 => wipe σ2 vs = wipe σ vs ∧ tt σ2 H2 fun b H3 =>
        if b = true then tk σ2 H3 fun y H4 => tv σ2 H4 fun z H5 => ∃ kvs k, y = kV k ∧ H5 D = some (.dK kvs) ∧ kvs.length < sizeLine ∧ Nx (L2.upd H5 D (.dK (putK kvs k z))) else Nx H3) := by
  refine ⟨fun i m H => m + i = n ∧ Pv i H, ⟨n, rfl, h0⟩, fun i m H ⟨em, p⟩ => ?_⟩
  have gH := hG i H (by omega) p
  by_cases lt : i < n
  · exact .inr ⟨w.goes i H lt gH, Pv (i + 1), fun H' p' => ⟨m - 1, by omega, by omega, p'⟩, fun x H' y => hs i x H H' lt p (w.yields i H x H' lt gH y)⟩
  · have e : i = n := by omega
    rw [e] at p ⊢
    exact .inl ⟨w.stops H gH, hd H p⟩
/-! ### a tuple times 0 or 1 -/
theorem mul_zero (l : Addr) (items : Array Value) (n : Nat) (dd : Option Addr) (sl : Array (Option Value)) (u : Tok) (ne : items.isEmpty = false) :
    Meets (Builtin.«tuple.__mul__» ⟨[.ref l, .int 0 u], []⟩) fun _ R s => s.heap.get? l = some { cls := .type "tuple", dict := dd, data := .seq items n, slots := sl } ∧ R (.ok (.ret (Value.ref s.heap.objs.size))) { s with heap := s.heap.push { cls := Value.type "tuple", data := Data.seq #[] } } := by
  refine .of_wp fun prog w A R s z => ?_
  obtain ⟨hp, g, d, tk, os⟩ := s
  obtain ⟨z1, z2⟩ := z
  have f1 := AutoSeq1.idx_int
  have c1 : (items.isEmpty || (0 : Int) == 1) = false := by rw [ne]; rfl
  have c2 : (decide ((0 : Int) ≤ 0) || items.isEmpty) = true := by rw [ne]; rfl
  wp_walk using AutoSeq1.wpAny_loadPart' z1
  exact ⟨_, rfl, z2⟩
theorem mul_one' (l : Addr) (items : Array Value) (n : Nat) (dd : Option Addr) (sl : Array (Option Value)) (u : Tok) :
    Meets (Builtin.«tuple.__mul__» ⟨[.ref l, .int 1 u], []⟩) fun _ R s => s.heap.get? l = some { cls := .type "tuple", dict := dd, data := .seq items n, slots := sl } ∧ R (.ok (.ret (Value.ref l))) s := by
  refine .of_wp fun prog w A R s z => ?_
  obtain ⟨hp, g, d, tk, os⟩ := s
  obtain ⟨z1, z2⟩ := z
  have f1 := AutoSeq1.idx_int
  have c1 : (items.isEmpty || (1 : Int) == 1) = true := by cases items.isEmpty <;> rfl
  wp_walk using AutoSeq1.wpAny_loadPart' z1
  exact ⟨_, rfl, z2⟩
/-- a tuple that is not empty, times 0 or 1 -/
def rRepT01 (K : PySem.W.Frag) : R2 := fun x y H Q => ∃ (l : Addr) (xs : List V), x = .ref l ∧ SqT K H l xs ∧ xs ≠ [] ∧ ((y = .int 0 ∧ ∀ p, H p = none → Q (.ref p) (L2.upd H p (.tup []))) ∨ (y = .int 1 ∧ Q (.ref l) H))
theorem op_repT01 {X : Cx} : OpR X (binaryOp .Mult) (rRepT01 X.K) := by
  intro pins s σ H x y v u Q I rx ry h
  obtain ⟨l, xs, rfl, hT, hne, h⟩ := h
  cases rx
  obtain ⟨its, r, ⟨⟨cls, dd, data, sl⟩, ho, hc, n, hd⟩, hs⟩ := I.tuple hT
  simp only at hc hd
  subst hc hd
  have hi : its.toArray.isEmpty = false := by
    cases its with
    | nil =>
      have l0 : xs.length = 0 := r.length
      exact absurd (List.eq_nil_of_length_eq_zero l0) hne
    | cons a b => rfl
  rcases h with ⟨rfl, q⟩ | ⟨rfl, q⟩
  · obtain ⟨t, rfl⟩ := ry
    refine wpAny_binaryOp_repeat_ref (T := "tuple") (U := "int") (by decide) ⟨_, ho, rfl⟩ (fun s' => typeIs_int s' 0 t) noFill_tuple_mul F.fills_int_mul F.slot_int_rmul repeat_tuple F.slot_int_index.lookup
      (call_meets F.slot_int_rmul (typeIs_int s 0 t) F.entry_int_rmul (F.args_int_rmul_2 _ _) (int_rmul_tuple 0 t l its.toArray n dd sl)
        ⟨ho, rfl, ⟨_, ho, rfl⟩, call_meets F.slot_tuple_mul ⟨_, ho, rfl⟩ F.entry_tuple_mul (F.args_tuple_mul_2 _ _) (mul_zero l its.toArray n dd sl t hi) ⟨ho, ?_⟩⟩)
    exact ⟨.ref s.heap.objs.size, _, I.laid (t' := s.toks) (o := .tup []) (fun b ob q => Heap.get?_push_of_some _ q) (Nat.le_refl _) ⟨Nat.zero_le _, [], .nil, IsTup.new _ _⟩, rfl, q _ (I.hok.fresh (Nat.le_refl _))⟩
  · obtain ⟨t, rfl⟩ := ry
    refine wpAny_binaryOp_repeat_ref (T := "tuple") (U := "int") (by decide) ⟨_, ho, rfl⟩ (fun s' => typeIs_int s' 1 t) noFill_tuple_mul F.fills_int_mul F.slot_int_rmul repeat_tuple F.slot_int_index.lookup
      (call_meets F.slot_int_rmul (typeIs_int s 1 t) F.entry_int_rmul (F.args_int_rmul_2 _ _) (int_rmul_tuple 1 t l its.toArray n dd sl)
        ⟨ho, rfl, ⟨_, ho, rfl⟩, call_meets F.slot_tuple_mul ⟨_, ho, rfl⟩ F.entry_tuple_mul (F.args_tuple_mul_2 _ _) (mul_one' l its.toArray n dd sl t) ⟨ho, ?_⟩⟩)
    exact ⟨.ref l, H, I, rfl, q⟩
end My

namespace My
open PySem PySem.Spec PyProof.Rows L2
/-- texts among the values are short -/
theorem sz6 {n : Nat} (h : n ≤ 100000) : n ≤ sizeLine := by rw [sizeLine_eq]; omega
def spWord : Sp := fun vs H Q _ => ∃ (v : V) (d : PyData), vs = [v] ∧ Dq H v d ∧ (∀ x, d = .str x → x.length ≤ 100000) ∧ ∀ H', Same H H' → Q (.bl (wordD d)) H'
/-- a list that is filled by a comprehension -/
def Lc (H : Hp) (D : Addr) (ys : List V) (i : Nat) (M : Hp) : Prop := Same H M ∧ M D = some (.lst (ys.take i))
theorem Lc.zero {H : Hp} {D : Addr} {ys : List V} (h : H D = none) : Lc H D ys 0 (L2.upd H D (.lst [])) := ⟨same_new h _, upd_same⟩
theorem Lc.lay {H M : Hp} {D : Addr} {ys : List V} {i : Nat} {y : V} (hD : H D = none) (h : Lc H D ys i M) (hy : ys[i]? = some y) (sm : ys.length ≤ 1000) :
    ∃ acc, M D = some (.lst acc) ∧ acc.length < sizeLine ∧ Lc H D ys (i + 1) (L2.upd M D (.lst (acc ++ [y]))) := by
  obtain ⟨hi, e⟩ := List.getElem?_eq_some_iff.mp hy
  refine ⟨_, h.2, small1000 (by rw [List.length_take]; omega), fun a o q => ?_, ?_⟩
  · rw [upd_ne (ne_of_none q hD)]; exact h.1 a o q
  · rw [upd_same, List.take_succ_eq_append_getElem hi, e]
theorem Lc.same {H M M' : Hp} {D : Addr} {ys : List V} {i : Nat} (h : Lc H D ys i M) (e : Same M M') : Lc H D ys i M' := ⟨h.1.trans e, e _ _ h.2⟩
theorem Lc.all {H M : Hp} {D : Addr} {ys : List V} {n : Nat} (h : Lc H D ys n M) (e : n = ys.length) : Same H M ∧ M D = some (.lst ys) := by
  refine ⟨h.1, ?_⟩
  have q := h.2
  rw [e, List.take_length] at q
  exact q
theorem getM {α : Type} {f : α → V} {xs : List α} {i : Nat} {y : V} (h : (xs.map f)[i]? = some y) : ∃ x, xs[i]? = some x ∧ y = f x := by
  rw [List.getElem?_map] at h
  cases e : xs[i]? with
  | none => rw [e] at h; cases h
  | some u => rw [e] at h; exact ⟨u, rfl, (Option.some.inj h).symm⟩
theorem mapM {α β : Type} {f : α → β} {xs : List α} {i : Nat} {x : α} (h : xs[i]? = some x) : (xs.map f)[i]? = some (f x) := by
  rw [List.getElem?_map, h]; rfl
/-! ### rows -/
abbrev rowV (r : List Int) : List V := r.map V.int
def enoughB (r : List Int) : Bool := r.all fun x => decide (0 ≤ x)
def mixedB (r : List Int) : Bool := r.any (fun x => decide (x < 0)) && r.any (fun x => decide (0 < x))
def combR (a : Int) (r : List Int) (b : Int) (o : List Int) : List Int := List.zipWith (fun x y => a * x + b * y) r o
def spInt1 : Sp := fun vs H Q _ => ∃ i : Int, vs = [.int i] ∧ Q (.bl true) H
def spRowB (f : List Int → Bool) : Sp := fun vs H Q _ => ∃ (a : Addr) (r : List Int), vs = [.ref a] ∧ H a = some (.tup (rowV r)) ∧ r.length ≤ 1000 ∧ ∀ H', Same H H' → Q (.bl (f r)) H'
def spComb : Sp := fun vs H Q _ => ∃ (a b : Addr) (m n : Int) (r o : List Int), vs = [.int m, .ref a, .int n, .ref b] ∧ H a = some (.tup (rowV r)) ∧ H b = some (.tup (rowV o)) ∧ r.length = o.length ∧ r.length ≤ 1000 ∧
  (m = 1) ∧ (n = 1 ∨ n = -1) ∧ ∀ (p : Addr) (H' : Hp), Same H H' → H p = none → H' p = some (.tup (rowV (combR m r n o))) → Q (.ref p) H'
def spWrongRow : Sp := fun vs H Q _ => ∃ (a : Addr) (r : List Int), vs = [.ref a, .int (r.length : Nat)] ∧ H a = some (.tup (rowV r)) ∧ r.length ≤ 1000 ∧ mixedB r = true ∧ ∀ H', Same H H' → Q .non H'
section
variable {P : Program} {w : World} {K : PySem.W.Frag} {mg : Str → Option Value} {base : Heap}
theorem ok_is_word (T : Tx K mg) : FnOk P w K mg base CX0 1 T.a_is_word T.fd_is_word ["value"] spWord := by
  refine T.F_is_word.ok sc_is_word (fun vs H Q E h => ?_) (fun cdv A outer st H vs Q E hr h => ?_)
  · obtain ⟨v, d, rfl, _⟩ := h
    rfl
  obtain ⟨v, d, rfl, dq, hz, k⟩ := h
  refine ⟨_, ((pss_cons (ps_if (PW.pt (pw_or (pt_not (pt_val (pe_callB (show CallR _ (.builtin "isinstance") (rIsi K) from call_isi) (by rfl) T.n_isinstance (by decide +kernel) (pa_cons (pv 0) (pa_cons (pe_bltn (v := .ty "str") (by rfl) T.n_str (by decide +kernel) rfl) pa_nil))))) (pw_or1 (pt_not (pt_chain op_le op_le pe_int (pe_callB call_len_str (by rfl) T.n_len (by decide +kernel) (pa_cons (pv 0) pa_nil)) (pe_gint rfl T.c_LONGEST_WORD))))))
        (pss_one (ps_ret pe_bl))
        pss_nil)
      (pss_one (ps_ret (pe_and (pe_cmpR op_in_sign (pe_ix ix_str (pv 0) pe_int (fun _ _ => rfl)) (pe_gstr rfl T.c_LETTERS) (by rfl)) (pe_one (pe_callB (cr_all rfl) (by rfl) T.n_all (by decide +kernel) (pa_cons (pe_lc (own := [("sign", 1)]) (by rfl) sc_is_word.nd (pi_str (pv 0)) (blkOk_by (own := [("sign", 1)]) (N := ["value", "sign"]) (sc := defScope s_is_word) (by decide +kernel)) (fun _ _ _ _ _ => pg_name (i := 1) sc_is_word.nd rfl (Or.inl rfl)) (fun _ _ _ _ _ => pts_nil) (fun _ _ _ _ _ => (pe_or (pe_cmpR op_in_sign (pv 1) (pe_gstr rfl T.c_LETTERS) (by rfl)) (pe_one (pe_cmpR op_in_sign (pv 1) (pe_gstr rfl T.c_DIGITS) (by rfl)))))) pa_nil)))))))), ?_⟩
  refine ⟨_, rfl, v, .ty "str", .type (tyD d), .type "str", _, rfl, .ty _, dq.ty, is_str d, ?_⟩
  have k0 := k H (Same.refl H)
  cases dq with
  | str x =>
    have lx := hz x rfl
    refine ⟨_, rfl, iteF ?_⟩
    refine ⟨_, rfl, x, rfl, sz6 lx, _, _, rfl, rfl, _, rfl, ?_⟩
    have wd : wordD (.str x) = (decide (x.length ≤ 12) && (match x.cps.toList with
      | [] => false
      | c :: r => inS LTR c && (c :: r).all isAl)) := rfl
    by_cases h1 : 1 ≤ x.length
    · rw [decide_eq_true (by omega : (1 : Int) ≤ (x.length : Int))]
      refine iteT ⟨_, _, rfl, rfl, _, rfl, ?_⟩
      by_cases h2 : x.length ≤ 12
      · rw [decide_eq_true (by omega : (x.length : Int) ≤ 12)]
        refine iteF ?_
        obtain ⟨c, r, ex⟩ : ∃ c r, x.cps.toList = c :: r := by
          cases e : x.cps.toList with
          | nil =>
            have := str_len x
            rw [e] at this
            have : x.length = 0 := this.symm
            omega
          | cons c r => exact ⟨c, r, rfl⟩
        have ec : atI x.cps.toList (0 : Int) = some c := by rw [ex]; exact atI_nat (j := 0) rfl
        have wd2 : wordD (.str x) = (inS LTR c && x.cps.toList.all isAl) := by
          rw [wd, decide_eq_true h2, ex]; rfl
        refine ⟨_, rfl, x, _, c, rfl, rfl, sz6 lx, ec, c, LTR, rfl, rfl, _, rfl, ?_⟩
        have q1 : decide (c ∈ LTR.cps.toList) = inS LTR c := rfl
        rw [q1]
        cases hc : inS LTR c with
        | false =>
          rw [wd2, hc] at k0
          exact iteF k0
        | true =>
          refine iteT ⟨_, rfl, x, rfl, fun D hD => ?_⟩
          refine lc_str (fun i M => Same H M ∧ M D = some (.lst (((x.cps.toList.take i).map isAl).map V.bl))) ⟨same_new hD _, upd_same⟩ ?_ ?_
          · rintro i y M hy ⟨sM, eD⟩
            have hil : i < x.cps.toList.length := (List.getElem?_eq_some_iff.mp hy).1
            have eil : x.cps.toList[i] = y := (List.getElem?_eq_some_iff.mp hy).2
            have lay : ∀ b : Bool, b = isAl y → ∃ acc, M D = some (.lst acc) ∧ acc.length < sizeLine ∧ (Same H (L2.upd M D (.lst (acc ++ [V.bl b]))) ∧ (L2.upd M D (.lst (acc ++ [V.bl b]))) D = some (.lst (((x.cps.toList.take (i + 1)).map isAl).map V.bl))) := fun b eb => by
              refine ⟨_, eD, ?_, fun a o e => ?_, ?_⟩
              · rw [List.length_map, List.length_map, List.length_take]; exact small1000 (by rw [str_len] at hil ⊢; omega)
              · rw [upd_ne (ne_of_none e hD)]
                exact sM a o e
              · rw [upd_same, List.take_succ_eq_append_getElem hil, List.map_append, List.map_append, eil, eb]
                rfl
            refine ⟨rfl, _, rfl, y, LTR, rfl, rfl, _, rfl, ?_⟩
            have q2 : decide (y ∈ LTR.cps.toList) = inS LTR y := rfl
            rw [q2]
            cases hy1 : inS LTR y with
            | true => exact iteT (lay true (by unfold isAl; rw [hy1]; rfl))
            | false => exact iteF ⟨_, rfl, y, DIG, rfl, rfl, lay _ (by unfold isAl; rw [hy1]; rfl)⟩
          · rintro M ⟨sM, eD⟩
            have ef : x.cps.toList.take x.length = x.cps.toList := by rw [← str_len, List.take_length]
            rw [ef] at eD
            refine ⟨D, _, rfl, SqL.of eD, ?_⟩
            have ea : ((x.cps.toList.map isAl).all id) = x.cps.toList.all isAl := by rw [List.all_map]; rfl
            rw [ea]
            have kk := k M sM
            rw [wd2, hc, Bool.true_and] at kk
            exact kk
      · rw [decide_eq_false (by omega : ¬ (x.length : Int) ≤ 12)]
        rw [wd, decide_eq_false h2, Bool.false_and] at k0
        exact iteT k0
    · rw [decide_eq_false (by omega : ¬ (1 : Int) ≤ (x.length : Int))]
      have e0 : x.cps.toList = [] := List.length_eq_zero_iff.mp (by rw [str_len]; omega)
      rw [wd, e0, Bool.and_false] at k0
      exact iteF ⟨_, rfl, k0⟩
  | non => exact ⟨_, rfl, iteT k0⟩
  | bl _ => exact ⟨_, rfl, iteT k0⟩
  | int _ => exact ⟨_, rfl, iteT k0⟩
  | lst _ _ _ => exact ⟨_, rfl, iteT k0⟩
  | tup _ _ => exact ⟨_, rfl, iteT k0⟩
  | dct _ _ => exact ⟨_, rfl, iteT k0⟩
theorem ok_is_integer (T : Tx K mg) : FnOk P w K mg base CX0 1 T.a_is_integer T.fd_is_integer ["value"] spInt1 := by
  refine T.F_is_integer.ok sc_is_integer (fun vs H Q E h => ?_) (fun cdv A outer st H vs Q E hr h => ?_)
  · obtain ⟨i, rfl, _⟩ := h
    rfl
  obtain ⟨i, rfl, k⟩ := h
  refine ⟨_, ((pss_one (ps_ret (pe_and (pe_callB (show CallR _ (.builtin "isinstance") (rIsi K) from call_isi) (by rfl) T.n_isinstance (by decide +kernel) (pa_cons (pv 0) (pa_cons (pe_bltn (v := .ty "int") (by rfl) T.n_int (by decide +kernel) rfl) pa_nil))) (pe_one (pe_not (pe_callB (show CallR _ (.builtin "isinstance") (rIsi K) from call_isi) (by rfl) T.n_isinstance (by decide +kernel) (pa_cons (pv 0) (pa_cons (pe_bltn (v := .ty "bool") (by rfl) T.n_bool (by decide +kernel) rfl) pa_nil))))))))), ?_⟩
  refine ⟨_, rfl, .int i, .ty "int", .type "int", .type "int", _, rfl, .ty _, .base (.int i), kit_ty (r := true) (by decide +kernel), ?_⟩
  refine ⟨_, rfl, iteT ?_⟩
  refine ⟨_, rfl, .int i, .ty "bool", .type "int", .type "bool", _, rfl, .ty _, .base (.int i), kit_ty (r := false) (by decide +kernel), ?_⟩
  exact ⟨_, rfl, k⟩
theorem ok_is_enough (T : Tx K mg) : FnOk P w K mg base CX0 1 T.a_is_enough T.fd_is_enough ["row"] (spRowB enoughB) := by
  refine T.F_is_enough.ok sc_is_enough (fun vs H Q E h => ?_) (fun cdv A outer st H vs Q E hr h => ?_)
  · obtain ⟨a, r, rfl, _⟩ := h
    rfl
  obtain ⟨a, r, rfl, ha, hl, k⟩ := h
  refine ⟨_, ((pss_one (ps_ret (pe_callB (cr_all rfl) (by rfl) T.n_all (by decide +kernel) (pa_cons (pe_lc (own := [("number", 1)]) (by rfl) sc_is_enough.nd (pi_tup (pv 0)) (blkOk_by (own := [("number", 1)]) (N := ["row", "number"]) (sc := defScope s_is_enough) (by decide +kernel)) (fun _ _ _ _ _ => pg_name (i := 1) sc_is_enough.nd rfl (Or.inl rfl)) (fun _ _ _ _ _ => pts_nil) (fun _ _ _ _ _ => (pe_cmpR op_ge (pv 1) pe_int (nomark _)))) pa_nil))))), ?_⟩
  refine ⟨_, rfl, a, rfl, ⟨_, SqT.of ha⟩, fun D hD => ?_⟩
  refine lc_tup (xs := rowV r) (Lc H D ((r.map fun x => decide (0 ≤ x)).map V.bl)) (Lc.zero hD) (fun i M _ z => SqT.of (z.1 _ _ ha)) (fun i y M hy z => ?_) (fun M z => ?_)
  · obtain ⟨x, hx, rfl⟩ := getM hy
    refine ⟨rfl, _, rfl, _, _, rfl, rfl, ?_⟩
    exact Lc.lay hD z (mapM (mapM hx)) (by rw [List.length_map, List.length_map]; exact hl)
  · have ⟨sM, eM⟩ := z.all (by rw [List.length_map, List.length_map, List.length_map])
    refine ⟨D, _, rfl, SqL.of eM, ?_⟩
    have e : ((r.map fun x => decide (0 ≤ x)).all id) = enoughB r := by rw [List.all_map]; rfl
    rw [e]
    exact k M sM
theorem ok_is_mixed (T : Tx K mg) : FnOk P w K mg base CX0 1 T.a_is_mixed T.fd_is_mixed ["entries"] (spRowB mixedB) := by
  refine T.F_is_mixed.ok sc_is_mixed (fun vs H Q E h => ?_) (fun cdv A outer st H vs Q E hr h => ?_)
  · obtain ⟨a, r, rfl, _⟩ := h
    rfl
  obtain ⟨a, r, rfl, ha, hl, k⟩ := h
  refine ⟨_, ((pss_one (ps_ret (pe_and (pe_callB (cr_any rfl) (by rfl) T.n_any (by decide +kernel) (pa_cons (pe_lc (own := [("entry", 1)]) (by rfl) sc_is_mixed.nd (pi_tup (pv 0)) (blkOk_by (own := [("entry", 1)]) (N := ["entries", "entry"]) (sc := defScope s_is_mixed) (by decide +kernel)) (fun _ _ _ _ _ => pg_name (i := 1) sc_is_mixed.nd rfl (Or.inl rfl)) (fun _ _ _ _ _ => pts_nil) (fun _ _ _ _ _ => (pe_cmpR op_lt (pv 1) pe_int (nomark _)))) pa_nil)) (pe_one (pe_callB (cr_any rfl) (by rfl) T.n_any (by decide +kernel) (pa_cons (pe_lc (own := [("entry", 1)]) (by rfl) sc_is_mixed.nd (pi_tup (pv 0)) (blkOk_by (own := [("entry", 1)]) (N := ["entries", "entry"]) (sc := defScope s_is_mixed) (by decide +kernel)) (fun _ _ _ _ _ => pg_name (i := 1) sc_is_mixed.nd rfl (Or.inl rfl)) (fun _ _ _ _ _ => pts_nil) (fun _ _ _ _ _ => (pe_cmpR op_gt (pv 1) pe_int (nomark _)))) pa_nil))))))), ?_⟩
  refine ⟨_, rfl, a, rfl, ⟨_, SqT.of ha⟩, fun D hD => ?_⟩
  refine lc_tup (xs := rowV r) (Lc H D ((r.map fun x => decide (x < 0)).map V.bl)) (Lc.zero hD) (fun i M _ z => SqT.of (z.1 _ _ ha)) (fun i y M hy z => ?_) (fun M z => ?_)
  · obtain ⟨x, hx, rfl⟩ := getM hy
    refine ⟨rfl, _, rfl, _, _, rfl, rfl, ?_⟩
    exact Lc.lay hD z (mapM (mapM hx)) (by rw [List.length_map, List.length_map]; exact hl)
  · have ⟨sM, eM⟩ := z.all (by rw [List.length_map, List.length_map, List.length_map])
    refine ⟨D, _, rfl, SqL.of eM, ?_⟩
    have e : ((r.map fun x => decide (x < 0)).any id) = r.any (fun x => decide (x < 0)) := by rw [List.any_map]; rfl
    rw [e]
    refine ⟨_, rfl, ?_⟩
    by_cases h1 : r.any (fun x => decide (x < 0)) = true
    · rw [h1]
      refine iteT ?_
      have ha2 := sM _ _ ha
      refine ⟨_, rfl, a, rfl, ⟨_, SqT.of ha2⟩, fun D2 hD2 => ?_⟩
      refine lc_tup (xs := rowV r) (Lc M D2 ((r.map fun x => decide (0 < x)).map V.bl)) (Lc.zero hD2) (fun i M _ z => SqT.of (z.1 _ _ ha2)) (fun i y M2 hy z => ?_) (fun M2 z => ?_)
      · obtain ⟨x, hx, rfl⟩ := getM hy
        refine ⟨rfl, _, rfl, _, _, rfl, rfl, ?_⟩
        exact Lc.lay hD2 z (mapM (mapM hx)) (by rw [List.length_map, List.length_map]; exact hl)
      · have ⟨sM2, eM2⟩ := z.all (by rw [List.length_map, List.length_map, List.length_map])
        refine ⟨D2, _, rfl, SqL.of eM2, ?_⟩
        have e2 : ((r.map fun x => decide (0 < x)).any id) = mixedB r := by rw [List.any_map]; unfold mixedB; rw [h1, Bool.true_and]; rfl
        rw [e2]
        exact k M2 (sM.trans sM2)
    · have h0 : r.any (fun x => decide (x < 0)) = false := Bool.eq_false_iff.mpr h1
      rw [h0]
      refine iteF ?_
      have kk := k M sM
      have e2 : mixedB r = false := by unfold mixedB; rw [h0]; rfl
      rw [e2] at kk
      exact kk
end
end My

namespace My
open PySem PySem.Spec PyProof.Rows L2
theorem walk_zipM {k l : Bool} {K : PySem.W.Frag} {a b : Addr} {p q : List V} (hl : p.length = q.length) : Walk (ItzM k l K a b) p.length (fun H => SqK k K H a p ∧ SqK l K H b q) (YPair (fun i => p[i]?) (fun i => q[i]?)) := by
  refine ⟨fun i H hi ⟨h1, h2⟩ => ?_, fun H ⟨h1, h2⟩ => ⟨p, q, h1, h2, .inl rfl, Nat.le_refl _, by omega⟩, fun i H v H' _ ⟨h1, h2⟩ y => ?_⟩
  · exact ⟨p, q, _, _, h1, h2, List.getElem?_eq_getElem hi, List.getElem?_eq_getElem (by omega)⟩
  · obtain ⟨C, u, v, rfl, nC, rfl, f1, f2⟩ := y
    exact ⟨C, u, v, rfl, nC, rfl, f1 p h1, f2 q h2⟩
theorem iteNe {n m : Nat} {A B : Prop} (e : n = m) (h : B) : if (!decide (V.int (n : Int) = V.int (m : Int))) = true then A else B := by
  subst e
  rw [decide_eq_true rfl]
  exact iteF h
theorem kit_any1 {K : PySem.W.Frag} {t c : Value} {r : List Value} (h : PySem.W.kitOne K t c = some true) : PySem.W.kitAny K t (c :: r) = some true := by
  rw [PySem.W.kitAny, h]
/-- what a word is as a text -/
theorem word_fit {d : PyData} (h : wordD d = true) : ∀ x, d = .str x → x.length ≤ 100000 ∧ x.length ≤ 12 := by
  intro x e
  subst e
  have h : (decide (x.length ≤ 12) && (match x.cps.toList with
    | [] => false
    | c :: r => inS LTR c && (c :: r).all isAl)) = true := h
  rw [Bool.and_eq_true, decide_eq_true_iff] at h
  exact ⟨by omega, h.1⟩
/-! ### dicts of words -/
def kvB (xs : List Str) : List (Key × V) := xs.map fun x => (.inr x, .bl true)
def kvN (xs : List Str) : List (Key × V) := xs.mapIdx fun i x => (.inr x, .int (i : Nat))
theorem valV_no {kvs : List (Key × V)} {k : Key} (h : ∀ kv ∈ kvs, kv.1 ≠ k) : valV kvs k = none := by
  induction kvs with
  | nil => exact valV_nil
  | cons p r ih => rw [valV_neg (h p (List.mem_cons_self ..))]; exact ih fun kv q => h kv (List.mem_cons_of_mem _ q)
theorem no_kvB {xs : List Str} {x : Str} (h : x ∉ xs) : valV (kvB xs) (Sum.inr x) = none := by
  refine valV_no fun kv q e => ?_
  obtain ⟨y, hy, rfl⟩ := List.mem_map.mp q
  exact h (Sum.inr.inj e ▸ hy)
theorem no_kvN {xs : List Str} {x : Str} (h : x ∉ xs) : valV (kvN xs) (Sum.inr x) = none := by
  refine valV_no fun kv q e => ?_
  obtain ⟨i, hi, rfl⟩ := List.mem_mapIdx.mp q
  exact h (Sum.inr.inj e ▸ List.getElem_mem hi)
theorem put_kvB {xs : List Str} {x : Str} (h : x ∉ xs) : putK (kvB xs) (Sum.inr x) (.bl true) = kvB (xs ++ [x]) := by
  rw [putK_new _ (no_kvB h)]
  unfold kvB
  rw [List.map_append]; rfl
theorem put_kvN {xs : List Str} {x : Str} (h : x ∉ xs) : putK (kvN xs) (Sum.inr x) (.int (xs.length : Nat)) = kvN (xs ++ [x]) := by
  rw [putK_new _ (no_kvN h)]
  unfold kvN
  rw [List.mapIdx_concat]
theorem nodup_take {xs : List Str} {i : Nat} {x : Str} (h : xs.Nodup) (e : xs[i]? = some x) : x ∉ xs.take i := by
  obtain ⟨hi, e⟩ := List.getElem?_eq_some_iff.mp e
  intro m
  obtain ⟨j, hj, ej⟩ := List.mem_take_iff_getElem.mp m
  have hj' : j < i := by omega
  exact absurd ((List.getElem_inj h).mp (ej.trans e.symm)) (by omega)
theorem take_snoc {α : Type} {xs : List α} {i : Nat} {x : α} (e : xs[i]? = some x) : xs.take i ++ [x] = xs.take (i + 1) := by
  obtain ⟨hi, e⟩ := List.getElem?_eq_some_iff.mp e
  rw [List.take_succ_eq_append_getElem hi, e]
/-- a dict that is filled -/
theorem same_put {H M : Hp} {D : Addr} {o : HO} (hD : H D = none) (h : Same H M) : Same H (L2.upd M D o) := fun a u q => by
  rw [upd_ne (ne_of_none q hD)]; exact h a u q
/-! ### barters -/
abbrev Br := Str × List Int
def BrAt (H : Hp) (p : Addr) (b : Br) : Prop := ∃ a, H p = some (.tup [.str b.1, .ref a]) ∧ H a = some (.tup (rowV b.2))
def BrsAt (H : Hp) (ps : List Addr) (bs : List Br) : Prop := ps.length = bs.length ∧ ∀ (i : Nat) (p : Addr) (b : Br), ps[i]? = some p → bs[i]? = some b → BrAt H p b
theorem BrAt.same {H H' : Hp} (e : Same H H') {p : Addr} {b : Br} (h : BrAt H p b) : BrAt H' p b := by
  obtain ⟨a, h1, h2⟩ := h
  exact ⟨a, e _ _ h1, e _ _ h2⟩
theorem BrsAt.same {H H' : Hp} (e : Same H H') {ps : List Addr} {bs : List Br} (h : BrsAt H ps bs) : BrsAt H' ps bs := ⟨h.1, fun i p b h1 h2 => (h.2 i p b h1 h2).same e⟩
structure GoodBk (gs : List Str) (bs : List Br) : Prop where
  gw : ∀ x ∈ gs, wordD (.str x) = true
  gn : gs.Nodup
  gl : gs.length ≤ 100
  bw : ∀ b ∈ bs, wordD (.str b.1) = true ∧ b.2.length = gs.length ∧ mixedB b.2 = true
  bn : (bs.map (·.1)).Nodup
  bl : bs.length ≤ 100
def spWrongGoods : Sp := fun vs H Q _ => ∃ (g : Addr) (gs : List Str), vs = [.ref g] ∧ H g = some (.lst (gs.map V.str)) ∧ (∀ x ∈ gs, wordD (.str x) = true) ∧ gs.Nodup ∧ gs.length ≤ 100 ∧ ∀ H', Same H H' → Q .non H'
def spWrongBarter : Sp := fun vs H Q _ => ∃ (p D : Addr) (b : Br) (kvs : List (Key × V)), vs = [.ref p, .ref D, .int (b.2.length : Nat)] ∧ BrAt H p b ∧ H D = some (.dK kvs) ∧ valV kvs (Sum.inr b.1) = none ∧ wordD (.str b.1) = true ∧ b.2.length ≤ 100 ∧ mixedB b.2 = true ∧ ∀ H', Same H H' → Q .non H'
def spWrongBarters : Sp := fun vs H Q _ => ∃ (l : Addr) (ps : List Addr) (gs : List Str) (bs : List Br), vs = [.ref l, .int (gs.length : Nat)] ∧ H l = some (.lst (ps.map V.ref)) ∧ BrsAt H ps bs ∧ GoodBk gs bs ∧ ∀ H', Same H H' → Q .non H'
section
variable {P : Program} {w : World} {K : PySem.W.Frag} {mg : Str → Option Value} {base : Heap}
theorem ok_combined (T : Tx K mg) : FnOk P w K mg base CX0 1 T.a_combined T.fd_combined ["a", "row", "b", "other"] spComb := by
  refine T.F_combined.ok sc_combined (fun vs H Q E h => ?_) (fun cdv A outer st H vs Q E hr h => ?_)
  · obtain ⟨a, b, m, n, r, o, rfl, _⟩ := h
    rfl
  obtain ⟨a, b, m, n, r, o, rfl, ha, hb, hl, hs, hm, hn, k⟩ := h
  refine ⟨_, ((pss_one (ps_ret (pe_callTy call_tuple_of (by rfl) T.n_tuple (by decide +kernel) (pa_cons (pe_lc (own := [("number", 4), ("more", 5)]) (by rfl) sc_combined.nd (pi_zipM (by rfl) T.n_zip (pa_cons (pv 1) (pa_cons (pv 3) pa_nil))) (blkOk_by (own := [("number", 4), ("more", 5)]) (N := ["a", "row", "b", "other", "number", "more"]) (sc := defScope s_combined) (by decide +kernel)) (fun _ _ _ _ _ => show PG _ _ (gTup K 2 (gCons (gName 4) (gCons (gName 5) gNil))) from (pg_tup rfl (pgs_cons (pg_name (i := 4) sc_combined.nd rfl (Or.inl rfl)) (pgs_cons (pg_name (i := 5) sc_combined.nd rfl (Or.inl rfl)) pgs_nil)))) (fun _ _ _ _ _ => pts_nil) (fun _ _ _ _ _ => (pe_op op_add (pe_op op_mul (pv 0) (pv 4)) (pe_op op_mul (pv 2) (pv 5))))) pa_nil))))), ?_⟩
  have lr : ∀ q : List Int, q.length ≤ 1000 → (rowV q).length ≤ 1000 := fun q h => by rw [List.length_map]; exact h
  have hl' : (rowV r).length = (rowV o).length := by rw [List.length_map, List.length_map]; exact hl
  refine ⟨_, rfl, _, rfl, true, true, a, b, rowV r, rowV o, rfl, SqT.of ha, SqT.of hb, fun D hD => ?_⟩
  refine lc_it (walk_zipM hl') (Lc H D (rowV (combR m r n o))) (Lc.zero hD) (fun i M _ z => ⟨SqT.of (z.1 _ _ ha), SqT.of (z.1 _ _ hb)⟩) (fun i x M M' hi z y => ?_) (fun M z => ?_)
  · obtain ⟨C, u, v, rfl, nC, rfl, eu, ev⟩ := y
    obtain ⟨xi, hx, rfl⟩ := getM eu
    obtain ⟨yi, hy, rfl⟩ := getM ev
    refine ⟨C, _, rfl, SqT.of upd_same, rfl, _, _, rfl, _, _, rfl, rfl, rfl, ?_⟩
    refine ⟨_, rfl, _, rfl, _, _, rfl, rfl, .inl ?_, _, rfl, _, rfl, _, _, rfl, rfl, .inl ?_, _, _, rfl, rfl, ?_⟩
    · rw [hm]; decide
    · rcases hn with rfl | rfl <;> decide
    · refine Lc.lay hD (z.same (same_new nC _)) (mapM ?_) (by rw [List.length_map]; unfold combR; rw [List.length_zipWith]; omega)
      unfold combR
      rw [List.getElem?_zipWith, hx, hy]
  · have ⟨sM, eM⟩ := z.all (by rw [List.length_map, List.length_map]; unfold combR; rw [List.length_zipWith]; omega)
    refine ⟨D, _, rfl, .inl ⟨SqL.of eM, fun p hp => ?_⟩⟩
    exact k p _ (sM.trans (same_new hp _)) (sM.free hp) upd_same
theorem ok_wrong_row (T : Tx K mg) : FnOk P w K mg base CX0 2 T.a_wrong_row T.fd_wrong_row ["row", "many"] spWrongRow := by
  refine T.F_wrong_row.ok sc_wrong_row (fun vs H Q E h => ?_) (fun cdv A outer st H vs Q E hr h => ?_)
  · obtain ⟨a, r, rfl, _⟩ := h
    rfl
  obtain ⟨a, r, rfl, ha, hl, hm, k⟩ := h
  have G_is_integer : FnOk P w K mg base CX0 1 T.a_is_integer T.fd_is_integer ["value"] spInt1 := ok_is_integer T
  have hr_is_integer : Room 1 _ := hr
  have G_is_mixed : FnOk P w K mg base CX0 1 T.a_is_mixed T.fd_is_mixed ["entries"] (spRowB mixedB) := ok_is_mixed T
  have hr_is_mixed : Room 1 _ := hr
  refine ⟨_, ((pss_cons (ps_if (PW.pt (pw_or (pt_not (pt_val (pe_callB (show CallR _ (.builtin "isinstance") (rIsi K) from call_isi) (by rfl) T.n_isinstance (by decide +kernel) (pa_cons (pv 0) (pa_cons (pe_bltn (v := .ty "tuple") (by rfl) T.n_tuple (by decide +kernel) rfl) pa_nil))))) (pw_or1 (pt_cmpR op_ne (pe_callB call_len_seq (by rfl) T.n_len (by decide +kernel) (pa_cons (pv 0) pa_nil)) (pv 1) (nomark _)))))
        (pss_one (ps_ret (pe_tup pa_nil)))
        pss_nil)
      (pss_cons (ps_for PassesOwn.never rfl (pi_enumM (by rfl) T.n_enumerate (pa_cons (pv 0) pa_nil)) (pg_tup rfl (pgs_cons (pg_name (i := 2) sc_wrong_row.nd rfl (Or.inl rfl)) (pgs_cons (pg_name (i := 3) sc_wrong_row.nd rfl (Or.inl rfl)) pgs_nil)))
        (pss_one (ps_if (pt_not (pt_val (pe_call G_is_integer hr_is_integer rfl T.m_is_integer T.F_is_integer.kp T.b_is_integer .nil pass0 (pa_cons (pv 3) pa_nil))))
        (pss_one (ps_ret (pe_tup (pa_cons (pv 2) pa_nil))))
        pss_nil)))
      (pss_one (ps_ret (pe_ifExp (pt_val (pe_call G_is_mixed hr_is_mixed rfl T.m_is_mixed T.F_is_mixed.kp T.b_is_mixed .nil pass0 (pa_cons (pv 0) pa_nil))) pe_non (pe_tup pa_nil))))))), ?_⟩
  refine ⟨_, rfl, .ref a, .ty "tuple", .type "tuple", .type "tuple", _, rfl, .ty _, .base (.tup ha), kit_ty (r := true) (by decide +kernel), ?_⟩
  refine ⟨_, rfl, iteF ?_⟩
  refine ⟨_, rfl, a, _, rfl, .inr (SqT.of ha), _, rfl, rfl, _, rfl, iteNe (List.length_map _) ?_⟩
  refine ⟨_, rfl, true, a, _, rfl, SqT.of ha, for_it walk_enumM (fun i σ M => ∃ v2 v3, σ = [some (.ref a), some (.int (r.length : Nat)), v2, v3] ∧ Same H M) ⟨none, none, rfl, Same.refl H⟩ (fun i σ M _ ⟨_, _, _, z⟩ => SqT.of (z _ _ ha)) (fun i x σ M M' hi z y => ?_) (fun σ M z => ?_)⟩
  · obtain ⟨v2, v3, rfl, sM⟩ := z
    obtain ⟨C, u, v, rfl, nC, rfl, eu, ev⟩ := y
    obtain ⟨xi, hx, rfl⟩ := getM ev
    refine ⟨C, _, rfl, SqT.of upd_same, rfl, _, _, rfl, _, _, rfl, rfl, ?_⟩
    refine ⟨_, rfl, _, rfl, _, rfl, iteF ?_⟩
    exact ⟨_, _, rfl, sM.trans (same_new nC _)⟩
  · obtain ⟨v2, v3, rfl, sM⟩ := z
    refine ⟨_, rfl, a, r, rfl, sM _ _ ha, hl, fun M2 s2 => ⟨_, rfl, ?_⟩⟩
    rw [hm]
    exact iteT (k _ (sM.trans s2))
theorem ok_wrong_barter (T : Tx K mg) : FnOk P w K mg base CX0 3 T.a_wrong_barter T.fd_wrong_barter ["barter", "told", "many"] spWrongBarter := by
  refine T.F_wrong_barter.ok sc_wrong_barter (fun vs H Q E h => ?_) (fun cdv A outer st H vs Q E hr h => ?_)
  · obtain ⟨p, D, b, kvs, rfl, _⟩ := h
    rfl
  obtain ⟨p, D, ⟨n, r⟩, kvs, rfl, ⟨a, hp, ha⟩, hD, hv, hw, hl, hm, k⟩ := h
  have hu := hu_of hr
  have G_is_word : FnOk P w K mg base CX0 1 T.a_is_word T.fd_is_word ["value"] spWord := ok_is_word T
  have hr_is_word : Room 1 _ := hr.mono (by omega)
  have G_wrong_row : FnOk P w K mg base CX0 2 T.a_wrong_row T.fd_wrong_row ["row", "many"] spWrongRow := ok_wrong_row T
  have hr_wrong_row : Room 2 _ := hr
  refine ⟨_, ((pss_cons (ps_if (PW.pt (pw_or (pt_not (pt_val (pe_callB (show CallR _ (.builtin "isinstance") (rIsi K) from call_isi) (by rfl) T.n_isinstance (by decide +kernel) (pa_cons (pv 0) (pa_cons (pe_bltn (v := .ty "tuple") (by rfl) T.n_tuple (by decide +kernel) rfl) pa_nil))))) (pw_or1 (pt_cmpR op_ne (pe_callB call_len_seq (by rfl) T.n_len (by decide +kernel) (pa_cons (pv 0) pa_nil)) pe_int (nomark _)))))
        (pss_one (ps_ret (pe_tup pa_nil)))
        pss_nil)
      (pss_cons (ps_asg (pv 0) (pg_tup rfl (pgs_cons (pg_name (i := 3) sc_wrong_barter.nd rfl (Or.inl rfl)) (pgs_cons (pg_name (i := 4) sc_wrong_barter.nd rfl (Or.inl rfl)) pgs_nil))))
      (pss_cons (ps_if (PW.pt (pw_or (pt_not (pt_val (pe_call G_is_word hr_is_word rfl T.m_is_word T.F_is_word.kp T.b_is_word .nil pass0 (pa_cons (pv 3) pa_nil)))) (pw_or1 (pt_cmp (pc_din hu (pv 3) (pv 1)) rfl))))
        (pss_one (ps_ret (pe_tup (pa_cons pe_int pa_nil))))
        pss_nil)
      (pss_cons (ps_set (i := 5) sc_wrong_barter.nd rfl (Or.inl rfl) (pe_call G_wrong_row hr_wrong_row rfl T.m_wrong_row T.F_wrong_row.kp T.b_wrong_row .nil pass0 (pa_cons (pv 4) (pa_cons (pv 2) pa_nil))))
      (pss_one (ps_ret (pe_ifExp (pt_cmpR op_isN (pv 5) pe_non (nomark _)) pe_non (pe_op op_catT (pe_tup (pa_cons pe_int pa_nil)) (pv 5)))))))))), ?_⟩
  refine ⟨_, rfl, .ref p, .ty "tuple", .type "tuple", .type "tuple", _, rfl, .ty _, .base (.tup hp), kit_ty (r := true) (by decide +kernel), ?_⟩
  refine ⟨_, rfl, iteF ?_⟩
  refine ⟨_, rfl, p, _, rfl, .inr (SqT.of hp), rfl, _, rfl, iteNe (n := 2) (m := 2) rfl ?_⟩
  refine ⟨_, rfl, p, _, rfl, SqT.of hp, rfl, _, _, rfl, _, _, rfl, rfl, ?_⟩
  have wl : ∀ x : Str, V.str n = .str x → x.length ≤ 100000 := fun x e => by
    cases e
    exact (word_fit hw n rfl).1
  refine ⟨_, rfl, .str n, .str n, rfl, .str n, fun x e => wl x (by cases e; rfl), fun M sM => ?_⟩
  rw [hw]
  refine ⟨_, rfl, iteF ?_⟩
  have hD1 := sM _ _ hD
  have g1 : DGet M D (.str n) none := by rw [← hv]; exact DGet.k (k := Sum.inr n) hD1
  refine ⟨_, rfl, _, rfl, D, _, rfl, g1, _, rfl, iteF ?_⟩
  refine ⟨_, rfl, _, rfl, a, r, rfl, sM _ _ ha, (by have q : r.length ≤ 100 := hl; omega), hm, fun M2 s2 => ?_⟩
  exact ⟨_, rfl, rfl, _, rfl, iteT (k _ (sM.trans s2))⟩
theorem ok_wrong_barters (T : Tx K mg) : FnOk P w K mg base CX0 4 T.a_wrong_barters T.fd_wrong_barters ["barters", "many"] spWrongBarters := by
  refine T.F_wrong_barters.ok sc_wrong_barters (fun vs H Q E h => ?_) (fun cdv A outer st H vs Q E hr h => ?_)
  · obtain ⟨l, ps, gs, bs, rfl, _⟩ := h
    rfl
  obtain ⟨l, ps, gs, bs, rfl, hp, hb, G, k⟩ := h
  have hu := hu_of hr
  have G_wrong_barter : FnOk P w K mg base CX0 3 T.a_wrong_barter T.fd_wrong_barter ["barter", "told", "many"] spWrongBarter := ok_wrong_barter T
  have hr_wrong_barter : Room 3 _ := hr
  refine ⟨_, ((pss_cons (ps_if (pt_not (pt_val (pe_callB call_isiT (by rfl) T.n_isinstance (by decide +kernel) (pa_cons (pv 0) (pa_cons (pe_tup (pa_cons (pe_bltn (v := .ty "list") (by rfl) T.n_list (by decide +kernel) rfl) (pa_cons (pe_bltn (v := .ty "tuple") (by rfl) T.n_tuple (by decide +kernel) rfl) pa_nil))) pa_nil)))))
        (pss_one (ps_ret (pe_tup (pa_cons pe_int pa_nil))))
        pss_nil)
      (pss_cons (ps_set (i := 2) sc_wrong_barters.nd rfl (Or.inl rfl) pe_dnewK)
      (pss_cons (ps_for PassesOwn.never rfl (pi_enumM (by rfl) T.n_enumerate (pa_cons (pv 0) pa_nil)) (pg_tup rfl (pgs_cons (pg_name (i := 3) sc_wrong_barters.nd rfl (Or.inl rfl)) (pgs_cons (pg_name (i := 4) sc_wrong_barters.nd rfl (Or.inl rfl)) pgs_nil)))
        (pss_cons (ps_set (i := 5) sc_wrong_barters.nd rfl (Or.inl rfl) (pe_call G_wrong_barter hr_wrong_barter rfl T.m_wrong_barter T.F_wrong_barter.kp T.b_wrong_barter .nil pass0 (pa_cons (pv 4) (pa_cons (pv 2) (pa_cons (pv 1) pa_nil)))))
      (pss_cons (ps_if (pt_cmpR op_notN (pv 5) pe_non (nomark _))
        (pss_one (ps_ret (pe_op op_catT (pe_tup (pa_cons pe_int (pa_cons (pv 3) pa_nil))) (pv 5))))
        pss_nil)
      (pss_one (ps_dput hu (pv 2) (pe_ix (show IxR _ (rIxT K) from ix_tup) (pv 4) pe_int (fun _ _ => rfl)) pe_bl rfl)))))
      (pss_one (ps_ret pe_non)))))), ?_⟩
  refine ⟨_, rfl, (by show 2 ≤ sizeLine; decide), fun t0 h0 => ?_⟩
  have s0 := same_new h0 (.tup [.ty "list", .ty "tuple"])
  have hp0 := s0 _ _ hp
  refine ⟨.ref l, t0, [.ty "list", .ty "tuple"], .type "list", [.type "list", .type "tuple"], _, rfl, upd_same, .cons (.ty _) (.cons (.ty _) .nil), .base (.lst hp0), kit_any1 (kit_ty (by decide +kernel)), ?_⟩
  refine ⟨_, rfl, iteF ?_⟩
  intro D hD
  have ff : ∀ (i : Nat) (b : Br), bs[i]? = some b → b.1 ∉ (bs.take i).map (·.1) := fun i b e => by
    have q : (bs.map (·.1))[i]? = some b.1 := mapM e
    have q2 := nodup_take G.bn q
    rw [← List.map_take] at q2
    exact q2
  generalize L2.upd H t0 (.tup [.ty "list", .ty "tuple"]) = H0 at s0 hp0 hD ⊢
  refine ⟨_, rfl, false, l, _, rfl, SqL.of (same_new hD _ _ _ hp0), for_it walk_enumM (fun i σ M => ∃ v3 v4 v5, σ = [some (.ref l), some (.int (gs.length : Nat)), some (.ref D), v3, v4, v5] ∧ Same H0 M ∧ M D = some (.dK (kvB ((bs.take i).map (·.1)))))
    ⟨none, none, none, rfl, same_new hD _, upd_same⟩ (fun i σ M _ ⟨_, _, _, _, z, _⟩ => SqL.of (z _ _ hp0)) (fun i x σ M M' hi z y => ?_) (fun σ M z => ?_)⟩
  · obtain ⟨v3, v4, v5, rfl, sM, eD⟩ := z
    obtain ⟨C, u, v, rfl, nC, rfl, eu, ev⟩ := y
    obtain ⟨p, hpi, rfl⟩ := getM ev
    have il : i < bs.length := by rw [← hb.1]; exact (List.getElem?_eq_some_iff.mp hpi).1
    obtain ⟨b, hbi⟩ : ∃ b, bs[i]? = some b := ⟨_, List.getElem?_eq_getElem il⟩
    have mb : b ∈ bs := List.mem_of_getElem? hbi
    have ⟨bw1, bw2, bw3⟩ := G.bw b mb
    have bat := hb.2 i p b hpi hbi
    have sC := same_new nC (.tup [u, .ref p])
    have gl := G.gl
    have bl := G.bl
    refine ⟨C, _, rfl, SqT.of upd_same, rfl, _, _, rfl, _, _, rfl, rfl, ?_⟩
    refine ⟨_, rfl, _, rfl, _, rfl, p, D, b, _, ?_, bat.same (s0.trans (sM.trans sC)), sC _ _ eD, no_kvB (ff i b hbi), bw1, by omega, bw3, fun M2 s2 => ?_⟩
    · rw [bw2]; rfl
    refine ⟨_, rfl, rfl, _, rfl, iteF ?_⟩
    have bat2 := bat.same (s0.trans (sM.trans (sC.trans s2)))
    obtain ⟨ra, hb1, hb2⟩ := bat2
    refine ⟨_, rfl, _, rfl, p, _, _, _, rfl, rfl, SqT.of hb1, atI_nat (j := 0) rfl, D, _, rfl, DPut.k (k := Sum.inr b.1) (s2 _ _ (sC _ _ eD)) ?_, ?_⟩
    · unfold kvB; rw [List.length_map, List.length_map, List.length_take]; exact small1000 (by omega)
    · rw [put_kvB (ff i b hbi)]
      refine ⟨_, _, _, rfl, same_put hD (sM.trans (sC.trans s2)), ?_⟩
      rw [upd_same, ← take_snoc hbi, List.map_append]
      rfl
  · obtain ⟨v3, v4, v5, rfl, sM, eD⟩ := z
    exact k M (s0.trans sM)
theorem ok_wrong_goods (T : Tx K mg) : FnOk P w K mg base CX0 2 T.a_wrong_goods T.fd_wrong_goods ["goods"] spWrongGoods := by
  refine T.F_wrong_goods.ok sc_wrong_goods (fun vs H Q E h => ?_) (fun cdv A outer st H vs Q E hr h => ?_)
  · obtain ⟨g, gs, rfl, _⟩ := h
    rfl
  obtain ⟨g, gs, rfl, hg, hw, hn, hl, k⟩ := h
  have hu := hu_of hr
  have G_is_word : FnOk P w K mg base CX0 1 T.a_is_word T.fd_is_word ["value"] spWord := ok_is_word T
  have hr_is_word : Room 1 _ := hr
  refine ⟨_, ((pss_cons (ps_if (pt_not (pt_val (pe_callB call_isiT (by rfl) T.n_isinstance (by decide +kernel) (pa_cons (pv 0) (pa_cons (pe_tup (pa_cons (pe_bltn (v := .ty "list") (by rfl) T.n_list (by decide +kernel) rfl) (pa_cons (pe_bltn (v := .ty "tuple") (by rfl) T.n_tuple (by decide +kernel) rfl) pa_nil))) pa_nil)))))
        (pss_one (ps_ret (pe_tup (pa_cons pe_int pa_nil))))
        pss_nil)
      (pss_cons (ps_set (i := 1) sc_wrong_goods.nd rfl (Or.inl rfl) pe_dnewK)
      (pss_cons (ps_for PassesOwn.never rfl (pi_enumM (by rfl) T.n_enumerate (pa_cons (pv 0) pa_nil)) (pg_tup rfl (pgs_cons (pg_name (i := 2) sc_wrong_goods.nd rfl (Or.inl rfl)) (pgs_cons (pg_name (i := 3) sc_wrong_goods.nd rfl (Or.inl rfl)) pgs_nil)))
        (pss_cons (ps_if (PW.pt (pw_or (pt_not (pt_val (pe_call G_is_word hr_is_word rfl T.m_is_word T.F_is_word.kp T.b_is_word .nil pass0 (pa_cons (pv 3) pa_nil)))) (pw_or1 (pt_cmp (pc_din hu (pv 3) (pv 1)) rfl))))
        (pss_one (ps_ret (pe_tup (pa_cons pe_int (pa_cons (pv 2) pa_nil)))))
        pss_nil)
      (pss_one (ps_dput hu (pv 1) (pv 3) pe_bl rfl))))
      (pss_one (ps_ret pe_non)))))), ?_⟩
  refine ⟨_, rfl, (by show 2 ≤ sizeLine; decide), fun t0 h0 => ?_⟩
  have s0 := same_new h0 (.tup [.ty "list", .ty "tuple"])
  have hp0 := s0 _ _ hg
  refine ⟨.ref g, t0, [.ty "list", .ty "tuple"], .type "list", [.type "list", .type "tuple"], _, rfl, upd_same, .cons (.ty _) (.cons (.ty _) .nil), .base (.lst hp0), kit_any1 (kit_ty (by decide +kernel)), ?_⟩
  refine ⟨_, rfl, iteF ?_⟩
  intro D hD
  generalize L2.upd H t0 (.tup [.ty "list", .ty "tuple"]) = H0 at s0 hp0 hD ⊢
  refine ⟨_, rfl, false, g, _, rfl, SqL.of (same_new hD _ _ _ hp0), for_it walk_enumM (fun i σ M => ∃ v2 v3, σ = [some (.ref g), some (.ref D), v2, v3] ∧ Same H0 M ∧ M D = some (.dK (kvB (gs.take i))))
    ⟨none, none, rfl, same_new hD _, upd_same⟩ (fun i σ M _ ⟨_, _, _, z, _⟩ => SqL.of (z _ _ hp0)) (fun i x σ M M' hi z y => ?_) (fun σ M z => ?_)⟩
  · obtain ⟨v2, v3, rfl, sM, eD⟩ := z
    obtain ⟨C, u, v, rfl, nC, rfl, eu, ev⟩ := y
    obtain ⟨x, hx, rfl⟩ := getM ev
    have wx := hw x (List.mem_of_getElem? hx)
    have sC := same_new nC (.tup [u, .str x])
    refine ⟨C, _, rfl, SqT.of upd_same, rfl, _, _, rfl, _, _, rfl, rfl, ?_⟩
    refine ⟨_, rfl, .str x, .str x, rfl, .str x, fun y e => (word_fit wx y e).1, fun M2 s2 => ?_⟩
    rw [wx]
    refine ⟨_, rfl, iteF ?_⟩
    have eD2 := s2 _ _ (sC _ _ eD)
    have g1 : DGet M2 D (.str x) none := by rw [← no_kvB (nodup_take hn hx)]; exact DGet.k (k := Sum.inr x) eD2
    refine ⟨_, rfl, _, rfl, D, _, rfl, g1, _, rfl, iteF ?_⟩
    refine ⟨_, rfl, _, rfl, D, _, rfl, DPut.k (k := Sum.inr x) eD2 ?_, ?_⟩
    · unfold kvB; rw [List.length_map, List.length_take]; exact small1000 (by omega)
    · rw [put_kvB (nodup_take hn hx), take_snoc hx]
      exact ⟨_, _, rfl, same_put hD (sM.trans (sC.trans s2)), upd_same⟩
  · obtain ⟨v2, v3, rfl, sM, eD⟩ := z
    exact k M (s0.trans sM)
end
end My

namespace My
open PySem PySem.Spec PyProof.Rows L2
/-- tuple(..) of a list or tuple, over the frozen part K -/
def rTupOf (K : PySem.W.Frag) : List V → Hp → VK → Prop := fun xs H Q => ∃ p ys, xs = [.ref p] ∧ ((SqL K H p ys ∧ ∀ l, H l = none → Q (.ref l) (L2.upd H l (.tup ys))) ∨ SqT K H p ys ∧ Q (.ref p) H)
theorem call_tupK {X : Cx} : CallR X (.type "tuple") (rTupOf X.K) := call_tuple_of
def BookH (C : Addr) (H : Hp) (x : Addr) (gs : List Str) (bs : List Br) : Prop := ∃ (dx tg tb dg db : Addr) (ps : List Addr),
  H x = some (.ins C dx [("_goods", .ref tg), ("_barters", .ref tb), ("_good_numbers", .ref dg), ("_barter_numbers", .ref db)]) ∧ H tg = some (.tup (gs.map V.str)) ∧
  H tb = some (.tup (ps.map V.ref)) ∧ BrsAt H ps bs ∧ H dg = some (.dK (kvN gs)) ∧ H db = some (.dK (kvN (bs.map (·.1))))
theorem BookH.same {C : Addr} {H H' : Hp} (e : Same H H') {x : Addr} {gs : List Str} {bs : List Br} (h : BookH C H x gs bs) : BookH C H' x gs bs := by
  obtain ⟨dx, tg, tb, dg, db, ps, h1, h2, h3, h4, h5, h6⟩ := h
  exact ⟨dx, tg, tb, dg, db, ps, e _ _ h1, e _ _ h2, e _ _ h3, h4.same e, e _ _ h5, e _ _ h6⟩
/-- a book whose dicts are new since H0 -/
def BookF (C : Addr) (H0 H : Hp) (x : Addr) (gs : List Str) (bs : List Br) : Prop := ∃ (dx tg tb dg db : Addr) (ps : List Addr), H0 dg = none ∧ H0 db = none ∧
  H x = some (.ins C dx [("_goods", .ref tg), ("_barters", .ref tb), ("_good_numbers", .ref dg), ("_barter_numbers", .ref db)]) ∧ H tg = some (.tup (gs.map V.str)) ∧
  H tb = some (.tup (ps.map V.ref)) ∧ BrsAt H ps bs ∧ H dg = some (.dK (kvN gs)) ∧ H db = some (.dK (kvN (bs.map (·.1))))
theorem BookF.book {C : Addr} {H0 H : Hp} {x : Addr} {gs : List Str} {bs : List Br} (h : BookF C H0 H x gs bs) : BookH C H x gs bs := by
  obtain ⟨dx, tg, tb, dg, db, ps, _, _, h⟩ := h
  exact ⟨dx, tg, tb, dg, db, ps, h⟩
theorem BrsAt.get {H : Hp} {ps : List Addr} {bs : List Br} (h : BrsAt H ps bs) {i : Nat} {p : Addr} (e : ps[i]? = some p) : ∃ b, bs[i]? = some b ∧ BrAt H p b := by
  have il : i < bs.length := by rw [← h.1]; exact (List.getElem?_eq_some_iff.mp e).1
  exact ⟨_, List.getElem?_eq_getElem il, h.2 i p _ e (List.getElem?_eq_getElem il)⟩
theorem BrsAt.snoc {H : Hp} {ps : List Addr} {bs : List Br} {p : Addr} {b : Br} (h : BrsAt H ps bs) (hb : BrAt H p b) : BrsAt H (ps ++ [p]) (bs ++ [b]) := by
  refine ⟨by rw [List.length_append, List.length_append, h.1]; rfl, fun i q c e1 e2 => ?_⟩
  by_cases l : i < ps.length
  · rw [List.getElem?_append_left l] at e1
    rw [List.getElem?_append_left (by rw [← h.1]; exact l)] at e2
    exact h.2 i q c e1 e2
  · rw [List.getElem?_append_right (by omega)] at e1
    rw [List.getElem?_append_right (by rw [← h.1]; omega), ← h.1] at e2
    obtain ⟨j, hj⟩ : ∃ j, i - ps.length = j := ⟨_, rfl⟩
    rw [hj] at e1 e2
    cases j with
    | zero => cases e1; cases e2; exact hb
    | succ j => cases e1
theorem BrsAt.nil {H : Hp} : BrsAt H [] [] := ⟨rfl, fun i p b h _ => by cases i <;> cases h⟩
def fsB (tg tb : Addr) : List (Str × V) := [("_goods", .ref tg), ("_barters", .ref tb)]
def fsC (tg tb dg : Addr) : List (Str × V) := [("_goods", .ref tg), ("_barters", .ref tb), ("_good_numbers", .ref dg)]
def spNames34 (C : Addr) : Sp := fun vs H Q _ => ∃ (x dx tb : Addr) (fs : List (Str × V)) (ps : List Addr) (bs : List Br), vs = [.ref x] ∧ H x = some (.ins C dx fs) ∧ fs.lookup ("_barters" : Str) = some (V.ref tb) ∧ H tb = some (.tup (ps.map V.ref)) ∧ BrsAt H ps bs ∧ bs.length ≤ 100 ∧
  ∀ (D : Addr) (H' : Hp), Same H H' → H D = none → H' D = some (.lst ((bs.map (·.1)).map V.str)) → Q (.ref D) H'
def spBarters34 (C : Addr) : Sp := fun vs H Q _ => ∃ (x : Addr) (gs : List Str) (bs : List Br), vs = [.ref x] ∧ BookH C H x gs bs ∧
  ∀ (D : Addr) (ps : List Addr) (H' : Hp), Same H H' → H D = none → H' D = some (.lst (ps.map V.ref)) → BrsAt H' ps bs → Q (.ref D) H'
def spInit34 (C : Addr) : Sp := fun vs H Q _ => ∃ (x g l dx : Addr) (ps : List Addr) (gs : List Str) (bs : List Br), vs = [.ref x, .ref g, .ref l] ∧ H x = some (.ins C dx []) ∧ H g = some (.lst (gs.map V.str)) ∧ H l = some (.lst (ps.map V.ref)) ∧ BrsAt H ps bs ∧ GoodBk gs bs ∧
  ∀ H', (∀ b u, b ≠ x → H b = some u → H' b = some u) → BookF C H H' x gs bs → Q .non H'
theorem kvN_take {xs : List Str} {i : Nat} {x : Str} (n : xs.Nodup) (e : xs[i]? = some x) : putK (kvN (xs.take i)) (Sum.inr x) (.int (i : Nat)) = kvN (xs.take (i + 1)) := by
  have hi := (List.getElem?_eq_some_iff.mp e).1
  have q := put_kvN (nodup_take n e)
  rw [take_snoc e, List.length_take, Nat.min_eq_left (by omega)] at q
  exact q
theorem kvN_len {xs : List Str} : (kvN xs).length = xs.length := by unfold kvN; rw [List.length_mapIdx]
section
variable {P : Program} {w : World} {K : PySem.W.Frag} {mg : Str → Option Value} {base : Heap}
theorem ok_Book_names (T : Tx K mg) : FnOk P w K mg base CX0 1 T.a_Book_names T.fd_Book_names ["self"] (spNames34 T.C_Book) := by
  refine T.F_Book_names.ok sc_Book_names (fun vs H Q E h => ?_) (fun cdv A outer st H vs Q E hr h => ?_)
  · obtain ⟨x, dx, tb, fs, ps, bs, rfl, _⟩ := h
    rfl
  obtain ⟨x, dx, tb, fs, ps, bs, rfl, hx, lk, ht, hb, bl, k⟩ := h
  refine ⟨_, ((pss_one (ps_ret (pe_lc (own := [("barter", 1)]) (by rfl) sc_Book_names.nd (pi_tup (pe_fld (pv 0) rfl)) (blkOk_by (own := [("barter", 1)]) (N := ["self", "barter"]) (sc := defScope s_Book_names) (by decide +kernel)) (fun _ _ _ _ _ => pg_name (i := 1) sc_Book_names.nd rfl (Or.inl rfl)) (fun _ _ _ _ _ => pts_nil) (fun _ _ _ _ _ => (pe_ix (show IxR _ (rIxT K) from ix_tup) (pv 1) pe_int (fun _ _ => rfl))))))), ?_⟩
  refine ⟨_, rfl, x, _, _, _, _, rfl, hx, T.cl_Book, T.na_Book_barters, lk, tb, rfl, ⟨_, SqT.of ht⟩, fun D hD => ?_⟩
  refine lc_tup (xs := ps.map V.ref) (Lc H D ((bs.map (·.1)).map V.str)) (Lc.zero hD) (fun i M _ z => SqT.of (z.1 _ _ ht)) (fun i y M hy z => ?_) (fun M z => ?_)
  · obtain ⟨p, hp, rfl⟩ := getM hy
    obtain ⟨b, hbi, a, e1, e2⟩ := hb.get hp
    refine ⟨rfl, _, rfl, p, _, _, _, rfl, rfl, SqT.of (z.1 _ _ e1), atI_nat (j := 0) rfl, ?_⟩
    exact Lc.lay hD z (mapM (mapM hbi)) (by rw [List.length_map, List.length_map]; omega)
  · have ⟨sM, eM⟩ := z.all (by rw [List.length_map, List.length_map, List.length_map]; exact hb.1)
    exact k D M sM hD eM
theorem ok_Book_barters (T : Tx K mg) : FnOk P w K mg base CX0 1 T.a_Book_barters T.fd_Book_barters ["self"] (spBarters34 T.C_Book) := by
  refine T.F_Book_barters.ok sc_Book_barters (fun vs H Q E h => ?_) (fun cdv A outer st H vs Q E hr h => ?_)
  · obtain ⟨x, gs, bs, rfl, _⟩ := h
    rfl
  obtain ⟨x, gs, bs, rfl, ⟨dx, tg, tb, dg, db, ps, h1, h2, h3, h4, h5, h6⟩, k⟩ := h
  refine ⟨_, ((pss_one (ps_ret (pe_callTy call_list_of (by rfl) T.n_list (by decide +kernel) (pa_cons (pe_fld (pv 0) rfl) pa_nil))))), ?_⟩
  refine ⟨_, rfl, x, _, _, _, .ref tb, rfl, h1, T.cl_Book, T.na_Book_barters, rfl, tb, _, rfl, .inr (SqT.of h3), fun D hD => ?_⟩
  have s := same_new hD (.lst (ps.map V.ref))
  exact k D ps _ s hD upd_same (h4.same s)
theorem ok_Book_init (T : Tx K mg) : FnOk P w K mg base CX0 5 T.a_Book_init T.fd_Book_init ["self", "goods", "barters"] (spInit34 T.C_Book) := by
  refine T.F_Book_init.ok sc_Book_init (fun vs H Q E h => ?_) (fun cdv A outer st H vs Q E hr h => ?_)
  · obtain ⟨x, g, l, dx, ps, gs, bs, rfl, _⟩ := h
    rfl
  obtain ⟨x, g, l, dx, ps, gs, bs, rfl, hx, hg, hl, hb, G, k⟩ := h
  have G_wrong_goods : FnOk P w K mg base CX0 2 T.a_wrong_goods T.fd_wrong_goods ["goods"] spWrongGoods := ok_wrong_goods T
  have hr_wrong_goods : Room 2 _ := hr.mono (by omega)
  have G_wrong_barters : FnOk P w K mg base CX0 4 T.a_wrong_barters T.fd_wrong_barters ["barters", "many"] spWrongBarters := ok_wrong_barters T
  have hr_wrong_barters : Room 4 _ := hr
  have G_Book_names : FnOk P w K mg base CX0 1 T.a_Book_names T.fd_Book_names ["self"] (spNames34 T.C_Book) := ok_Book_names T
  have hr_Book_names : Room 1 _ := hr.mono (by omega)
  refine ⟨_, ((pss_cons (ps_set (i := 3) sc_Book_init.nd rfl (Or.inl rfl) (pe_call G_wrong_goods hr_wrong_goods rfl T.m_wrong_goods T.F_wrong_goods.kp T.b_wrong_goods .nil pass0 (pa_cons (pv 1) pa_nil)))
      (pss_cons (ps_if (pt_cmpR op_isN (pv 3) pe_non (nomark _))
        (pss_one (ps_set (i := 3) sc_Book_init.nd rfl (Or.inl rfl) (pe_call G_wrong_barters hr_wrong_barters rfl T.m_wrong_barters T.F_wrong_barters.kp T.b_wrong_barters .nil pass0 (pa_cons (pv 2) (pa_cons (pe_callB call_len_seq (by rfl) T.n_len (by decide +kernel) (pa_cons (pv 1) pa_nil)) pa_nil)))))
        pss_nil)
      (pss_cons (ps_if (pt_cmpR op_notN (pv 3) pe_non (nomark _))
        (pss_one (ps_never))
        pss_nil)
      (pss_cons (ps_fld (pv 0) (pe_callTy call_tuple_of (by rfl) T.n_tuple (by decide +kernel) (pa_cons (pv 1) pa_nil)) rfl)
      (pss_cons (ps_fld (pv 0) (pe_callTy call_tuple_of (by rfl) T.n_tuple (by decide +kernel) (pa_cons (pe_lc (own := [("name", 7), ("row", 8)]) (by rfl) sc_Book_init.nd (pi_list (pv 2)) (blkOk_by (own := [("name", 7), ("row", 8)]) (N := ["self", "goods", "barters", "path", "j", "good", "k", "name", "row"]) (sc := defScope s_Book_init) (by decide +kernel)) (fun _ _ _ _ _ => show PG _ _ (gTup K 2 (gCons (gName 7) (gCons (gName 8) gNil))) from (pg_tup rfl (pgs_cons (pg_name (i := 7) sc_Book_init.nd rfl (Or.inl rfl)) (pgs_cons (pg_name (i := 8) sc_Book_init.nd rfl (Or.inl rfl)) pgs_nil)))) (fun _ _ _ _ _ => pts_nil) (fun _ _ _ _ _ => (pe_tup (pa_cons (pv 7) (pa_cons (pe_callTy (show CallR _ (.type "tuple") (rTupOf K) from call_tupK) (by rfl) T.n_tuple (by decide +kernel) (pa_cons (pv 8) pa_nil)) pa_nil))))) pa_nil)) rfl)
      (pss_cons (ps_fld (pv 0) (pe_dc (own := [("j", 4), ("good", 5)]) (by rfl) sc_Book_init.nd (pi_enumM (by rfl) T.n_enumerate (pa_cons (pe_fld (pv 0) rfl) pa_nil)) (blkOk_by (own := [("j", 4), ("good", 5)]) (N := ["self", "goods", "barters", "path", "j", "good", "k", "name", "row"]) (sc := defScope s_Book_init) (by decide +kernel)) (fun _ _ _ _ _ => show PG _ _ (gTup K 2 (gCons (gName 4) (gCons (gName 5) gNil))) from (pg_tup rfl (pgs_cons (pg_name (i := 4) sc_Book_init.nd rfl (Or.inl rfl)) (pgs_cons (pg_name (i := 5) sc_Book_init.nd rfl (Or.inl rfl)) pgs_nil)))) (fun _ _ _ _ _ => pts_nil) (fun _ _ _ _ _ => (pv 5)) (fun _ _ _ _ _ => (pv 4))) rfl)
      (pss_one (ps_fld (pv 0) (pe_dc (own := [("k", 6), ("name", 7)]) (by rfl) sc_Book_init.nd (pi_enumM (by rfl) T.n_enumerate (pa_cons (pe_meth0 (pv 0) T.cl_Book T.me_Book_names G_Book_names hr_Book_names T.b_Book_names .nil pass0) pa_nil)) (blkOk_by (own := [("k", 6), ("name", 7)]) (N := ["self", "goods", "barters", "path", "j", "good", "k", "name", "row"]) (sc := defScope s_Book_init) (by decide +kernel)) (fun _ _ _ _ _ => show PG _ _ (gTup K 2 (gCons (gName 6) (gCons (gName 7) gNil))) from (pg_tup rfl (pgs_cons (pg_name (i := 6) sc_Book_init.nd rfl (Or.inl rfl)) (pgs_cons (pg_name (i := 7) sc_Book_init.nd rfl (Or.inl rfl)) pgs_nil)))) (fun _ _ _ _ _ => pts_nil) (fun _ _ _ _ _ => (pv 7)) (fun _ _ _ _ _ => (pv 6))) rfl))))))))), ?_⟩
  refine ⟨_, rfl, g, gs, rfl, hg, G.gw, G.gn, G.gl, fun H1 s1 => ?_⟩
  refine ⟨_, rfl, rfl, _, rfl, iteT ?_⟩
  refine ⟨_, rfl, _, rfl, g, _, rfl, .inl (SqL.of (s1 _ _ hg)), l, ps, gs, bs, (by rw [List.length_map] <;> rfl), s1 _ _ hl, hb.same s1, G, fun H2 s2 => ?_⟩
  refine ⟨_, rfl, rfl, _, rfl, iteF ?_⟩
  have s12 := s1.trans s2
  refine ⟨_, rfl, g, _, rfl, .inl ⟨SqL.of (s12 _ _ hg), fun tg htg => ⟨_, rfl, x, T.C_Book, dx, [], rfl, same_new htg _ _ _ (s12 _ _ hx), T.cl_Book, T.na_Book_goods, by decide, ?_⟩⟩⟩
  have x1 := same_new htg (.tup (gs.map V.str)) _ _ (s12 _ _ hx)
  have sg := same_new htg (.tup (gs.map V.str))
  -- outside x all stays
  have fr : ∀ {M : Hp} {a : Addr}, (∀ b u, b ≠ x → H b = some u → M b = some u) → a ≠ x → M a = none → H a = none := fun {M a} g1 n e => by
    cases q : H a with
    | none => rfl
    | some u => rw [g1 a u n q] at e; cases e
  have go : ∀ {M M' : Hp}, (∀ b u, b ≠ x → H b = some u → M b = some u) → Same M M' → ∀ b u, b ≠ x → H b = some u → M' b = some u := fun g1 e b u n q => e _ _ (g1 b u n q)
  have goX : ∀ {M : Hp} {o : HO}, (∀ b u, b ≠ x → H b = some u → M b = some u) → ∀ b u, b ≠ x → H b = some u → (L2.upd M x o) b = some u := fun g1 b u n q => by rw [upd_ne n]; exact g1 b u n q
  have nx : ∀ {M : Hp} {a : Addr} {xs : List V} {fs : List (Str × V)}, M x = some (.ins T.C_Book dx fs) → M a = some (.tup xs) → a ≠ x := fun e1 e2 e => by rw [e, e1] at e2; cases e2
  have nxd : ∀ {M : Hp} {a : Addr} {kvs : List (Key × V)} {fs : List (Str × V)}, M x = some (.ins T.C_Book dx fs) → M a = some (.dK kvs) → a ≠ x := fun e1 e2 e => by rw [e, e1] at e2; cases e2
  have nxl : ∀ {M : Hp} {a : Addr} {xs : List V} {fs : List (Str × V)}, M x = some (.ins T.C_Book dx fs) → M a = some (.lst xs) → a ≠ x := fun e1 e2 e => by rw [e, e1] at e2; cases e2
  have gA := goX (o := .ins T.C_Book dx (putF "_goods" (.ref tg) [])) (go (go (fun b u _ q => q) s12) sg)
  have eA : (L2.upd (L2.upd H2 tg (.tup (gs.map V.str))) x (.ins T.C_Book dx (putF "_goods" (.ref tg) []))) x = some (.ins T.C_Book dx [("_goods", .ref tg)]) := upd_same
  have tA : (L2.upd (L2.upd H2 tg (.tup (gs.map V.str))) x (.ins T.C_Book dx (putF "_goods" (.ref tg) []))) tg = some (.tup (gs.map V.str)) := by rw [upd_ne (nx x1 upd_same)]; exact upd_same
  generalize L2.upd (L2.upd H2 tg (.tup (gs.map V.str))) x (.ins T.C_Book dx (putF "_goods" (.ref tg) [])) = MA at gA eA tA ⊢
  have hbA : BrsAt MA ps bs := ⟨hb.1, fun i p b h1 h2 => by
    obtain ⟨a, q1, q2⟩ := hb.2 i p b h1 h2
    exact ⟨a, gA _ _ (nx hx q1) q1, gA _ _ (nx hx q2) q2⟩⟩
  have hlA := gA _ _ (nxl hx hl) hl
  refine ⟨_, rfl, l, rfl, ⟨_, SqL.of hlA⟩, fun D hD => ?_⟩
  refine lc_list (xs := ps.map V.ref) (fun i M => ∃ qs : List Addr, Same MA M ∧ M D = some (.lst (qs.map V.ref)) ∧ BrsAt M qs (bs.take i)) ⟨[], same_new hD _, upd_same, BrsAt.nil⟩ (fun i M _ ⟨_, z, _⟩ => SqL.of (z _ _ hlA)) (fun i y M hy z => ?_) (fun M z => ?_)
  · obtain ⟨p, hp, rfl⟩ := getM hy
    obtain ⟨b, hbi, a, e1, e2⟩ := hbA.get hp
    obtain ⟨qs, sM, eM, bM⟩ := z
    refine ⟨p, _, rfl, SqT.of (sM _ _ e1), rfl, _, _, rfl, _, _, rfl, rfl, rfl, ?_⟩
    refine ⟨_, rfl, _, rfl, a, _, rfl, .inr ⟨SqT.of (sM _ _ e2), (by show 2 ≤ sizeLine; decide), fun q hq => ?_⟩⟩
    have sq := same_new hq (.tup [.str b.1, .ref a])
    have lq : qs.length = (bs.take i).length := bM.1
    have bl := G.bl
    refine ⟨_, sq _ _ eM, ?_, qs ++ [q], same_put hD (sM.trans sq), ?_, ?_⟩
    · rw [List.length_map, lq, List.length_take]; exact small1000 (by omega)
    · rw [upd_same, List.map_append]; rfl
    · rw [← take_snoc hbi]
      have dq : ∀ u, (∃ xs, u = HO.tup xs) → ∀ c, (L2.upd M q (.tup [.str b.1, .ref a])) c = some u → (L2.upd (L2.upd M q (.tup [.str b.1, .ref a])) D (.lst (qs.map V.ref ++ [.ref q]))) c = some u := fun u ⟨xs, eu⟩ c e => by
        rw [upd_ne ?_]
        · exact e
        · rintro rfl
          rw [sq _ _ eM, eu] at e
          cases e
      have keep : ∀ {p : Addr} {b' : Br}, BrAt (L2.upd M q (.tup [.str b.1, .ref a])) p b' → BrAt (L2.upd (L2.upd M q (.tup [.str b.1, .ref a])) D (.lst (qs.map V.ref ++ [.ref q]))) p b' := fun ⟨a', f1, f2⟩ => ⟨a', dq _ ⟨_, rfl⟩ _ f1, dq _ ⟨_, rfl⟩ _ f2⟩
      refine BrsAt.snoc ⟨bM.1, fun j p' b' h1 h2 => keep ((bM.2 j p' b' h1 h2).same sq)⟩ (keep ⟨a, upd_same, sq _ _ (sM _ _ e2)⟩)
  obtain ⟨qs, sM, eM, bM⟩ := z
  have lps : (ps.map V.ref).length = bs.length := by rw [List.length_map]; exact hb.1
  rw [lps, List.take_length] at bM
  refine ⟨D, _, rfl, .inl ⟨SqL.of eM, fun tb htb => ?_⟩⟩
  have sb := (sM.trans (same_new htb (.tup (qs.map V.ref))))
  refine ⟨_, rfl, x, T.C_Book, dx, _, rfl, sb _ _ eA, T.cl_Book, T.na_Book_barters, by show 1 < 1000; decide, ?_⟩
  have fB : putF "_barters" (V.ref tb) [("_goods", V.ref tg)] = fsB tg tb := rfl
  rw [fB]
  have gB := goX (o := .ins T.C_Book dx (fsB tg tb)) (go gA sb)
  have nb : tb ≠ x := nx (sb _ _ eA) (by exact upd_same)
  have ng : tg ≠ x := nx eA tA
  have eB : (L2.upd (L2.upd M tb (.tup (qs.map V.ref))) x (.ins T.C_Book dx (fsB tg tb))) x = some (.ins T.C_Book dx (fsB tg tb)) := upd_same
  have tgB : (L2.upd (L2.upd M tb (.tup (qs.map V.ref))) x (.ins T.C_Book dx (fsB tg tb))) tg = some (.tup (gs.map V.str)) := by rw [upd_ne ng]; exact sb _ _ tA
  have tbB : (L2.upd (L2.upd M tb (.tup (qs.map V.ref))) x (.ins T.C_Book dx (fsB tg tb))) tb = some (.tup (qs.map V.ref)) := by rw [upd_ne nb]; exact upd_same
  have bB : BrsAt (L2.upd (L2.upd M tb (.tup (qs.map V.ref))) x (.ins T.C_Book dx (fsB tg tb))) qs bs := ⟨bM.1, fun i p b h1 h2 => by
    obtain ⟨a, q1, q2⟩ := (bM.2 i p b h1 h2).same (same_new htb (.tup (qs.map V.ref)))
    exact ⟨a, by rw [upd_ne (nx (sb _ _ eA) q1)]; exact q1, by rw [upd_ne (nx (sb _ _ eA) q2)]; exact q2⟩⟩
  generalize L2.upd (L2.upd M tb (.tup (qs.map V.ref))) x (.ins T.C_Book dx (fsB tg tb)) = MB at gB eB tgB tbB bB ⊢
  have gl := G.gl
  have bl := G.bl
  -- the numbers of the goods
  refine ⟨_, rfl, x, _, _, _, .ref tg, rfl, eB, T.cl_Book, T.na_Book_goods, rfl, true, tg, gs.map V.str, rfl, SqT.of tgB, fun dg hdg => ?_⟩
  refine dc_it walk_enumM (fun i M => Same MB M ∧ M dg = some (.dK (kvN (gs.take i)))) ⟨same_new hdg _, upd_same⟩ (fun i M _ z => SqT.of (z.1 _ _ tgB)) (fun i y M M' hi z y' => ?_) (fun MC z => ?_)
  · obtain ⟨C, u, v, rfl, nC, rfl, eu, ev⟩ := y'
    obtain ⟨good, hx', rfl⟩ := getM ev
    cases eu
    obtain ⟨sM', eM'⟩ := z
    have sC := same_new nC (.tup [.int (i : Nat), .str good])
    refine ⟨C, _, rfl, SqT.of upd_same, rfl, _, _, rfl, _, _, rfl, rfl, rfl, ?_⟩
    refine ⟨_, rfl, _, rfl, _, Sum.inr good, rfl, sC _ _ eM', ?_, same_put hdg (sM'.trans sC), ?_⟩
    · rw [kvN_len, List.length_take]; exact small1000 (by omega)
    · rw [upd_same, kvN_take G.gn hx']
  obtain ⟨sC, eC⟩ := z
  have lgs : (gs.map V.str).length = gs.length := List.length_map _
  rw [lgs, List.take_length] at eC
  refine ⟨_, rfl, x, T.C_Book, dx, _, rfl, sC _ _ eB, T.cl_Book, T.na_Book_good_numbers, by show 2 < 1000; decide, ?_⟩
  have fC : putF "_good_numbers" (V.ref dg) (fsB tg tb) = fsC tg tb dg := rfl
  rw [fC]
  have gC := goX (o := .ins T.C_Book dx (fsC tg tb dg)) (go gB sC)
  have xC := sC _ _ eB
  have ndg : dg ≠ x := nxd xC eC
  have eD : (L2.upd MC x (.ins T.C_Book dx (fsC tg tb dg))) x = some (.ins T.C_Book dx (fsC tg tb dg)) := upd_same
  have tgD : (L2.upd MC x (.ins T.C_Book dx (fsC tg tb dg))) tg = some (.tup (gs.map V.str)) := by rw [upd_ne ng]; exact sC _ _ tgB
  have tbD : (L2.upd MC x (.ins T.C_Book dx (fsC tg tb dg))) tb = some (.tup (qs.map V.ref)) := by rw [upd_ne nb]; exact sC _ _ tbB
  have dgD : (L2.upd MC x (.ins T.C_Book dx (fsC tg tb dg))) dg = some (.dK (kvN gs)) := by rw [upd_ne ndg]; exact eC
  have bD : BrsAt (L2.upd MC x (.ins T.C_Book dx (fsC tg tb dg))) qs bs := ⟨bB.1, fun i p b h1 h2 => by
    obtain ⟨a, q1, q2⟩ := (bB.2 i p b h1 h2).same sC
    exact ⟨a, by rw [upd_ne (nx xC q1)]; exact q1, by rw [upd_ne (nx xC q2)]; exact q2⟩⟩
  generalize L2.upd MC x (.ins T.C_Book dx (fsC tg tb dg)) = MD at gC eD tgD tbD dgD bD ⊢
  -- the numbers of the barters
  refine ⟨_, rfl, x, _, _, rfl, eD, rfl, x, dx, tb, _, qs, bs, rfl, eD, rfl, tbD, bD, bl, fun nl ME sE hnl enl => ⟨false, nl, (bs.map (·.1)).map V.str, rfl, SqL.of enl, fun db hdb => ?_⟩⟩
  refine dc_it walk_enumM (fun i M => Same ME M ∧ M db = some (.dK (kvN ((bs.map (·.1)).take i)))) ⟨same_new hdb _, upd_same⟩ (fun i M _ z => SqL.of (z.1 _ _ enl)) (fun i y M M' hi z y' => ?_) (fun MF z => ?_)
  · obtain ⟨C, u, v, rfl, nC, rfl, eu, ev⟩ := y'
    obtain ⟨name, hx', rfl⟩ := getM ev
    cases eu
    obtain ⟨sM', eM'⟩ := z
    have sC := same_new nC (.tup [.int (i : Nat), .str name])
    refine ⟨C, _, rfl, SqT.of upd_same, rfl, _, _, rfl, _, _, rfl, rfl, rfl, ?_⟩
    refine ⟨_, rfl, _, rfl, _, Sum.inr name, rfl, sC _ _ eM', ?_, same_put hdb (sM'.trans sC), ?_⟩
    · rw [kvN_len, List.length_take, List.length_map]; exact small1000 (by omega)
    · rw [upd_same, kvN_take G.bn hx']
  obtain ⟨sF, eF⟩ := z
  rw [show ((bs.map (·.1)).map V.str).length = (bs.map (·.1)).length from List.length_map _, List.take_length] at eF
  have sEF := sE.trans sF
  refine ⟨_, rfl, x, T.C_Book, dx, _, rfl, sEF _ _ eD, T.cl_Book, T.na_Book_barter_numbers, by show 3 < 1000; decide, ?_⟩
  have xF := sEF _ _ eD
  refine k _ (goX (go gC sEF)) ⟨dx, tg, tb, dg, db, qs, fr gB ndg hdg, fr gC (nxd xF eF) (sE.free hdb), upd_same, ?_, ?_, ⟨bD.1, fun i p b h1 h2 => ?_⟩, ?_, ?_⟩
  · rw [upd_ne ng]; exact sEF _ _ tgD
  · rw [upd_ne nb]; exact sEF _ _ tbD
  · obtain ⟨a, q1, q2⟩ := (bD.2 i p b h1 h2).same sEF
    exact ⟨a, by rw [upd_ne (nx xF q1)]; exact q1, by rw [upd_ne (nx xF q2)]; exact q2⟩
  · rw [upd_ne ndg]; exact sEF _ _ dgD
  · rw [upd_ne (nxd xF eF)]; exact eF
end
end My

namespace My
open PySem PySem.Spec PyProof.Rows L2
/-- tuples stay -/
def KT (M M' : Hp) : Prop := ∀ b xs, M b = some (.tup xs) → M' b = some (.tup xs)
theorem KT.refl {M : Hp} : KT M M := fun _ _ h => h
theorem KT.of {M M' : Hp} (h : Same M M') : KT M M' := fun b xs e => h _ _ e
theorem KT.trans {M M' M2 : Hp} (h : KT M M') (g : KT M' M2) : KT M M2 := fun b xs e => g _ _ (h _ _ e)
theorem KT.upd {M : Hp} {D : Addr} {ys : List V} {o : HO} (h : M D = some (.lst ys)) : KT M (L2.upd M D o) := fun b xs e => by
  rw [upd_ne (fun z => by rw [z, h] at e; cases e)]; exact e
theorem BrAt.kt {H H' : Hp} (e : KT H H') {p : Addr} {b : Br} (h : BrAt H p b) : BrAt H' p b := by
  obtain ⟨a, h1, h2⟩ := h
  exact ⟨a, e _ _ h1, e _ _ h2⟩
theorem BrsAt.kt {H H' : Hp} (e : KT H H') {ps : List Addr} {bs : List Br} (h : BrsAt H ps bs) : BrsAt H' ps bs := ⟨h.1, fun i p b h1 h2 => (h.2 i p b h1 h2).kt e⟩
/-- lists of things at addresses -/
def AllAt {α : Type} (R : Addr → α → Prop) (ps : List Addr) (xs : List α) : Prop := ps.length = xs.length ∧ ∀ (i : Nat) (p : Addr) (x : α), ps[i]? = some p → xs[i]? = some x → R p x
theorem AllAt.nil {α : Type} {R : Addr → α → Prop} : AllAt R [] [] := ⟨rfl, fun i p b h _ => by cases i <;> cases h⟩
theorem AllAt.snoc {α : Type} {R : Addr → α → Prop} {ps : List Addr} {xs : List α} {p : Addr} {x : α} (h : AllAt R ps xs) (hb : R p x) : AllAt R (ps ++ [p]) (xs ++ [x]) := by
  refine ⟨by rw [List.length_append, List.length_append, h.1]; rfl, fun i q c e1 e2 => ?_⟩
  by_cases l : i < ps.length
  · rw [List.getElem?_append_left l] at e1
    rw [List.getElem?_append_left (by rw [← h.1]; exact l)] at e2
    exact h.2 i q c e1 e2
  · rw [List.getElem?_append_right (by omega)] at e1
    rw [List.getElem?_append_right (by rw [← h.1]; omega), ← h.1] at e2
    obtain ⟨j, hj⟩ : ∃ j, i - ps.length = j := ⟨_, rfl⟩
    rw [hj] at e1 e2
    cases j with
    | zero => cases e1; cases e2; exact hb
    | succ j => cases e1
theorem AllAt.imp {α : Type} {R R' : Addr → α → Prop} {ps : List Addr} {xs : List α} (h : AllAt R ps xs) (f : ∀ p x, R p x → R' p x) : AllAt R' ps xs := ⟨h.1, fun i p x h1 h2 => f p x (h.2 i p x h1 h2)⟩
theorem AllAt.get {α : Type} {R : Addr → α → Prop} {ps : List Addr} {xs : List α} (h : AllAt R ps xs) {i : Nat} {p : Addr} (e : ps[i]? = some p) : ∃ x, xs[i]? = some x ∧ R p x := by
  have il : i < xs.length := by rw [← h.1]; exact (List.getElem?_eq_some_iff.mp e).1
  exact ⟨_, List.getElem?_eq_getElem il, h.2 i p _ e (List.getElem?_eq_getElem il)⟩
/-! ### deeds -/
abbrev Dd := Str × Int
def DeedAt (H : Hp) (d : Addr) (q : Dd) : Prop := H d = some (.tup [.str q.1, .int q.2])
def StepAt (H : Hp) (s : Addr) (q : Dd) : Prop := ∃ d b, H s = some (.tup [.ref d, .ref b]) ∧ DeedAt H d q
theorem StepAt.kt {H H' : Hp} (e : KT H H') {s : Addr} {q : Dd} (h : StepAt H s q) : StepAt H' s q := by
  obtain ⟨d, b, h1, h2⟩ := h
  exact ⟨d, b, e _ _ h1, e _ _ h2⟩
def waysN (j : Nat) : List Int := ([1, -1] : List Int).take j
def dueW (st : List Int) (b : Br) (ws : List Int) : List Dd := (ws.filter fun w => enoughB (combR 1 st w b.2)).map fun w => (b.1, w)
def dueL (st : List Int) (bs : List Br) : List Dd := bs.flatMap fun b => dueW st b [1, -1]
theorem dueW_len (st : List Int) (b : Br) (ws : List Int) : (dueW st b ws).length ≤ ws.length := by unfold dueW; rw [List.length_map]; exact List.length_filter_le _ _
theorem dueL_len (st : List Int) (bs : List Br) : (dueL st bs).length ≤ 2 * bs.length := by
  unfold dueL
  induction bs with
  | nil => exact Nat.le_refl _
  | cons b r ih =>
    rw [List.flatMap_cons, List.length_append, List.length_cons]
    have := dueW_len st b [1, -1]
    have h2 : ([1, -1] : List Int).length = 2 := rfl
    omega
theorem dueL_snoc (st : List Int) (bs : List Br) (b : Br) : dueL st (bs ++ [b]) = dueL st bs ++ dueW st b [1, -1] := by
  unfold dueL
  rw [List.flatMap_append, List.flatMap_cons, List.flatMap_nil, List.append_nil]
theorem dueW_snoc (st : List Int) (b : Br) (ws : List Int) (w : Int) : dueW st b (ws ++ [w]) = dueW st b ws ++ (if enoughB (combR 1 st w b.2) = true then [(b.1, w)] else []) := by
  unfold dueW
  rw [List.filter_append, List.map_append, List.filter_cons, List.filter_nil]
  split <;> rfl
end My

namespace My
open PySem PySem.Spec PyProof.Rows L2
/-- len(..) over the frozen part K -/
def rLenK (K : PySem.W.Frag) : List V → Hp → VK → Prop := fun xs H Q => ∃ p ys, xs = [.ref p] ∧ (SqL K H p ys ∨ SqT K H p ys) ∧ Q (.int (ys.length : Nat)) H
theorem call_lenK {X : Cx} : CallR X (.builtin "len") (rLenK X.K) := call_len_seq
def spMixed : Sp := fun vs H Q _ => ∃ (s c a : Addr) (xs : List V), vs = [.ref s, .ref a] ∧ Src H s c ∧ H a = some (.lst xs) ∧ xs.length ≤ 1000 ∧
  ∀ (D : Addr) (ys : List V) (H' : Hp), Go s c H H' → H D = none → H' D = some (.lst ys) → ys.Perm xs → Q (.ref D) H'
theorem perm_erase {xs : List V} {k : Nat} {y : V} (h : xs[k]? = some y) : (y :: xs.eraseIdx k).Perm xs := by
  induction xs generalizing k with
  | nil => cases h
  | cons a r ih =>
    cases k with
    | zero => cases h; exact List.Perm.refl _
    | succ k => exact (List.Perm.swap a y _).trans (List.Perm.cons a (ih h))
/-- the two figures of a drawn name -/
def idxS (x : Str) : Int := match x.cps.toList with
  | _ :: a :: b :: _ => ((a : Int) - 48) * 10 + ((b : Int) - 48)
  | _ => 1000
def spNames2 : Sp := fun vs H Q _ => ∃ (s c : Addr) (n : Nat), vs = [.ref s, .int (n : Nat)] ∧ Src H s c ∧ n ≤ 10 ∧
  ∀ (a : Addr) (xs : List Str) (H' : Hp), Go s c H H' → H a = none → H' a = some (.lst (xs.map V.str)) → (∀ x ∈ xs, wordD (.str x) = true) → xs.length = n → xs.Nodup → (∀ x ∈ xs, idxS x < 100) → Q (.ref a) H'
theorem Src.upd6 {M : Hp} {s c D : Addr} {o : HO} (S : Src M s c) (n : D ≠ s ∧ D ≠ c) : Src (L2.upd M D o) s c := by
  obtain ⟨l, m, t, ns, h⟩ := S
  exact ⟨l, m, t, ns, by rw [upd_ne n.1.symm]; exact h.hs, by rw [upd_ne n.2.symm]; exact h.hc, h.l0, h.m0, h.m1, h.t0, h.n0, h.len⟩
/-- the last two figures of 100 + m -/
def twoS (m : Int) : Str := cutS (toString (100 + m)) (some 1) none
theorem two_ok (m : Int) (h0 : 0 ≤ m) (h1 : m < 100) : (twoS m).length = 2 ∧ (twoS m).cps.toList.all isAl = true ∧ (toString (100 + m) : Str).length ≤ 100 ∧ (100 + m).natAbs.log2 < 1920 := by
  have q : ∀ k ∈ List.range 100, (twoS (k : Nat)).length = 2 ∧ (twoS (k : Nat)).cps.toList.all isAl = true ∧ (toString (100 + ((k : Nat) : Int)) : Str).length ≤ 100 ∧ (100 + ((k : Nat) : Int)).natAbs.log2 < 1920 := by decide +kernel
  obtain ⟨k, rfl⟩ : ∃ k : Nat, m = (k : Int) := ⟨m.toNat, by omega⟩
  exact q k (List.mem_range.mpr (by omega))
def tailsV : List V := [.str "", .str "", .str "", .str "k", .str "kkkkkkkkk"]
theorem tails_ok {v : V} (h : v ∈ tailsV) : ∃ t : Str, v = .str t ∧ t.length ≤ 9 ∧ t.cps.toList.all isAl = true := by
  simp only [tailsV, List.mem_cons, List.not_mem_nil, or_false] at h
  rcases h with rfl | rfl | rfl | rfl | rfl <;> exact ⟨_, rfl, by decide +kernel, by decide +kernel⟩
theorem len_app (a b : Str) : (a ++ b).length = a.length + b.length := by
  show (a.cps ++ b.cps).size = a.cps.size + b.cps.size
  rw [Array.size_append]
theorem name_ok {c : Nat} {d t : Str} (hc : inS LTR c = true) (d2 : d.length = 2) (da : d.cps.toList.all isAl = true) (t9 : t.length ≤ 9) (ta : t.cps.toList.all isAl = true) : wordD (.str ((⟨#[c]⟩ : Str) ++ d ++ t)) = true := by
  have e : ((⟨#[c]⟩ : Str) ++ d ++ t).cps.toList = c :: (d.cps.toList ++ t.cps.toList) := by
    show (#[c] ++ d.cps ++ t.cps).toList = _
    simp
  have l : ((⟨#[c]⟩ : Str) ++ d ++ t).length ≤ 12 := by
    rw [len_app, len_app, d2]
    show 1 + 2 + t.length ≤ 12
    omega
  have al : isAl c = true := by unfold isAl; rw [hc]; rfl
  show (decide (((⟨#[c]⟩ : Str) ++ d ++ t).length ≤ 12) && (match ((⟨#[c]⟩ : Str) ++ d ++ t).cps.toList with
    | [] => false
    | c :: r => inS LTR c && (c :: r).all isAl)) = true
  rw [decide_eq_true l, e]
  show (true && (inS LTR c && (c :: (d.cps.toList ++ t.cps.toList)).all isAl)) = true
  rw [hc, List.all_cons, al, List.all_append, da, ta]
  rfl
theorem idx_two (m : Int) (h0 : 0 ≤ m) (h1 : m < 100) : ∃ a b, (twoS m).cps.toList = [a, b] ∧ ((a : Int) - 48) * 10 + ((b : Int) - 48) = m := by
  have q : ∀ k ∈ List.range 100, (match (twoS ((k : Nat) : Int)).cps.toList with
    | [a, b] => decide (((a : Int) - 48) * 10 + ((b : Int) - 48) = ((k : Nat) : Int))
    | _ => false) = true := by decide +kernel
  obtain ⟨k, rfl⟩ : ∃ k : Nat, m = (k : Int) := ⟨m.toNat, by omega⟩
  have z := q k (List.mem_range.mpr (by omega))
  cases e : (twoS ((k : Nat) : Int)).cps.toList with
  | nil => rw [e] at z; cases z
  | cons a r =>
    cases r with
    | nil => rw [e] at z; cases z
    | cons b r2 =>
      cases r2 with
      | nil => rw [e] at z; exact ⟨a, b, rfl, of_decide_eq_true z⟩
      | cons _ _ => rw [e] at z; cases z
theorem idx_name {c : Nat} {t : Str} (m : Int) (h0 : 0 ≤ m) (h1 : m < 100) : idxS ((⟨#[c]⟩ : Str) ++ twoS m ++ t) = m := by
  obtain ⟨a, b, e, q⟩ := idx_two m h0 h1
  have e2 : ((⟨#[c]⟩ : Str) ++ twoS m ++ t).cps.toList = c :: a :: b :: t.cps.toList := by
    have : ((⟨#[c]⟩ : Str) ++ twoS m ++ t).cps.toList = c :: ((twoS m).cps.toList ++ t.cps.toList) := by
      show (#[c] ++ (twoS m).cps ++ t.cps).toList = _
      simp
    rw [this, e]; rfl
  unfold idxS
  rw [e2]
  exact q
theorem idx_nodup {xs : List Str} {n : Nat} {sh : Int} (hn : n ≤ 10) (l : xs.length = n) (ix : ∀ (j : Nat) (x : Str), xs[j]? = some x → idxS x = (sh + 37 * (0 + (j : Int))) % 100) : xs.Nodup := by
  rw [List.nodup_iff_pairwise_ne, List.pairwise_iff_getElem]
  intro i j hi hj lt e
  have a := ix i _ (List.getElem?_eq_getElem hi)
  have b := ix j _ (List.getElem?_eq_getElem hj)
  rw [e, b] at a
  omega
section
variable {P : Program} {w : World} {K : PySem.W.Frag} {mg : Str → Option Value} {base : Heap}
theorem ok_names (T : Tx K mg) : FnOk P w K mg base CX0 2 T.a_law_names T.fd_law_names ["_law_source_here", "_law_many"] spNames2 := by
  refine T.F_law_names.ok sc_law_names (fun vs H Q E h => ?_) (fun cdv A outer st H vs Q E hr h => ?_)
  · obtain ⟨s, c, n, rfl, _⟩ := h
    rfl
  obtain ⟨s, c, n, rfl, hS, hn, k⟩ := h
  have G_law_pick : FnOk P w K mg base CX0 1 T.a_law_pick T.fd_law_pick ["_law_source_here", "_law_many"] spPick := ok_pick T
  have hr_law_pick : Room 1 _ := hr
  refine ⟨_, ((pss_cons (ps_par3 (i := 2) (j := 3) (l := 4) (by rfl) sc_law_names.nd rfl rfl rfl (by decide) (by decide) (by decide) rfl rfl rfl (pa_cons (pe_call G_law_pick hr_law_pick rfl T.m_law_pick T.F_law_pick.kp T.b_law_pick .nil pass0 (pa_cons (pv 0) (pa_cons pe_int pa_nil))) (pa_cons (pe_lst pa_nil) (pa_cons (pe_lst (pa_cons pe_str (pa_cons pe_str (pa_cons pe_str (pa_cons pe_str (pa_cons pe_str pa_nil)))))) pa_nil))) (by rfl))
      (pss_cons (ps_for PassesOwn.never rfl (pi_range1 rfl T.n_range (pa_cons (pv 1) pa_nil)) (pg_name (i := 5) sc_law_names.nd rfl (Or.inl rfl))
        (pss_cons (ps_set (i := 6) sc_law_names.nd rfl (Or.inl rfl) (pe_ix ix_str pe_str (pe_call G_law_pick hr_law_pick rfl T.m_law_pick T.F_law_pick.kp T.b_law_pick .nil pass0 (pa_cons (pv 0) (pa_cons pe_int pa_nil))) (fun _ _ => rfl)))
      (pss_one (ps_expr (pe_bm PySem.F.plainAttrs_list PySem.F.slot_list_append PySem.F.type_list_append mt_append (pv 3) (pa_cons (pe_op op_add_str (pe_op op_add_str (pv 6) (pe_slice sl_str (pe_callTy call_str_int (by rfl) T.n_str (by decide +kernel) (pa_cons (pe_op op_add pe_int (pe_op op_mod (pe_callTy call_int1 (by rfl) T.n_int (by decide +kernel) (pa_cons (pe_op op_add (pv 2) (pe_op op_mul pe_int (pv 5))) pa_nil)) pe_int)) pa_nil)) (po_some pe_int) po_none)) (pe_ix (show IxR _ (rIxL K) from ix_list) (pv 4) (pe_call G_law_pick hr_law_pick rfl T.m_law_pick T.F_law_pick.kp T.b_law_pick .nil pass0 (pa_cons (pv 0) (pa_cons pe_int pa_nil))) (fun _ _ => rfl))) pa_nil))))))
      (pss_one (ps_ret (pv 3)))))), ?_⟩
  refine ⟨_, rfl, s, c, 100, rfl, hS, by decide, by decide, fun sh H1 sh0 sh1 g1 => ⟨Nat.zero_le _, fun D hD => ⟨(by show 5 ≤ sizeLine; decide), fun tl htl => ⟨_, _, _, rfl, ?_⟩⟩⟩⟩
  have nD := g1.src.ne_none hD
  have s2 := same_new hD (.lst [])
  have nT := (g1.src.same s2).ne_none htl
  have s3 := same_new htl (.lst tailsV)
  have nDT : D ≠ tl := ne_of_none upd_same htl
  have g3 : Go s c H1 _ := Go.of g1.src (s2.trans s3)
  refine ⟨_, rfl, n, rfl, by omega, by omega, ?_⟩
  refine for_range (lo := 0) (n := n) (fun i σ M => ∃ (xs : List Str) (v5 v6 : Option V), σ = [some (.ref s), some (.int (n : Nat)), some (.int sh), some (.ref D), some (.ref tl), v5, v6] ∧ Src M s c ∧ (∀ b u, b ≠ s → b ≠ c → H b = some u → M b = some u) ∧
    M D = some (.lst (xs.map V.str)) ∧ M tl = some (.lst tailsV) ∧ (∀ x ∈ xs, wordD (.str x) = true) ∧ xs.length = i ∧ ∀ (j : Nat) (x : Str), xs[j]? = some x → idxS x = (sh + 37 * (0 + (j : Int))) % 100) ?_ ?_ ?_
  · refine ⟨[], none, none, rfl, g3.src, fun b u n1 n2 q => ?_, s3 _ _ upd_same, upd_same, (fun _ h => nomatch h), rfl, fun j x h => by cases j <;> cases h⟩
    exact (s2.trans s3) _ _ (g1.keep _ _ n1 n2 q)
  · rintro i σ M hi ⟨xs, v5, v6, rfl, S, old, eD, eT, ok, lx, ix⟩
    refine ⟨_, rfl, s, c, 26, rfl, S, by decide, by decide, fun j M1 j0 j1 ga => ?_⟩
    have l26 : LTR.cps.toList.length = 26 := by decide +kernel
    have hj : j.toNat < LTR.cps.toList.length := by rw [l26]; omega
    have ej : ((j.toNat : Nat) : Int) = j := by omega
    have ea : atI LTR.cps.toList j = some (LTR.cps.toList[j.toNat]) := by
      have q := atI_nat (List.getElem?_eq_getElem hj)
      rw [ej] at q
      exact q
    have al : inS LTR (LTR.cps.toList[j.toNat]) = true := decide_eq_true (List.getElem_mem _)
    generalize LTR.cps.toList[j.toNat] = lc at ea al
    refine ⟨LTR, _, _, rfl, rfl, (by show 26 ≤ sizeLine; decide), ea, ?_⟩
    have eD1 := ga.lst S eD nD.2
    have eT1 := ga.lst S eT nT.2
    have m0 : 0 ≤ (sh + 37 * (0 + (i : Int))) % 100 := Int.emod_nonneg _ (by decide)
    have m1 : (sh + 37 * (0 + (i : Int))) % 100 < 100 := Int.emod_lt_of_pos _ (by decide)
    have ⟨w2, wa, wl, wg⟩ := two_ok _ m0 m1
    refine ⟨_, rfl, .inl ⟨rfl, _, SqL.of eD1⟩, _, rfl, _, rfl, _, rfl, _, _, rfl, rfl, .inl ⟨by omega, by omega⟩, _, _, rfl, rfl, .inl ⟨_, rfl, _, _, rfl, rfl, (by show (0 : Int) < 100; decide), _, _, rfl, rfl, _, rfl, wg, _, rfl, _, rfl, sz6 (by omega), ?_⟩⟩
    have w2' : (cutS (toString (100 + (sh + 37 * (0 + (i : Int))) % 100)) (some 1) none).length = 2 := w2
    refine ⟨_, _, rfl, rfl, by rw [w2']; exact sz6 (by show 1 + 2 ≤ _; decide), _, rfl, _, rfl, s, c, 5, rfl, ga.src, by decide, by decide, fun j2 M2 q0 q1 gb => ?_⟩
    have eD2 := gb.lst ga.src eD1 nD.2
    have eT2 := gb.lst ga.src eT1 nT.2
    have hj2 : j2.toNat < tailsV.length := by show j2.toNat < 5; omega
    have ej2 : ((j2.toNat : Nat) : Int) = j2 := by omega
    have at2 : atI tailsV j2 = some (tailsV[j2.toNat]) := by
      have q := atI_nat (List.getElem?_eq_getElem hj2)
      rw [ej2] at q
      exact q
    obtain ⟨t, et, t9, ta⟩ := tails_ok (List.getElem_mem hj2)
    rw [et] at at2
    have ok1 := name_ok al w2 wa t9 ta
    refine ⟨tl, _, _, _, rfl, rfl, SqL.of eT2, at2, _, _, rfl, rfl, ?_, D, _, _, rfl, rfl, eD2, ?_, ?_⟩
    · rw [len_app, w2']; exact sz6 (by show 1 + 2 + t.length ≤ _; omega)
    · rw [List.length_map, lx]; exact small1000 (by omega)
    refine ⟨xs ++ [(⟨#[lc]⟩ : Str) ++ twoS ((sh + 37 * (0 + (i : Int))) % 100) ++ t], _, _, rfl, gb.src.upd6 nD, fun b u n1 n2 q => ?_, ?_, ?_, ?_, ?_, ?_⟩
    · rw [upd_ne (ne_of_none q (g1.free hD))]
      exact gb.keep _ _ n1 n2 (ga.keep _ _ n1 n2 (old b u n1 n2 q))
    · rw [upd_same, List.map_append]; rfl
    · rw [upd_ne nDT.symm]; exact eT2
    · intro x hx
      rcases List.mem_append.mp hx with h | h
      · exact ok x h
      · rw [List.mem_singleton.mp h]; exact ok1
    · rw [List.length_append, lx]; rfl
    · intro j x hx
      by_cases lj : j < xs.length
      · rw [List.getElem?_append_left lj] at hx
        exact ix j x hx
      · rw [List.getElem?_append_right (by omega)] at hx
        have ej0 : j - xs.length = 0 := by
          have := (List.getElem?_eq_some_iff.mp hx).1
          rw [List.length_singleton] at this
          omega
        rw [ej0] at hx
        cases hx
        have ejx : j = i := by omega
        rw [ejx]
        exact idx_name _ m0 m1
  · rintro σ M ⟨xs, v5, v6, rfl, S, old, eD, eT, ok, lx, ix⟩
    exact ⟨_, rfl, k D xs M ⟨fun a o n1 n2 q => old a o n1 n2 q, S⟩ (g1.free hD) eD ok lx (idx_nodup hn lx ix) (fun x hx => by
      obtain ⟨j, hj, rfl⟩ := List.getElem_of_mem hx
      rw [ix j _ (List.getElem?_eq_getElem hj)]
      exact Int.emod_lt_of_pos _ (by decide))⟩
theorem ok_mixed (T : Tx K mg) : FnOk P w K mg base CX0 2 T.a_law_mixed T.fd_law_mixed ["_law_source_here", "_law_things"] spMixed := by
  refine T.F_law_mixed.ok sc_law_mixed (fun vs H Q E h => ?_) (fun cdv A outer st H vs Q E hr h => ?_)
  · obtain ⟨s, c, a, xs, rfl, _⟩ := h
    rfl
  obtain ⟨s, c, a, xs, rfl, hS, ha, lx, k⟩ := h
  have G_law_pick : FnOk P w K mg base CX0 1 T.a_law_pick T.fd_law_pick ["_law_source_here", "_law_many"] spPick := ok_pick T
  have hr_law_pick : Room 1 _ := hr
  refine ⟨_, ((pss_cons (ps_set (i := 2) sc_law_mixed.nd rfl (Or.inr rfl) (pe_callTy call_list_of (by rfl) T.n_list (by decide +kernel) (pa_cons (pv 1) pa_nil)))
      (pss_one (ps_ret (pe_lc (own := [("_law_lap", 3)]) (by rfl) sc_law_mixed.nd (pi_range1 rfl T.n_range (pa_cons (pe_callB (show CallR _ (.builtin "len") (rLenK K) from call_lenK) (by rfl) T.n_len (by decide +kernel) (pa_cons (pv 2) pa_nil)) pa_nil)) (blkOk_by (own := [("_law_lap", 3)]) (N := ["_law_source_here", "_law_things", "_law_rest", "_law_lap"]) (sc := defScope s_law_mixed) (by decide +kernel)) (fun _ _ _ _ _ => pg_name (i := 3) sc_law_mixed.nd rfl (Or.inl rfl)) (fun _ _ _ _ _ => pts_nil) (fun _ _ _ _ _ => (show PE _ _ (tBM K _ _ _ _) from pe_bm PySem.F.plainAttrs_list PySem.F.slot_list_pop PySem.F.type_list_pop mt_popAt (pv 2) (pa_cons (pe_call G_law_pick hr_law_pick rfl T.m_law_pick T.F_law_pick.kp T.b_law_pick .nil pass0 (pa_cons (pv 0) (pa_cons (pe_callB (show CallR _ (.builtin "len") (rLenK K) from call_lenK) (by rfl) T.n_len (by decide +kernel) (pa_cons (pv 2) pa_nil)) pa_nil))) pa_nil)))))))), ?_⟩
  refine ⟨_, rfl, a, xs, rfl, .inl (SqL.of ha), fun R hR => ?_⟩
  have sR := same_new hR (.lst xs)
  have nR := hS.ne_none hR
  have eR : (L2.upd H R (.lst xs)) R = some (.lst xs) := upd_same
  refine ⟨_, rfl, R, xs, rfl, .inl (SqL.of eR), _, rfl, by omega, by omega, fun D hD => ?_⟩
  have nDR : D ≠ R := fun e => by rw [e, eR] at hD; cases hD
  have nD := (hS.same sR).ne_none hD
  have g0 : Go s c H _ := (Go.of hS sR).then (same_new hD (.lst []))
  refine lc_range (lo := 0) (n := xs.length) (fun i M => ∃ rest dn : List V, (∀ b u, b ≠ s → b ≠ c → H b = some u → M b = some u) ∧ Src M s c ∧ M R = some (.lst rest) ∧ M D = some (.lst dn) ∧ (dn ++ rest).Perm xs ∧ dn.length = i) ⟨xs, [], g0.keep, g0.src, by rw [upd_ne nDR.symm]; exact eR, upd_same, List.Perm.refl _, rfl⟩ (fun i M hi z => ?_) (fun M z => ?_)
  · obtain ⟨rest, dn, old, S, eRM, eDM, pm, ln⟩ := z
    have lr : rest.length = xs.length - i := by
      have := pm.length_eq
      rw [List.length_append] at this
      omega
    refine ⟨rfl, _, rfl, .inl ⟨rfl, _, SqL.of eRM⟩, _, rfl, _, rfl, R, rest, rfl, .inl (SqL.of eRM), s, c, _, rfl, S, by omega, by omega, fun j M2 j0 j1 g => ?_⟩
    have eR2 := g.lst S eRM nR.2
    have eD2 := g.lst S eDM nD.2
    obtain ⟨jn, rfl⟩ : ∃ jn : Nat, j = (jn : Int) := ⟨j.toNat, by omega⟩
    have hj : jn < rest.length := by omega
    have hy : rest[jn]? = some rest[jn] := List.getElem?_eq_getElem hj
    generalize rest[jn] = y at hy
    refine ⟨R, rest, _, jn, y, rfl, rfl, eR2, by omega, by omega, ?_, hy, ?_⟩
    · show (if (decide (0 ≤ (if (jn : Int) < 0 then (jn : Int) + rest.length else (jn : Int))) && decide ((if (jn : Int) < 0 then (jn : Int) + rest.length else (jn : Int)) < rest.length)) = true then some (if (jn : Int) < 0 then (jn : Int) + rest.length else (jn : Int)).toNat else none) = some jn
      rw [if_neg (by omega : ¬ (jn : Int) < 0), decide_eq_true (by omega), decide_eq_true (by omega)]
      rfl
    refine ⟨dn, by rw [upd_ne nDR]; exact eD2, by rw [ln]; exact small1000 (by omega), rest.eraseIdx jn, dn ++ [y], fun b u n1 n2 q => ?_, ?_, ?_, upd_same, ?_, by rw [List.length_append, ln]; rfl⟩
    · rw [upd_ne (ne_of_none q (sR.free hD)), upd_ne (ne_of_none q hR)]
      exact g.keep _ _ n1 n2 (old b u n1 n2 q)
    · exact (g.src.upd6 nR).upd6 nD
    · rw [upd_ne nDR.symm]; exact upd_same
    · refine List.Perm.trans ?_ pm
      rw [List.append_assoc]
      exact List.Perm.append_left dn (perm_erase hy)
  · obtain ⟨rest, dn, old, S, eRM, eDM, pm, ln⟩ := z
    have : rest = [] := by
      have := pm.length_eq
      rw [List.length_append] at this
      exact List.eq_nil_of_length_eq_zero (by omega)
    rw [this, List.append_nil] at pm
    exact k D dn M ⟨old, S⟩ (sR.free hD) eDM pm
end
end My

namespace My
open PySem PySem.Spec PyProof.Rows L2
/-- the heap without the source of draws -/
def cutH (s c : Addr) (H : Hp) : Hp := fun b => if b = s ∨ b = c then none else H b
theorem cut_at' {s c b : Addr} {H : Hp} {u : HO} (h : cutH s c H b = some u) : b ≠ s ∧ b ≠ c ∧ H b = some u := by
  unfold cutH at h
  by_cases e : b = s ∨ b = c
  · rw [if_pos e] at h; cases h
  · rw [if_neg e] at h
    exact ⟨fun z => e (.inl z), fun z => e (.inr z), h⟩
theorem cut_in {s c b : Addr} {H : Hp} {u : HO} (n : b ≠ s ∧ b ≠ c) (h : H b = some u) : cutH s c H b = some u := by
  unfold cutH
  rw [if_neg (fun z => z.elim n.1 n.2)]
  exact h
theorem cut_same {s c : Addr} {H : Hp} : Same (cutH s c H) H := fun _ _ h => (cut_at' h).2.2
theorem cut_go {s c : Addr} {H H' : Hp} (g : Go s c H H') : Same (cutH s c H) (cutH s c H') := fun b u h => by
  have ⟨n1, n2, e⟩ := cut_at' h
  exact cut_in ⟨n1, n2⟩ (g.keep b u n1 n2 e)
theorem cut_of {s c : Addr} {H H' : Hp} (g : Same H H') : Same (cutH s c H) (cutH s c H') := fun b u h => by
  have ⟨n1, n2, e⟩ := cut_at' h
  exact cut_in ⟨n1, n2⟩ (g b u e)
theorem cutV_lo (xs : List V) {j : Nat} (h : j ≤ xs.length) : cutV xs none (some (j : Int)) = xs.take j := by
  show (xs.drop 0).take (HT.sIx xs.length xs.length (some (j : Int)) - 0) = _
  rw [HT.sIx_nat, Nat.min_eq_left h, Nat.sub_zero, List.drop_zero]
theorem cutV_lo' (xs : List V) {j : Nat} : cutV xs none (some (j : Int)) = xs.take j := by
  show (xs.drop 0).take (HT.sIx xs.length xs.length (some (j : Int)) - 0) = _
  rw [HT.sIx_nat, Nat.sub_zero, List.drop_zero]
  rcases Nat.le_total j xs.length with h | h
  · rw [Nat.min_eq_left h]
  · rw [Nat.min_eq_right h, List.take_of_length_le h, List.take_of_length_le (Nat.le_refl _)]
theorem cutV_hi (xs : List V) {n : Nat} (h : n ≤ xs.length) : cutV xs (some (n : Int)) none = xs.drop n := by
  show (xs.drop (HT.sIx xs.length 0 (some (n : Int)))).take (xs.length - HT.sIx xs.length 0 (some (n : Int))) = _
  rw [HT.sIx_nat, Nat.min_eq_left h, List.take_of_length_le]
  rw [List.length_drop]; omega
theorem iteEq {n m : Nat} {A B : Prop} (e : n = m) (h : A) : if decide (V.int (n : Int) = V.int (m : Int)) = true then A else B := by
  subst e
  rw [decide_eq_true rfl]
  exact iteT h
theorem iteNq {n m : Nat} {A B : Prop} (e : n ≠ m) (h : B) : if decide (V.int (n : Int) = V.int (m : Int)) = true then A else B := by
  rw [decide_eq_false fun z => e (by have := V.int.inj z; omega)]
  exact iteF h
def strV : V → Str
  | .str x => x
  | _ => ""
theorem perm_strs {ys : List V} {gs : List Str} (h : ys.Perm (gs.map V.str)) : ∃ g2 : List Str, ys = g2.map V.str ∧ g2.Perm gs := by
  refine ⟨ys.map strV, ?_, ?_⟩
  · have all : ∀ v ∈ ys, ∃ x, v = V.str x := fun v hv => by
      obtain ⟨x, _, e⟩ := List.mem_map.mp (h.mem_iff.mp hv)
      exact ⟨x, e.symm⟩
    clear h
    induction ys with
    | nil => rfl
    | cons v r ih =>
      obtain ⟨x, rfl⟩ := all v (List.mem_cons_self ..)
      rw [List.map_cons, List.map_cons, ← ih fun u hu => all u (List.mem_cons_of_mem _ hu)]
      rfl
  · have q := h.map strV
    rw [List.map_map] at q
    have e : gs.map (strV ∘ V.str) = gs := by
      induction gs with
      | nil => rfl
      | cons a r ih => exact congrArg (List.cons a) (List.map_id' r)
    rw [e] at q
    exact q
/-! ### drawn trees without names -/
inductive Tr (M : Hp) : Nat → V → List Str → Prop
  | leaf {n : Nat} (x : Str) : Tr M (n + 1) (.str x) [x]
  | fork {n : Nat} {a : Addr} {l r : V} {ls rs : List Str} : M a = some (.lst [l, r]) → Tr M n l ls → Tr M n r rs → Tr M (n + 1) (.ref a) (ls ++ rs)
theorem Tr.same {M M' : Hp} (e : Same M M') : ∀ {n : Nat} {v : V} {ls : List Str}, Tr M n v ls → Tr M' n v ls
  | _, _, _, .leaf x => .leaf x
  | _, _, _, .fork h a b => .fork (e _ _ h) (Tr.same e a) (Tr.same e b)
theorem Tr.pos {M : Hp} : ∀ {n : Nat} {v : V} {ls : List Str}, Tr M n v ls → 1 ≤ ls.length
  | _, _, _, .leaf x => Nat.le_refl _
  | _, _, _, .fork h a b => by rw [List.length_append]; have := Tr.pos a; omega
def spTree (n : Nat) : Sp := fun vs H Q _ => ∃ (s c a : Addr) (gs : List Str), vs = [.ref s, .ref a] ∧ Src H s c ∧ H a = some (.lst (gs.map V.str)) ∧ a ≠ c ∧ 1 ≤ gs.length ∧ gs.length ≤ n ∧ n ≤ 20 ∧
  ∀ (v : V) (ls : List Str) (H' : Hp), Go s c H H' → Tr (cutH s c H') n v ls → ls.Perm gs → Q v H'
def spLeaves34 (n : Nat) : Sp := fun vs H Q _ => ∃ (v : V) (ls : List Str), vs = [v] ∧ Tr H n v ls ∧ ls.length ≤ 100 ∧
  ∀ (D : Addr) (H' : Hp), Same H H' → H D = none → H' D = some (.lst (ls.map V.str)) → Q (.ref D) H'
section
variable {P : Program} {w : World} {K : PySem.W.Frag} {mg : Str → Option Value} {base : Heap}
theorem ok_tree (T : Tx K mg) : ∀ n, FnOk P w K mg base CX0 (n + 3) T.a_law_tree T.fd_law_tree ["_law_source_here", "_law_goods"] (spTree n)
  | 0 => by
    refine T.F_law_tree.ok sc_law_tree (fun vs H Q E h => ?_) (fun cdv A outer st H vs Q E hr h => ?_)
    · obtain ⟨s, c, a, gs, rfl, _⟩ := h
      rfl
    · obtain ⟨s, c, a, gs, rfl, _, _, _, h1, h2, _⟩ := h
      omega
  | n + 1 => by
    refine T.F_law_tree.ok sc_law_tree (fun vs H Q E h => ?_) (fun cdv A outer st H vs Q E hr h => ?_)
    · obtain ⟨s, c, a, gs, rfl, _⟩ := h
      rfl
    obtain ⟨s, c, a, gs, rfl, hS, ha, nac, l1, ln, n20, k⟩ := h
    have G_law_tree : FnOk P w K mg base CX0 (n + 3) T.a_law_tree T.fd_law_tree ["_law_source_here", "_law_goods"] (spTree n) := ok_tree T n
    have hr_law_tree : Room (n + 3) _ := hr
    have G_law_pick : FnOk P w K mg base CX0 1 T.a_law_pick T.fd_law_pick ["_law_source_here", "_law_many"] spPick := ok_pick T
    have hr_law_pick : Room 1 _ := hr.mono (by omega)
    have G_law_mixed : FnOk P w K mg base CX0 2 T.a_law_mixed T.fd_law_mixed ["_law_source_here", "_law_things"] spMixed := ok_mixed T
    have hr_law_mixed : Room 2 _ := hr.mono (by omega)
    refine ⟨_, ((pss_cons (ps_if (pt_cmpR op_eq (pe_callB call_len_seq (by rfl) T.n_len (by decide +kernel) (pa_cons (pv 1) pa_nil)) pe_int (nomark _))
        (pss_one (ps_ret (pe_ix (show IxR _ (rIxL K) from ix_list) (pv 1) pe_int (fun _ _ => rfl))))
        pss_nil)
      (pss_cons (ps_par (i := 2) (j := 3) (by rfl) sc_law_tree.nd rfl rfl (by decide) rfl rfl (pa_cons (pe_op op_add pe_int (pe_call G_law_pick hr_law_pick rfl T.m_law_pick T.F_law_pick.kp T.b_law_pick .nil pass0 (pa_cons (pv 0) (pa_cons (pe_op op_sub (pe_callB call_len_seq (by rfl) T.n_len (by decide +kernel) (pa_cons (pv 1) pa_nil)) pe_int) pa_nil)))) (pa_cons (pe_call G_law_mixed hr_law_mixed rfl T.m_law_mixed T.F_law_mixed.kp T.b_law_mixed .nil pass0 (pa_cons (pv 0) (pa_cons (pv 1) pa_nil))) pa_nil)) (by rfl))
      (pss_one (ps_ret (pe_lst (pa_cons (pe_call G_law_tree hr_law_tree rfl T.m_law_tree T.F_law_tree.kp T.b_law_tree .nil pass0 (pa_cons (pv 0) (pa_cons (pe_slice sl_list (pv 3) po_none (po_some (pv 2))) pa_nil))) (pa_cons (pe_call G_law_tree hr_law_tree rfl T.m_law_tree T.F_law_tree.kp T.b_law_tree .nil pass0 (pa_cons (pv 0) (pa_cons (pe_slice sl_list (pv 3) (po_some (pv 2)) po_none) pa_nil))) pa_nil)))))))), ?_⟩
    by_cases one : gs.length = 1
    · refine ⟨_, rfl, a, _, rfl, .inl (SqL.of ha), rfl, _, rfl, iteEq (m := 1) (by rw [List.length_map]; exact one) ?_⟩
      obtain ⟨x, rfl⟩ : ∃ x, gs = [x] := List.length_eq_one_iff.mp one
      refine ⟨_, rfl, a, _, _, _, rfl, rfl, SqL.of ha, atI_nat (j := 0) rfl, ?_⟩
      exact k _ [x] H (Go.refl hS) (.leaf x) (List.Perm.refl _)
    · refine ⟨_, rfl, a, _, rfl, .inl (SqL.of ha), rfl, _, rfl, iteNq (m := 1) (by rw [List.length_map]; exact one) ?_⟩
      refine ⟨_, rfl, _, rfl, a, _, rfl, .inl (SqL.of ha), _, _, rfl, rfl, s, c, _, rfl, hS, by rw [List.length_map]; omega, by rw [List.length_map]; omega, fun j M j0 j1 g => ⟨_, _, rfl, rfl, ?_⟩⟩
      have ha1 := g.lst hS ha nac
      refine ⟨_, rfl, _, rfl, s, c, a, _, rfl, g.src, ha1, by rw [List.length_map]; omega, fun D ys M2 g2 hD eD pm => ⟨_, _, rfl, ?_⟩⟩
      obtain ⟨g3, rfl, pg⟩ := perm_strs pm
      have lg : g3.length = gs.length := pg.length_eq
      rw [List.length_map] at j1
      obtain ⟨jn, rfl⟩ : ∃ jn : Nat, j = (jn : Int) := ⟨j.toNat, by omega⟩
      have e1 : (1 + (jn : Int)) = ((jn + 1 : Nat) : Int) := by omega
      have nD := g.src.ne_none hD
      have lo : cutV (g3.map V.str) none (some (1 + (jn : Int))) = (g3.take (jn + 1)).map V.str := by rw [e1, cutV_lo _ (by rw [List.length_map]; omega), List.map_take]
      have hi : cutV (g3.map V.str) (some (1 + (jn : Int))) none = (g3.drop (jn + 1)).map V.str := by rw [e1, cutV_hi _ (by rw [List.length_map]; omega), List.map_drop]
      refine ⟨_, rfl, _, rfl, _, rfl, 1 + (jn : Int), rfl, D, _, rfl, SqL.of eD, fun p hp => ?_⟩
      rw [lo]
      have sp := same_new hp (.lst ((g3.take (jn + 1)).map V.str))
      have np := g2.src.ne_none hp
      refine ⟨s, c, p, _, rfl, g2.src.same sp, upd_same, np.2, by rw [List.length_take]; omega, by rw [List.length_take]; omega, by omega, fun v ls M3 g3' t1 p1 => ?_⟩
      have gA := (Go.of g2.src sp).trans g3'
      have eD3 := gA.lst g2.src eD nD.2
      refine ⟨_, rfl, _, rfl, _, rfl, 1 + (jn : Int), rfl, D, _, rfl, SqL.of eD3, fun p2 hp2 => ?_⟩
      rw [hi]
      have sp2 := same_new hp2 (.lst ((g3.drop (jn + 1)).map V.str))
      have np2 := gA.src.ne_none hp2
      refine ⟨s, c, p2, _, rfl, gA.src.same sp2, upd_same, np2.2, by rw [List.length_drop]; omega, by rw [List.length_drop]; omega, by omega, fun v2 ls2 M4 g4 t2 p2' => ?_⟩
      have gB := (Go.of gA.src sp2).trans g4
      refine ⟨(by show 2 ≤ sizeLine; decide), fun q hq => ?_⟩
      have nq := gB.src.ne_none hq
      have sq := same_new hq (.lst [v, v2])
      have cq := cut_of (s := s) (c := c) sq
      refine k _ (ls ++ ls2) _ (((g.trans g2).trans (gA.trans gB)).then sq) (.fork (cut_in nq upd_same) (t1.same ((cut_go gB).trans cq)) (t2.same cq)) ?_
      have q3 := p1.append p2'
      rw [List.take_append_drop] at q3
      exact q3.trans pg
theorem ok_leaves34 (T : Tx K mg) : ∀ n, FnOk P w K mg base CX0 (n + 1) T.a_law_leaves T.fd_law_leaves ["_law_tree_here"] (spLeaves34 n)
  | 0 => by
    refine T.F_law_leaves.ok sc_law_leaves (fun vs H Q E h => ?_) (fun cdv A outer st H vs Q E hr h => ?_)
    · obtain ⟨v, ls, rfl, _⟩ := h
      rfl
    · obtain ⟨v, ls, _, t, _⟩ := h
      cases t
  | n + 1 => by
    refine T.F_law_leaves.ok sc_law_leaves (fun vs H Q E h => ?_) (fun cdv A outer st H vs Q E hr h => ?_)
    · obtain ⟨v, ls, rfl, _⟩ := h
      rfl
    obtain ⟨v, ls, rfl, t, ll, k⟩ := h
    have G_law_leaves : FnOk P w K mg base CX0 (n + 1) T.a_law_leaves T.fd_law_leaves ["_law_tree_here"] (spLeaves34 n) := ok_leaves34 T n
    have hr_law_leaves : Room (n + 1) _ := hr
    refine ⟨_, ((pss_cons (ps_if (pt_val (pe_callB (show CallR _ (.builtin "isinstance") (rIsi K) from call_isi) (by rfl) T.n_isinstance (by decide +kernel) (pa_cons (pv 0) (pa_cons (pe_bltn (v := .ty "str") (by rfl) T.n_str (by decide +kernel) rfl) pa_nil))))
        (pss_one (ps_ret (pe_lst (pa_cons (pv 0) pa_nil))))
        pss_nil)
      (pss_one (ps_ret (pe_op op_cat (pe_call G_law_leaves hr_law_leaves rfl T.m_law_leaves T.F_law_leaves.kp T.b_law_leaves .nil pass0 (pa_cons (pe_ix (show IxR _ (rIxL K) from ix_list) (pv 0) pe_int (fun _ _ => rfl)) pa_nil)) (pe_call G_law_leaves hr_law_leaves rfl T.m_law_leaves T.F_law_leaves.kp T.b_law_leaves .nil pass0 (pa_cons (pe_ix (show IxR _ (rIxL K) from ix_list) (pv 0) pe_int (fun _ _ => rfl)) pa_nil))))))), ?_⟩
    cases t with
    | leaf x =>
      refine ⟨_, rfl, .str x, .ty "str", .type "str", .type "str", _, rfl, .ty _, .base (.str x), kit_ty (r := true) (by decide +kernel), ?_⟩
      refine ⟨_, rfl, iteT ?_⟩
      refine ⟨_, rfl, (by show 1 ≤ sizeLine; decide), fun D hD => ?_⟩
      exact k D _ (same_new hD _) hD upd_same
    | fork h a b =>
      rename_i a0 l r ls rs
      rw [List.length_append] at ll
      refine ⟨_, rfl, .ref a0, .ty "str", .type "list", .type "str", _, rfl, .ty _, .base (.lst h), kit_ty (r := false) (by decide +kernel), ?_⟩
      refine ⟨_, rfl, iteF ?_⟩
      refine ⟨_, rfl, a0, _, _, _, rfl, rfl, SqL.of h, atI_nat (j := 0) rfl, l, ls, rfl, a, by omega, fun D1 M1 s1 hD1 e1 => ?_⟩
      refine ⟨_, rfl, a0, _, _, _, rfl, rfl, SqL.of (s1 _ _ h), atI_nat (j := 1) rfl, r, rs, rfl, b.same s1, by omega, fun D2 M2 s2 hD2 e2 => ?_⟩
      refine ⟨D1, D2, _, _, rfl, rfl, s2 _ _ e1, e2, ?_, fun p hp => ?_⟩
      · rw [List.length_map, List.length_map]; exact small (by omega)
      · rw [← List.map_append]
        exact k p _ ((s1.trans s2).trans (same_new hp _)) (s1.free (s2.free hp)) upd_same
end
end My

namespace My
open PySem PySem.Spec PyProof.Rows L2
theorem KT.go {s c : Addr} {H H' : Hp} (S : Src H s c) (g : Go s c H H') : KT H H' := fun b xs e => g.tup S e
theorem paired_of {α : Type} {R : Addr → α → Prop} : ∀ {ps : List Addr} {xs : List α}, AllAt R ps xs → Paired R ps xs
  | [], [], _ => .nil
  | [], _ :: _, h => nomatch h.1
  | _ :: _, [], h => nomatch h.1
  | p :: ps, x :: xs, h => .cons (h.2 0 p x rfl rfl) (paired_of ⟨Nat.succ.inj h.1, fun i p x h1 h2 => h.2 (i + 1) p x h1 h2⟩)
/-! ### the dict of a row -/
def Drow (gs : List Str) (f : Str → Int) : List (Key × V) := gs.map fun g => (.inr g, .int (f g))
def updF (f : Str → Int) (x : Str) (v : Int) : Str → Int := fun y => if y = x then v else f y
theorem get_Drow {gs : List Str} {f : Str → Int} {x : Str} (h : x ∈ gs) : valV (Drow gs f) (Sum.inr x) = some (.int (f x)) := by
  induction gs with
  | nil => cases h
  | cons g r ih =>
    by_cases e : g = x
    · subst e
      exact valV_pos rfl
    · show valV (((Sum.inr g : Key), V.int (f g)) :: Drow r f) (Sum.inr x) = _
      rw [valV_neg (fun z => e (Sum.inr.inj z))]
      exact ih ((List.mem_cons.mp h).resolve_left fun z => e z.symm)
theorem put_Drow {gs : List Str} {f : Str → Int} {x : Str} {v : Int} (h : x ∈ gs) : putK (Drow gs f) (Sum.inr x) (.int v) = Drow gs (updF f x v) := by
  rw [put_there _ (get_Drow h)]
  unfold Drow
  rw [List.map_map]
  refine List.map_congr_left fun g _ => ?_
  show (if (Sum.inr g : Key) = Sum.inr x then ((Sum.inr g : Key), V.int v) else (Sum.inr g, V.int (f g))) = (Sum.inr g, V.int (if g = x then v else f g))
  by_cases e : g = x
  · subst e
    rw [if_pos rfl, if_pos rfl]
  · rw [if_neg (fun z => e (Sum.inr.inj z)), if_neg e]
theorem no_Drow {gs : List Str} {f : Str → Int} {x : Str} (h : x ∉ gs) : valV (Drow gs f) (Sum.inr x) = none := by
  refine valV_no fun kv q e => ?_
  obtain ⟨y, hy, rfl⟩ := List.mem_map.mp q
  exact h (Sum.inr.inj e ▸ hy)
theorem merge_Drow (f : Str → Int) : ∀ (bs as : List Str), (as ++ bs).Nodup → mergeK (Drow as f) (Drow bs f) = Drow (as ++ bs) f
  | [], as, _ => by rw [List.append_nil]; rfl
  | b :: bs, as, h => by
    have nb : b ∉ as := fun m => by
      have := (List.nodup_append.mp h).2.2 b m b (List.mem_cons_self ..)
      exact this rfl
    show mergeK (putK (Drow as f) (Sum.inr b) (.int (f b))) (Drow bs f) = _
    rw [putK_new _ (no_Drow nb)]
    have e : Drow as f ++ [((Sum.inr b : Key), V.int (f b))] = Drow (as ++ [b]) f := by unfold Drow; rw [List.map_append]; rfl
    rw [e, merge_Drow f bs (as ++ [b]) (by rw [List.append_assoc]; exact h), List.append_assoc]
    rfl
theorem Drow_len {gs : List Str} {f : Str → Int} : (Drow gs f).length = gs.length := List.length_map _
def RowAt (H : Hp) (p : Addr) (r : List Int) : Prop := H p = some (.tup (rowV r))
theorem mixed_of {gs : List Str} {f : Str → Int} {sg : Int} (hs : sg = 1 ∨ sg = -1) {x y : Str} (hx : x ∈ gs) (hy : y ∈ gs) (px : 0 < f x * sg) (py : 0 < f y * (-sg)) : mixedB (gs.map f) = true := by
  unfold mixedB
  rw [Bool.and_eq_true, List.any_eq_true, List.any_eq_true]
  rcases hs with rfl | rfl
  · exact ⟨⟨f y, List.mem_map.mpr ⟨y, hy, rfl⟩, decide_eq_true (by omega)⟩, ⟨f x, List.mem_map.mpr ⟨x, hx, rfl⟩, decide_eq_true (by omega)⟩⟩
  · exact ⟨⟨f x, List.mem_map.mpr ⟨x, hx, rfl⟩, decide_eq_true (by omega)⟩, ⟨f y, List.mem_map.mpr ⟨y, hy, rfl⟩, decide_eq_true (by omega)⟩⟩
/-- the entries of a row are small -/
def smallR (r : List Int) : Prop := ∀ e ∈ r, -4 ≤ e ∧ e ≤ 4
abbrev RowG (n : Nat) (r : List Int) : Prop := (r.length = n ∧ mixedB r = true) ∧ smallR r
def spForked (n : Nat) : Sp := fun vs H Q _ => ∃ (s c g rl : Addr) (v : V) (sh : Int) (ls gs : List Str) (rs : List Addr) (rows : List (List Int)), vs = [.ref s, v, .ref g, .int sh, .ref rl] ∧ Src H s c ∧ Tr (cutH s c H) n v ls ∧ ls.Nodup ∧ (∀ x ∈ ls, x ∈ gs) ∧
  H g = some (.lst (gs.map V.str)) ∧ g ≠ c ∧ gs.Nodup ∧ gs.length ≤ 20 ∧ (sh = 1 ∨ sh = 4) ∧ H rl = some (.lst (rs.map V.ref)) ∧ rl ≠ c ∧ AllAt (RowAt H) rs rows ∧ (∀ r ∈ rows, RowG gs.length r) ∧ rows.length + ls.length ≤ 50 ∧
  ∀ (rl' : Addr) (rs' : List Addr) (rows' : List (List Int)) (H' : Hp), Go s c H H' → rl' ≠ c → H' rl' = some (.lst (rs'.map V.ref)) → AllAt (RowAt H') rs' rows' → (∀ r ∈ rows', RowG gs.length r) → rows'.length + 1 ≤ rows.length + ls.length → Q (.ref rl') H'
section
variable {P : Program} {w : World} {K : PySem.W.Frag} {mg : Str → Option Value} {base : Heap}
theorem ok_forked (T : Tx K mg) : ∀ n, FnOk P w K mg base CX0 (n + 3) T.a_law_forked T.fd_law_forked ["_law_source_here", "_law_tree_here", "_law_goods", "_law_share", "_law_rows"] (spForked n)
  | 0 => by
    refine T.F_law_forked.ok sc_law_forked (fun vs H Q E h => ?_) (fun cdv A outer st H vs Q E hr h => ?_)
    · obtain ⟨s, c, g, rl, v, sh, ls, gs, rs, rows, rfl, _⟩ := h
      rfl
    · obtain ⟨s, c, g, rl, v, sh, ls, gs, rs, rows, rfl, _, t, _⟩ := h
      cases t
  | n + 1 => by
    refine T.F_law_forked.ok sc_law_forked (fun vs H Q E h => ?_) (fun cdv A outer st H vs Q E hr h => ?_)
    · obtain ⟨s, c, g, rl, v, sh, ls, gs, rs, rows, rfl, _⟩ := h
      rfl
    obtain ⟨s, c, g, rl, v, sh, ls, gs, rs, rows, rfl, hS, t, nd, sub, hg, ngc, ndg, lg, hsh, hrl, nrc, aR, okR, lR, k⟩ := h
    have hu := hu_of hr
    have G_law_forked : FnOk P w K mg base CX0 (n + 3) T.a_law_forked T.fd_law_forked ["_law_source_here", "_law_tree_here", "_law_goods", "_law_share", "_law_rows"] (spForked n) := ok_forked T n
    have hr_law_forked : Room (n + 3) _ := hr
    have G_law_pick : FnOk P w K mg base CX0 1 T.a_law_pick T.fd_law_pick ["_law_source_here", "_law_many"] spPick := ok_pick T
    have hr_law_pick : Room 1 _ := hr.mono (by omega)
    have G_law_of : FnOk P w K mg base CX0 2 T.a_law_of T.fd_law_of ["_law_source_here", "_law_some"] (spOf K) := ok_of T
    have hr_law_of : Room 2 _ := hr.mono (by omega)
    have G_law_mixed : FnOk P w K mg base CX0 2 T.a_law_mixed T.fd_law_mixed ["_law_source_here", "_law_things"] spMixed := ok_mixed T
    have hr_law_mixed : Room 2 _ := hr.mono (by omega)
    have G_law_leaves : FnOk P w K mg base CX0 (n + 1) T.a_law_leaves T.fd_law_leaves ["_law_tree_here"] (spLeaves34 n) := ok_leaves34 T n
    have hr_law_leaves : Room (n + 1) _ := hr.mono (by omega)
    refine ⟨_, ((pss_cons (ps_if (pt_val (pe_callB (show CallR _ (.builtin "isinstance") (rIsi K) from call_isi) (by rfl) T.n_isinstance (by decide +kernel) (pa_cons (pv 1) (pa_cons (pe_bltn (v := .ty "str") (by rfl) T.n_str (by decide +kernel) rfl) pa_nil))))
        (pss_one (ps_ret (pv 4)))
        pss_nil)
      (pss_cons (ps_if (PW.pt (pw_or (pt_cmpR op_gt (pe_call G_law_pick hr_law_pick rfl T.m_law_pick T.F_law_pick.kp T.b_law_pick .nil pass0 (pa_cons (pv 0) (pa_cons (pv 3) pa_nil))) pe_int (nomark _)) (pw_or1 (pt_cmpR op_eq (pv 3) pe_int (nomark _)))))
        (pss_cons (ps_asg (pe_tup (pa_cons (pe_callTy (call_dictP rfl) (by rfl) T.n_dict (by decide +kernel) (pa_cons (pe_lc (own := [("_law_good", 9)]) (by rfl) sc_law_forked.nd (pi_list (pv 2)) (blkOk_by (own := [("_law_good", 9)]) (N := ["_law_source_here", "_law_tree_here", "_law_goods", "_law_share", "_law_rows", "_law_row_here", "_law_sign", "_law_side", "_law_part", "_law_good"]) (sc := defScope s_law_forked) (by decide +kernel)) (fun _ _ _ _ _ => pg_name (i := 9) sc_law_forked.nd rfl (Or.inl rfl)) (fun _ _ _ _ _ => pts_nil) (fun _ _ _ _ _ => (pe_tup (pa_cons (pv 9) (pa_cons pe_int pa_nil))))) pa_nil)) (pa_cons (pe_call G_law_of hr_law_of rfl T.m_law_of T.F_law_of.kp T.b_law_of .nil pass0 (pa_cons (pv 0) (pa_cons (pe_lst (pa_cons pe_int (pa_cons (pe_un un_neg pe_int) pa_nil))) pa_nil))) pa_nil))) (pg_tup rfl (pgs_cons (pg_name (i := 5) sc_law_forked.nd rfl (Or.inr rfl)) (pgs_cons (pg_name (i := 6) sc_law_forked.nd rfl (Or.inl rfl)) pgs_nil))))
      (pss_cons (ps_for PassesOwn.never rfl (pi_list (pe_lst (pa_cons (pe_tup (pa_cons (pv 6) (pa_cons (pe_ix (show IxR _ (rIxL K) from ix_list) (pv 1) pe_int (fun _ _ => rfl)) pa_nil))) (pa_cons (pe_tup (pa_cons (pe_op op_sub pe_int (pv 6)) (pa_cons (pe_ix (show IxR _ (rIxL K) from ix_list) (pv 1) pe_int (fun _ _ => rfl)) pa_nil))) pa_nil)))) (pg_tup rfl (pgs_cons (pg_name (i := 7) sc_law_forked.nd rfl (Or.inl rfl)) (pgs_cons (pg_name (i := 8) sc_law_forked.nd rfl (Or.inl rfl)) pgs_nil)))
        (pss_one (ps_for PassesOwn.never rfl (pi_list (pe_slice sl_list (pe_call G_law_mixed hr_law_mixed rfl T.m_law_mixed T.F_law_mixed.kp T.b_law_mixed .nil pass0 (pa_cons (pv 0) (pa_cons (pe_call G_law_leaves hr_law_leaves rfl T.m_law_leaves T.F_law_leaves.kp T.b_law_leaves .nil pass0 (pa_cons (pv 8) pa_nil)) pa_nil))) po_none (po_some (pe_call G_law_of hr_law_of rfl T.m_law_of T.F_law_of.kp T.b_law_of .nil pass0 (pa_cons (pv 0) (pa_cons (pe_lst (pa_cons pe_int (pa_cons pe_int (pa_cons pe_int (pa_cons pe_int pa_nil))))) pa_nil)))))) (pg_name (i := 9) sc_law_forked.nd rfl (Or.inl rfl))
        (pss_one (ps_dput hu (pv 5) (pv 9) (pe_op op_mul (pv 7) (pe_call G_law_of hr_law_of rfl T.m_law_of T.F_law_of.kp T.b_law_of .nil pass0 (pa_cons (pv 0) (pa_cons (pe_lst (pa_cons pe_int (pa_cons pe_int (pa_cons pe_int (pa_cons pe_int (pa_cons pe_int (pa_cons pe_int (pa_cons pe_int pa_nil)))))))) pa_nil)))) rfl)))))
      (pss_one (ps_set (i := 4) sc_law_forked.nd rfl (Or.inl rfl) (pe_op op_cat (pv 4) (pe_lst (pa_cons (pe_callTy call_tuple_of (by rfl) T.n_tuple (by decide +kernel) (pa_cons (pe_lc (own := [("_law_good", 9)]) (by rfl) sc_law_forked.nd (pi_list (pv 2)) (blkOk_by (own := [("_law_good", 9)]) (N := ["_law_source_here", "_law_tree_here", "_law_goods", "_law_share", "_law_rows", "_law_row_here", "_law_sign", "_law_side", "_law_part", "_law_good"]) (sc := defScope s_law_forked) (by decide +kernel)) (fun _ _ _ _ _ => pg_name (i := 9) sc_law_forked.nd rfl (Or.inl rfl)) (fun _ _ _ _ _ => pts_nil) (fun _ _ _ _ _ => (pe_dget hu (pv 5) (pv 9) (fun _ _ => rfl)))) pa_nil)) pa_nil)))))))
        pss_nil)
      (pss_cons (ps_set (i := 4) sc_law_forked.nd rfl (Or.inl rfl) (pe_call G_law_forked hr_law_forked rfl T.m_law_forked T.F_law_forked.kp T.b_law_forked .nil pass0 (pa_cons (pv 0) (pa_cons (pe_ix (show IxR _ (rIxL K) from ix_list) (pv 1) pe_int (fun _ _ => rfl)) (pa_cons (pv 2) (pa_cons (pv 3) (pa_cons (pv 4) pa_nil)))))))
      (pss_one (ps_ret (pe_call G_law_forked hr_law_forked rfl T.m_law_forked T.F_law_forked.kp T.b_law_forked .nil pass0 (pa_cons (pv 0) (pa_cons (pe_ix (show IxR _ (rIxL K) from ix_list) (pv 1) pe_int (fun _ _ => rfl)) (pa_cons (pv 2) (pa_cons (pv 3) (pa_cons (pv 4) pa_nil)))))))))))), ?_⟩
    cases t with
    | leaf x =>
      refine ⟨_, rfl, .str x, .ty "str", .type "str", .type "str", _, rfl, .ty _, .base (.str x), kit_ty (r := true) (by decide +kernel), ?_⟩
      refine ⟨_, rfl, iteT ⟨_, rfl, ?_⟩⟩
      exact k rl rs rows H (Go.refl hS) nrc hrl aR okR (Nat.le_refl _)
    | fork h tl tr =>
      rename_i a0 l r ll lr
      obtain ⟨na0s, na0c, ha0⟩ := cut_at' h
      rw [List.length_append] at lR
      have nd2 := List.nodup_append.mp nd
      refine ⟨_, rfl, .ref a0, .ty "str", .type "list", .type "str", _, rfl, .ty _, .base (.lst ha0), kit_ty (r := false) (by decide +kernel), ?_⟩
      refine ⟨_, rfl, iteF ?_⟩
      refine ⟨_, rfl, _, rfl, s, c, sh, rfl, hS, by rcases hsh with rfl | rfl <;> decide, by rcases hsh with rfl | rfl <;> decide, fun j M j0 j1 g1 => ⟨_, _, rfl, rfl, _, rfl, iteD (fun _ => ?gA) (fun _ => ⟨_, rfl, rfl, _, rfl, iteD (fun _ => ?gB) (fun _ => ?gC)⟩)⟩⟩
      case gC =>
        have erl := g1.lst hS hrl nrc
        have aR1 : AllAt (RowAt M) rs rows := aR.imp fun p x z => KT.go hS g1 _ _ z
        have haM := g1.lst hS ha0 na0c
        refine ⟨_, rfl, _, rfl, a0, _, _, _, rfl, rfl, SqL.of haM, atI_nat (j := 0) rfl, _, rfl, _, rfl, _, rfl, s, c, g, rl, l, sh, ll, gs, rs, rows, rfl, g1.src, tl.same (cut_go g1), nd2.1, fun x hx => sub x (List.mem_append_left _ hx), g1.lst hS hg ngc, ngc, ndg, lg, hsh, erl, nrc, aR1, okR, by have := (Nat.le_succ rows.length); have := tr.pos; omega, fun rl3 rs3 rows3 M3 g3 n3 e3 a3 ok3 l3 => ?_⟩
        have gM3 := g1.trans g3
        have haM3 := gM3.lst hS ha0 na0c
        refine ⟨_, rfl, _, rfl, a0, _, _, _, rfl, rfl, SqL.of haM3, atI_nat (j := 1) rfl, _, rfl, _, rfl, _, rfl, s, c, g, rl3, r, sh, lr, gs, rs3, rows3, rfl, gM3.src, tr.same (cut_go gM3), nd2.2.1, fun x hx => sub x (List.mem_append_right _ hx), gM3.lst hS hg ngc, ngc, ndg, lg, hsh, e3, n3, a3, ok3, by have := (Nat.le_succ rows.length); omega, fun rl4 rs4 rows4 M4 g4 n4 e4 a4 ok4 l4 => ?_⟩
        exact k rl4 rs4 rows4 M4 (gM3.trans g4) n4 e4 a4 ok4 (by have := (Nat.le_succ rows.length); rw [List.length_append]; omega)
      all_goals
        have hgM := g1.lst hS hg ngc
        have hll : ll.length ≤ 50 := by omega
        have hlr : lr.length ≤ 50 := by omega
        have ndc0 : ∀ (d : Addr), M d = none → d ≠ s ∧ d ≠ c := fun d h => g1.src.ne_none h
        -- the dict of noughts
        refine ⟨_, rfl, g, rfl, ⟨_, SqL.of hgM⟩, fun D hD => ?_⟩
        refine lc_list (xs := gs.map V.str) (fun i M' => ∃ ps : List Addr, Same M M' ∧ M' D = some (.lst (ps.map V.ref)) ∧ AllAt (fun p x => M' p = some (.tup [.str x, .int 0])) ps (gs.take i)) ⟨[], same_new hD _, upd_same, AllAt.nil⟩ (fun i M' _ ⟨_, z, _⟩ => SqL.of (z _ _ hgM)) (fun i y M' hy z => ?_) (fun MB z => ?_)
        · obtain ⟨x, hx, rfl⟩ := getM hy
          obtain ⟨ps, sM, eM, aM⟩ := z
          have lp : ps.length = (gs.take i).length := aM.1
          refine ⟨rfl, _, rfl, (by show 2 ≤ sizeLine; decide), fun q hq => ⟨_, same_new hq _ _ _ eM, ?_, ps ++ [q], same_put hD (sM.trans (same_new hq _)), by rw [upd_same, List.map_append]; rfl, ?_⟩⟩
          · rw [List.length_map, lp, List.length_take]; exact small1000 (by omega)
          · rw [← take_snoc hx]
            have kD := KT.upd (o := .lst (ps.map V.ref ++ [.ref q])) (same_new hq (.tup [.str x, .int 0]) _ _ eM)
            exact (aM.imp fun p x h => kD _ _ (same_new hq _ _ _ h)).snoc (kD _ _ upd_same)
        obtain ⟨ps, sB, eB, aB⟩ := z
        rw [List.length_map, List.take_length] at aB
        have pr : AllAt (fun (p : Addr) (kv : Key × V) => SqT K MB p [kV kv.1, kv.2]) ps (Drow gs fun _ => 0) := ⟨by rw [Drow_len]; exact aB.1, fun i p kv h1 h2 => by
          obtain ⟨x, hx⟩ : ∃ x, gs[i]? = some x ∧ kv = (Sum.inr x, V.int 0) := by
            unfold Drow at h2
            rw [List.getElem?_map] at h2
            cases e : gs[i]? with
            | none => rw [e] at h2; cases h2
            | some u => rw [e] at h2; exact ⟨u, rfl, (Option.some.inj h2).symm⟩
          rw [hx.2]
          exact SqT.of (aB.2 i p x h1 hx.1)⟩
        refine ⟨D, ps, Drow gs fun _ => 0, rfl, SqL.of eB, paired_of pr, fun d hd => ?_⟩
        have mg0 : mergeK [] (Drow gs fun _ => 0) = Drow gs fun _ => 0 := merge_Drow (fun _ => 0) gs [] ndg
        rw [mg0]
        have sD := sB.trans (same_new hd (.dK (Drow gs fun _ => 0)))
        have hdM : M d = none := sB.free hd
        have ⟨nds, ndc⟩ := ndc0 d hdM
        have gD : Go s c H _ := g1.then sD
        have eD : (L2.upd MB d (.dK (Drow gs fun _ => 0))) d = some (.dK (Drow gs fun _ => 0)) := upd_same
        have hdH : H d = none := g1.free hdM
        generalize L2.upd MB d (.dK (Drow gs fun _ => 0)) = MD at gD eD ⊢
        -- the sign
        refine ⟨_, rfl, 1, rfl, (by show 2 ≤ sizeLine; decide), fun p hp => ?_⟩
        have sp := same_new hp (.lst [.int 1, .int (-1)])
        refine ⟨s, c, p, _, rfl, gD.src.same sp, upd_same, (gD.src.ne_none hp).2, by show 1 ≤ 2; decide, by show 2 < 1000000; decide, fun i x M2 hx g2 => ?_⟩
        obtain ⟨sg, rfl, hsg⟩ : ∃ sg : Int, x = .int sg ∧ (sg = 1 ∨ sg = -1) := by
          have := List.mem_of_getElem? hx
          simp only [List.mem_cons, List.not_mem_nil, or_false] at this
          rcases this with rfl | rfl
          · exact ⟨1, rfl, .inl rfl⟩
          · exact ⟨-1, rfl, .inr rfl⟩
        have gp := (Go.of gD.src sp).trans g2
        have eD2 := gp.keep _ _ nds ndc eD
        have g12 := gD.trans gp
        refine ⟨(by show 2 ≤ sizeLine; decide), fun tp htp => ⟨tp, _, rfl, SqT.of upd_same, rfl, _, _, rfl, _, _, rfl, rfl, ?_⟩⟩
        have st := same_new htp (.tup [.ref d, .int sg])
        have eD3 := st _ _ eD2
        have g13 := g12.then st
        generalize L2.upd M2 tp (.tup [.ref d, .int sg]) = M3 at g13 eD3 ⊢
        -- the two sides
        have ha3 := g13.lst hS ha0 na0c
        refine ⟨_, rfl, _, rfl, a0, _, _, _, rfl, rfl, SqL.of ha3, atI_nat (j := 0) rfl, (by show 2 ≤ sizeLine; decide), fun p1 h1 => ?_⟩
        have s1 := same_new h1 (.tup [.int sg, l])
        have ha4 := s1 _ _ ha3
        refine ⟨_, rfl, _, _, rfl, rfl, _, rfl, a0, _, _, _, rfl, rfl, SqL.of ha4, atI_nat (j := 1) rfl, (by show 2 ≤ sizeLine; decide), fun p2 h2 => ⟨(by show 2 ≤ sizeLine; decide), fun L0 hL0 => ?_⟩⟩
        have s2 := same_new h2 (.tup [.int (0 - sg), r])
        have sL := same_new hL0 (.lst [.ref p1, .ref p2])
        have nL0 := ((g13.src.same s1).same s2).ne_none hL0
        have e1 := sL _ _ (s2 _ _ (upd_same (H := M3) (a := p1) (o := .tup [.int sg, l])))
        have e2 := sL _ _ (upd_same (H := L2.upd M3 p1 (.tup [.int sg, l])) (a := p2) (o := .tup [.int (0 - sg), r]))
        have eL := upd_same (H := L2.upd (L2.upd M3 p1 (.tup [.int sg, l])) p2 (.tup [.int (0 - sg), r])) (a := L0) (o := .lst [.ref p1, .ref p2])
        have eD4 := sL _ _ (s2 _ _ (s1 _ _ eD3))
        have gL := g13.then (s1.trans (s2.trans sL))
        generalize L2.upd (L2.upd (L2.upd M3 p1 (.tup [.int sg, l])) p2 (.tup [.int (0 - sg), r])) L0 (.lst [.ref p1, .ref p2]) = ML at e1 e2 eL eD4 gL ⊢
        refine ⟨L0, rfl, ⟨_, SqL.of eL⟩, for_list (K := K) (a := L0) (xs := [.ref p1, .ref p2]) (fun i σ M' => ∃ (v7 v8 v9 : Option V) (f : Str → Int), σ = [some (.ref s), some (.ref a0), some (.ref g), some (.int sh), some (.ref rl), some (.ref d), some (.int sg), v7, v8, v9] ∧ Src M' s c ∧
            (∀ b u, b ≠ s → b ≠ c → H b = some u → M' b = some u) ∧ M' L0 = some (.lst [.ref p1, .ref p2]) ∧ KT ML M' ∧ M' d = some (.dK (Drow gs f)) ∧ (∀ z, -4 ≤ f z ∧ f z ≤ 4) ∧ (1 ≤ i → ∃ x ∈ ll, 0 < f x * sg) ∧ (2 ≤ i → ∃ y ∈ lr, 0 < f y * (-sg)))
          ⟨none, none, none, fun _ => 0, rfl, gL.src, gL.keep, eL, KT.refl, eD4, (fun z => ⟨by show (-4 : Int) ≤ 0; decide, by show (0 : Int) ≤ 4; decide⟩), fun h => by omega, fun h => by omega⟩ (fun i σ M' _ ⟨_, _, _, _, _, _, _, z, _⟩ => SqL.of z) (fun i y σ M' hy z => ?_) (fun σ M' z => ?_)⟩
        · obtain ⟨v7, v8, v9, f, rfl, S, old, eLM, kM, eDM, bd, in1, in2⟩ := z
          obtain ⟨side, part, lp, p, rfl, ep, tp', subp, lp1, lpn, hside, hi⟩ : ∃ (side : Int) (part : V) (lp : List Str) (p : Addr), y = .ref p ∧ M' p = some (.tup [.int side, part]) ∧ Tr (cutH s c H) n part lp ∧ (∀ x ∈ lp, x ∈ gs) ∧ 1 ≤ lp.length ∧ lp.length ≤ 50 ∧ (side = 1 ∨ side = -1) ∧ ((i = 0 ∧ side = sg ∧ lp = ll) ∨ (i = 1 ∧ side = -sg ∧ lp = lr)) := by
            match i, hy with
            | 0, hy => cases hy; exact ⟨sg, l, ll, p1, rfl, kM _ _ e1, tl, fun x hx => sub x (List.mem_append_left _ hx), tl.pos, hll, hsg, .inl ⟨rfl, rfl, rfl⟩⟩
            | 1, hy => cases hy; exact ⟨0 - sg, r, lr, p2, rfl, kM _ _ e2, tr, fun x hx => sub x (List.mem_append_right _ hx), tr.pos, hlr, hsg.elim (fun e => .inr (by rw [e]; rfl)) (fun e => .inl (by rw [e]; rfl)), .inr ⟨rfl, Int.zero_sub sg, rfl⟩⟩
          refine ⟨p, _, rfl, SqT.of ep, rfl, _, _, rfl, _, _, rfl, rfl, ?_⟩
          have cutM : Same (cutH s c H) M' := fun b u q => by
            have ⟨n1, n2, e⟩ := cut_at' q
            exact old b u n1 n2 e
          refine ⟨_, rfl, _, rfl, part, lp, rfl, tp'.same cutM, by omega, fun D1 N1 t1 hD1 f1 => ?_⟩
          have SN1 := S.same t1
          refine ⟨s, c, D1, _, rfl, SN1, f1, by rw [List.length_map]; omega, fun D2 ys N2 u2 hD2 f2 pm => ?_⟩
          obtain ⟨g3, rfl, pg⟩ := perm_strs pm
          have lg3 : g3.length = lp.length := pg.length_eq
          have nD2 := SN1.ne_none hD2
          refine ⟨_, rfl, (by show 4 ≤ sizeLine; decide), fun p3 hp3 => ?_⟩
          have t3 := same_new hp3 (.lst [.int 1, .int 1, .int 2, .int 3])
          refine ⟨s, c, p3, _, rfl, u2.src.same t3, upd_same, (u2.src.ne_none hp3).2, by show 1 ≤ 4; decide, by show 4 < 1000000; decide, fun i3 x3 N3 hx3 u3 => ?_⟩
          obtain ⟨q, rfl, hq⟩ : ∃ q : Nat, x3 = .int (q : Nat) ∧ 1 ≤ q := by
            have := List.mem_of_getElem? hx3
            simp only [List.mem_cons, List.not_mem_nil, or_false] at this
            rcases this with rfl | rfl | rfl | rfl
            · exact ⟨1, rfl, by decide⟩
            · exact ⟨1, rfl, by decide⟩
            · exact ⟨2, rfl, by decide⟩
            · exact ⟨3, rfl, by decide⟩
          have u23 := (Go.of u2.src t3).trans u3
          have f3 := u23.lst u2.src f2 nD2.2
          have lo : cutV (g3.map V.str) none (some (q : Int)) = (g3.take q).map V.str := by rw [cutV_lo', List.map_take]
          refine ⟨(q : Int), rfl, D2, _, rfl, SqL.of f3, fun pS hS' => ?_⟩
          rw [lo]
          have tS := same_new hS' (.lst ((g3.take q).map V.str))
          have nS := u23.src.ne_none hS'
          have gAll : Go s c M' _ := ((Go.of S t1).trans (u2.trans u23)).then tS
          have eS := upd_same (H := N3) (a := pS) (o := .lst ((g3.take q).map V.str))
          generalize L2.upd N3 pS (.lst ((g3.take q).map V.str)) = NS at tS eS gAll ⊢
          refine ⟨pS, rfl, ⟨_, SqL.of eS⟩, for_list (K := K) (a := pS) (xs := (g3.take q).map V.str) (fun j σ M' => ∃ (v9 : Option V) (f' : Str → Int), σ = [some (.ref s), some (.ref a0), some (.ref g), some (.int sh), some (.ref rl), some (.ref d), some (.int sg), some (.int side), some part, v9] ∧ Src M' s c ∧
            (∀ b u, b ≠ s → b ≠ c → H b = some u → M' b = some u) ∧ M' L0 = some (.lst [.ref p1, .ref p2]) ∧ M' pS = some (.lst ((g3.take q).map V.str)) ∧ KT ML M' ∧ M' d = some (.dK (Drow gs f')) ∧ (∀ z, -4 ≤ f' z ∧ f' z ≤ 4) ∧ (∀ x, x ∉ lp → f' x = f x) ∧ (1 ≤ j → ∃ x ∈ lp, 0 < f' x * side))
            ⟨v9, f, rfl, gAll.src, fun b u n1 n2 e => gAll.keep _ _ n1 n2 (old b u n1 n2 e), gAll.lst S eLM nL0.2, eS, kM.trans (KT.go S gAll), gAll.keep _ _ nds ndc eDM, bd, fun _ _ => rfl, fun h => by omega⟩ (fun j σ M' _ ⟨_, _, _, _, _, _, z, _⟩ => SqL.of z) (fun j y σ M' hy z => ?_) (fun σ M' z => ?_)⟩
          · obtain ⟨v9, f', rfl, S, old, eLM, eSM, kM, eDM, bd', same', pos'⟩ := z
            obtain ⟨x, hx, rfl⟩ := getM hy
            have xlp : x ∈ lp := pg.mem_iff.mp (List.mem_of_mem_take (List.mem_of_getElem? hx))
            refine ⟨_, rfl, _, rfl, (by show 7 ≤ sizeLine; decide), fun p4 hp4 => ?_⟩
            have t4 := same_new hp4 (.lst [.int 1, .int 1, .int 1, .int 2, .int 2, .int 3, .int 4])
            refine ⟨s, c, p4, _, rfl, S.same t4, upd_same, (S.ne_none hp4).2, by show 1 ≤ 7; decide, by show 7 < 1000000; decide, fun i4 x4 N4 hx4 u4 => ?_⟩
            obtain ⟨m, rfl, hm⟩ : ∃ m : Int, x4 = .int m ∧ 1 ≤ m ∧ m ≤ 4 := by
              have := List.mem_of_getElem? hx4
              simp only [List.mem_cons, List.not_mem_nil, or_false] at this
              rcases this with rfl | rfl | rfl | rfl | rfl | rfl | rfl <;> exact ⟨_, rfl, by decide, by decide⟩
            have u5 := (Go.of S t4).trans u4
            have eD5 := u5.keep _ _ nds ndc eDM
            refine ⟨_, _, rfl, rfl, .inr (by omega), _, rfl, _, rfl, d, _, rfl, DPut.k (k := Sum.inr x) eD5 (by rw [Drow_len]; exact small1000 (by omega)), ?_⟩
            rw [put_Drow (subp x xlp)]
            have notL : ∀ {b : Addr} {xs : List V}, N4 b = some (.lst xs) → b ≠ d := fun e z => by rw [z, eD5] at e; cases e
            have notT : ∀ {b : Addr} {xs : List V}, N4 b = some (.tup xs) → b ≠ d := fun e z => by rw [z, eD5] at e; cases e
            refine ⟨_, updF f' x (side * m), rfl, u5.src.upd6 ⟨fun z => nds z, fun z => ndc z⟩, fun b u n1 n2 e => ?_, ?_, ?_, fun b xs e => ?_, upd_same, fun z => ?_, fun z hz => ?_, fun _ => ⟨x, xlp, ?_⟩⟩
            · rw [upd_ne (ne_of_none e hdH)]; exact u5.keep _ _ n1 n2 (old b u n1 n2 e)
            · have e := u5.lst S eLM nL0.2
              rw [upd_ne (notL e)]; exact e
            · have e := u5.lst S eSM nS.2
              rw [upd_ne (notL e)]; exact e
            · have e' := KT.go S u5 _ _ (kM _ _ e)
              rw [upd_ne (notT e')]; exact e'
            · unfold updF
              by_cases ez : z = x
              · rw [if_pos ez]
                rcases hside with rfl | rfl <;> omega
              · rw [if_neg ez]
                exact bd' z
            · unfold updF
              rw [if_neg (fun (e : z = x) => hz (by rw [e]; exact xlp))]
              exact same' z hz
            · unfold updF
              rw [if_pos rfl]
              rcases hside with rfl | rfl <;> omega
          · obtain ⟨v9, f', rfl, S, old, eLM, eSM, kM, eDM, bd', same', pos'⟩ := z
            have l9 : 1 ≤ ((g3.take q).map V.str).length := by rw [List.length_map, List.length_take]; omega
            obtain ⟨x9, hx9, px9⟩ := pos' l9
            refine ⟨_, _, _, f', rfl, S, old, eLM, kM, eDM, bd', fun _ => ?_, fun h => ?_⟩
            · rcases hi with ⟨rfl, rfl, rfl⟩ | ⟨rfl, rfl, rfl⟩
              · exact ⟨x9, hx9, px9⟩
              · obtain ⟨z, hz, pz⟩ := in1 (Nat.le_refl _)
                exact ⟨z, hz, by rw [same' z (fun hr => nd2.2.2 z hz z hr rfl)]; exact pz⟩
            · rcases hi with ⟨rfl, rfl, rfl⟩ | ⟨rfl, rfl, rfl⟩
              · omega
              · exact ⟨x9, hx9, px9⟩
        obtain ⟨v7, v8, v9, f, rfl, S, old, eLM, kM, eDM, bd, in1, in2⟩ := z
        obtain ⟨x, hx, px⟩ := in1 (by show 1 ≤ 2; decide)
        obtain ⟨y, hy, py⟩ := in2 (by show 2 ≤ 2; decide)
        have gM' : Go s c H M' := ⟨fun b u n1 n2 e => old b u n1 n2 e, S⟩
        have hgM' := gM'.lst hS hg ngc
        have hrl' := gM'.lst hS hrl nrc
        -- the row
        refine ⟨_, rfl, _, rfl, g, rfl, ⟨_, SqL.of hgM'⟩, fun E1 hE1 => ?_⟩
        refine lc_list (xs := gs.map V.str) (Lc M' E1 (rowV (gs.map f))) (Lc.zero hE1) (fun i N _ z => SqL.of (z.1 _ _ hgM')) (fun i y N hy z => ?_) (fun N z => ?_)
        · obtain ⟨good, hgd, rfl⟩ := getM hy
          have mg := List.mem_of_getElem? hgd
          have dg : DGet N d (.str good) (some (.int (f good))) := by rw [← get_Drow mg]; exact DGet.k (k := Sum.inr good) (z.1 _ _ eDM)
          refine ⟨rfl, _, rfl, _, rfl, d, _, rfl, dg, ?_⟩
          exact Lc.lay hE1 z (mapM (mapM hgd)) (by rw [List.length_map, List.length_map]; omega)
        have ⟨sN, eN⟩ := z.all (by rw [List.length_map, List.length_map, List.length_map])
        refine ⟨E1, _, rfl, .inl ⟨SqL.of eN, fun tq htq => ⟨(by show 1 ≤ sizeLine; decide), fun L1 hL1 => ?_⟩⟩⟩
        have sq := same_new htq (.tup (rowV (gs.map f)))
        have sL1 := same_new hL1 (.lst [.ref tq])
        have sAll := sN.trans (sq.trans sL1)
        have eq1 := sL1 _ _ (upd_same (H := N) (a := tq) (o := .tup (rowV (gs.map f))))
        have eL1 := upd_same (H := L2.upd N tq (.tup (rowV (gs.map f)))) (a := L1) (o := .lst [.ref tq])
        generalize L2.upd (L2.upd N tq (.tup (rowV (gs.map f)))) L1 (.lst [.ref tq]) = NL at sAll eq1 eL1 ⊢
        refine ⟨rl, L1, _, _, rfl, rfl, sAll _ _ hrl', eL1, ?_, fun rl2 hrl2 => ?_⟩
        · rw [List.length_map, aR.1]; exact small (by show rows.length + 1 ≤ 1000; omega)
        have s9 := same_new hrl2 (.lst (rs.map V.ref ++ [.ref tq]))
        have gM2 := gM'.then (sAll.trans s9)
        have erl2 := upd_same (H := NL) (a := rl2) (o := .lst (rs.map V.ref ++ [.ref tq]))
        have nrc2 : rl2 ≠ c := ((gM'.src.same sAll).ne_none hrl2).2
        have eq2 := s9 _ _ eq1
        generalize L2.upd NL rl2 (.lst (rs.map V.ref ++ [.ref tq])) = M9 at gM2 erl2 eq2 ⊢
        have erl3 : M9 rl2 = some (.lst ((rs ++ [tq]).map V.ref)) := by rw [List.map_append]; exact erl2
        have aR2 : AllAt (RowAt M9) (rs ++ [tq]) (rows ++ [gs.map f]) := (aR.imp fun p x z => KT.go hS gM2 _ _ z).snoc eq2
        have okR2 : ∀ r ∈ rows ++ [gs.map f], RowG gs.length r := fun r0 hr0 => by
          rcases List.mem_append.mp hr0 with h' | h'
          · exact okR r0 h'
          · rw [List.mem_singleton.mp h']
            exact ⟨⟨List.length_map _, mixed_of hsg (sub x (List.mem_append_left _ hx)) (sub y (List.mem_append_right _ hy)) px py⟩, fun e he => by
            obtain ⟨z, _, rfl⟩ := List.mem_map.mp he
            exact bd z⟩
        have lR2 : (rows ++ [gs.map f]).length ≤ rows.length + 1 := by rw [List.length_append]; exact Nat.le_refl _
        have haM := gM2.lst hS ha0 na0c
        refine ⟨_, rfl, _, rfl, a0, _, _, _, rfl, rfl, SqL.of haM, atI_nat (j := 0) rfl, _, rfl, _, rfl, _, rfl, s, c, g, rl2, l, sh, ll, gs, (rs ++ [tq]), (rows ++ [gs.map f]), rfl, gM2.src, tl.same (cut_go gM2), nd2.1, fun x hx => sub x (List.mem_append_left _ hx), gM2.lst hS hg ngc, ngc, ndg, lg, hsh, erl3, nrc2, aR2, okR2, by have := lR2; have := tr.pos; omega, fun rl3 rs3 rows3 M3 g3 n3 e3 a3 ok3 l3 => ?_⟩
        have gM3 := gM2.trans g3
        have haM3 := gM3.lst hS ha0 na0c
        refine ⟨_, rfl, _, rfl, a0, _, _, _, rfl, rfl, SqL.of haM3, atI_nat (j := 1) rfl, _, rfl, _, rfl, _, rfl, s, c, g, rl3, r, sh, lr, gs, rs3, rows3, rfl, gM3.src, tr.same (cut_go gM3), nd2.2.1, fun x hx => sub x (List.mem_append_right _ hx), gM3.lst hS hg ngc, ngc, ndg, lg, hsh, e3, n3, a3, ok3, by have := lR2; omega, fun rl4 rs4 rows4 M4 g4 n4 e4 a4 ok4 l4 => ?_⟩
        exact k rl4 rs4 rows4 M4 (gM3.trans g4) n4 e4 a4 ok4 (by have := lR2; rw [List.length_append]; omega)
end
end My

namespace My
open PySem PySem.Spec PyProof.Rows L2
theorem Src.ne_ins {H : Hp} {s c a : Addr} {C dx : Addr} {fs : List (Str × V)} (h : Src H s c) (e : H a = some (.ins C dx fs)) : a ≠ s ∧ a ≠ c := by
  obtain ⟨l, m, t, ns, h⟩ := h
  exact ⟨ne_of e h.hs (by intro z; cases z), ne_of e h.hc (by intro z; cases z)⟩
theorem Src.ne_lst {H : Hp} {s c a : Addr} {xs : List V} (h : Src H s c) (e : H a = some (.lst xs)) : a ≠ s := by
  obtain ⟨l, m, t, ns, h⟩ := h
  exact ne_of e h.hs (by intro z; cases z)
/-! ### the world: a dict of goods, barters and the book -/
def wldD (g l x : Addr) : List (Key × V) := [(.inr "goods", .ref g), (.inr "barters", .ref l), (.inr "book", .ref x)]
theorem k_gb : ¬ ((Sum.inr "goods" : Key) = (Sum.inr "barters" : Key)) := by decide +kernel
theorem k_gk : ¬ ((Sum.inr "goods" : Key) = (Sum.inr "book" : Key)) := by decide +kernel
theorem k_bk : ¬ ((Sum.inr "barters" : Key) = (Sum.inr "book" : Key)) := by decide +kernel
theorem k_gt : ¬ ((Sum.inr "goods" : Key) = (Sum.inr "tree" : Key)) := by decide +kernel
theorem k_bt : ¬ ((Sum.inr "barters" : Key) = (Sum.inr "tree" : Key)) := by decide +kernel
theorem k_kt : ¬ ((Sum.inr "book" : Key) = (Sum.inr "tree" : Key)) := by decide +kernel
theorem w_goods (g l x : Addr) (ex : List (Key × V)) : valV (wldD g l x ++ ex) (Sum.inr "goods") = some (.ref g) := valV_pos rfl
theorem w_barters (g l x : Addr) (ex : List (Key × V)) : valV (wldD g l x ++ ex) (Sum.inr "barters") = some (.ref l) := by
  show valV (((Sum.inr "goods" : Key), V.ref g) :: ((Sum.inr "barters" : Key), V.ref l) :: ((Sum.inr "book" : Key), V.ref x) :: ex) _ = _
  rw [valV_neg k_gb]; exact valV_pos rfl
theorem w_book (g l x : Addr) (ex : List (Key × V)) : valV (wldD g l x ++ ex) (Sum.inr "book") = some (.ref x) := by
  show valV (((Sum.inr "goods" : Key), V.ref g) :: ((Sum.inr "barters" : Key), V.ref l) :: ((Sum.inr "book" : Key), V.ref x) :: ex) _ = _
  rw [valV_neg k_gk, valV_neg k_bk]; exact valV_pos rfl
theorem wld_made (g l x : Addr) : mergeK [] (wldD g l x) = wldD g l x := by
  have p1 : putK ([] : List (Key × V)) (Sum.inr "goods" : Key) (V.ref g) = [((Sum.inr "goods" : Key), V.ref g)] := by rw [putK_new _ valV_nil]; rfl
  have p2 : putK ([((Sum.inr "goods" : Key), V.ref g)] : List (Key × V)) (Sum.inr "barters" : Key) (V.ref l) = [((Sum.inr "goods" : Key), V.ref g), ((Sum.inr "barters" : Key), V.ref l)] := by
    rw [putK_new _ (by rw [valV_neg k_gb, valV_nil])]; rfl
  have p3 : putK ([((Sum.inr "goods" : Key), V.ref g), ((Sum.inr "barters" : Key), V.ref l)] : List (Key × V)) (Sum.inr "book" : Key) (V.ref x) = wldD g l x := by
    rw [putK_new _ (by rw [valV_neg k_gk, valV_neg k_bk, valV_nil])]; rfl
  show putK (putK (putK [] (Sum.inr "goods" : Key) (V.ref g)) (Sum.inr "barters" : Key) (V.ref l)) (Sum.inr "book" : Key) (V.ref x) = wldD g l x
  rw [p1, p2, p3]
theorem wld_tree (g l x : Addr) (v : V) : putK (wldD g l x) (Sum.inr "tree") v = wldD g l x ++ [((Sum.inr "tree" : Key), v)] := by
  refine putK_new _ ?_
  show valV [((Sum.inr "goods" : Key), V.ref g), ((Sum.inr "barters" : Key), V.ref l), ((Sum.inr "book" : Key), V.ref x)] _ = none
  rw [valV_neg k_gt, valV_neg k_bt, valV_neg k_kt, valV_nil]
structure WorldX (C : Addr) (M : Hp) (wd g l x : Addr) (ps : List Addr) (ex : List (Key × V)) (gs : List Str) (bs : List Br) : Prop where
  hw : M wd = some (.dK (wldD g l x ++ ex))
  hg : M g = some (.lst (gs.map V.str))
  hl : M l = some (.lst (ps.map V.ref))
  hb : BrsAt M ps bs
  bk : BookH C M x gs bs
  G : GoodBk gs bs
theorem WorldX.same {C : Addr} {M M' : Hp} {wd g l x : Addr} {ps : List Addr} {ex : List (Key × V)} {gs : List Str} {bs : List Br} (h : WorldX C M wd g l x ps ex gs bs) (e : Same M M') : WorldX C M' wd g l x ps ex gs bs :=
  ⟨e _ _ h.hw, e _ _ h.hg, e _ _ h.hl, h.hb.same e, h.bk.same e, h.G⟩
/-- a world apart from the source of draws -/
def WorldH (C s c : Addr) (H : Hp) (wd : Addr) (gs : List Str) (bs : List Br) : Prop := ∃ g l x ps ex, WorldX C (cutH s c H) wd g l x ps ex gs bs
theorem WorldH.go {C s c : Addr} {H H' : Hp} {wd : Addr} {gs : List Str} {bs : List Br} (h : WorldH C s c H wd gs bs) (g : Go s c H H') : WorldH C s c H' wd gs bs := by
  obtain ⟨g', l, x, ps, ex, h⟩ := h
  exact ⟨g', l, x, ps, ex, h.same (cut_go g)⟩
def spMade (C : Addr) : Sp := fun vs H Q _ => ∃ (g l : Addr) (ps : List Addr) (gs : List Str) (bs : List Br), vs = [.ref g, .ref l] ∧ H g = some (.lst (gs.map V.str)) ∧ H l = some (.lst (ps.map V.ref)) ∧ BrsAt H ps bs ∧ GoodBk gs bs ∧
  ∀ (wd x : Addr) (H' : Hp), Same H H' → H wd = none → WorldX C H' wd g l x ps [] gs bs → (∀ s c, Src H s c → g ≠ c → l ≠ c → WorldX C (cutH s c H') wd g l x ps [] gs bs) → Q (.ref wd) H'
def spAnyRow : Sp := fun vs H Q _ => ∃ (s c : Addr) (n : Nat), vs = [.ref s, .int (n : Nat)] ∧ Src H s c ∧ 2 ≤ n ∧ n ≤ 20 ∧
  ∀ (p : Addr) (r : List Int) (H' : Hp), Go s c H H' → H' p = some (.tup (rowV r)) → r.length = n → mixedB r = true → smallR r → Q (.ref p) H'
theorem rowV_app (r : List Int) (m : Int) : rowV (r ++ [m]) = rowV r ++ [.int m] := List.map_append
theorem rowV_set (r : List Int) (i : Nat) (m : Int) : rowV (r.set i m) = (rowV r).set i (.int m) := List.map_set
theorem ixN_nat {n i : Nat} (h : i < n) : ixN n (i : Int) = some i := by
  unfold ixN
  rw [if_pos (Int.natCast_nonneg i), if_pos (by omega)]
  rfl
theorem perm_rng {ys : List V} {n : Nat} (h : ys.Perm (rgV 0 (n : Int))) (n2 : 2 ≤ n) : ∃ i0 i1 : Nat, i0 < n ∧ i1 < n ∧ i0 ≠ i1 ∧ atI ys 0 = some (.int (i0 : Nat)) ∧ atI ys 1 = some (.int (i1 : Nat)) := by
  have e : rgV 0 (n : Int) = (List.range n).map (fun (i : Nat) => V.int (i : Nat)) := by
    unfold rgV
    rw [Int.sub_zero, Int.toNat_natCast]
    exact List.map_congr_left fun i _ => by rw [Int.zero_add]
  rw [e] at h
  have nd : ys.Nodup := by
    rw [h.nodup_iff]
    exact List.Pairwise.map _ (fun a b hab z => hab (by have := V.int.inj z; omega)) List.nodup_range
  have ly : ys.length = n := by rw [h.length_eq, List.length_map, List.length_range]
  have at' : ∀ j, j < n → ∃ i : Nat, i < n ∧ ys[j]? = some (.int (i : Nat)) := fun j hj => by
    have hj' : j < ys.length := by omega
    obtain ⟨i, hi, ei⟩ := List.mem_map.mp (h.mem_iff.mp (List.getElem_mem hj'))
    exact ⟨i, List.mem_range.mp hi, by rw [List.getElem?_eq_getElem hj', ei]⟩
  obtain ⟨i0, h0, e0⟩ := at' 0 (by omega)
  obtain ⟨i1, h1, e1⟩ := at' 1 (by omega)
  refine ⟨i0, i1, h0, h1, fun z => ?_, atI_nat (j := 0) e0, atI_nat (j := 1) e1⟩
  subst z
  obtain ⟨l0, q0⟩ := List.getElem?_eq_some_iff.mp e0
  obtain ⟨l1, q1⟩ := List.getElem?_eq_some_iff.mp e1
  have := (List.getElem_inj nd).mp (q0.trans q1.symm)
  omega
theorem mixed_set {r : List Int} {i0 i1 : Nat} {u v : Int} (h0 : i0 < r.length) (h1 : i1 < r.length) (n : i0 ≠ i1) (hu : 0 < u) (hv : v < 0) : mixedB ((r.set i0 u).set i1 v) = true := by
  unfold mixedB
  rw [Bool.and_eq_true, List.any_eq_true, List.any_eq_true]
  refine ⟨⟨v, ?_, decide_eq_true hv⟩, ⟨u, ?_, decide_eq_true hu⟩⟩
  · exact List.mem_of_getElem? (i := i1) (by rw [List.getElem?_set_self (by rw [List.length_set]; exact h1)])
  · exact List.mem_of_getElem? (i := i0) (by rw [List.getElem?_set_ne n.symm, List.getElem?_set_self h0])
section
variable {P : Program} {w : World} {K : PySem.W.Frag} {mg : Str → Option Value} {base : Heap}
theorem ok_made (T : Tx K mg) : FnOk P w K mg base CX0 7 T.a_law_made T.fd_law_made ["_law_goods", "_law_barters"] (spMade T.C_Book) := by
  refine T.F_law_made.ok sc_law_made (fun vs H Q E h => ?_) (fun cdv A outer st H vs Q E hr h => ?_)
  · obtain ⟨g, l, ps, gs, bs, rfl, _⟩ := h
    rfl
  obtain ⟨g, l, ps, gs, bs, rfl, hg, hl, hb, G, k⟩ := h
  have G_Book_init : FnOk P w K mg base CX0 5 T.a_Book_init T.fd_Book_init ["self", "goods", "barters"] (spInit34 T.C_Book) := ok_Book_init T
  have hr_Book_init : Room 6 _ := hr
  refine ⟨_, ((pss_one (ps_ret (pe_disp (pps_cons pe_str (pv 0) (pps_cons pe_str (pv 1) (pps_cons pe_str (pe_make T.M_Book G_Book_init hr_Book_init rfl T.m_Book T.b_Book_init .nil pass0 (pa_cons (pv 0) (pa_cons (pv 1) pa_nil))) pps_nil))) (by rfl) (by rfl) (fun z => by cases z) (by decide))))), ?_⟩
  intro wd hwd
  have s1 := same_new hwd (.dK [])
  refine ⟨_, rfl, _, rfl, _, rfl, _, rfl, fun x dx hx hdx ndx => ?_⟩
  have e1 : (L2.upd H wd (.dK [])) wd = some (.dK []) := upd_same
  generalize L2.upd H wd (.dK []) = H1 at s1 e1 hx hdx ⊢
  have s2 := (same_new hdx (.own x)).trans (same_new (H := L2.upd H1 dx (.own x)) (p := x) (by rw [upd_ne ndx.symm]; exact hx) (.ins T.C_Book dx []))
  have ex : (L2.upd (L2.upd H1 dx (.own x)) x (.ins T.C_Book dx [])) x = some (.ins T.C_Book dx []) := upd_same
  generalize L2.upd (L2.upd H1 dx (.own x)) x (.ins T.C_Book dx []) = H2 at s2 ex ⊢
  have s12 := s1.trans s2
  refine ⟨x, g, l, dx, ps, gs, bs, rfl, ex, s12 _ _ hg, s12 _ _ hl, hb.same s12, G, fun H3 keep bk => ⟨rfl, ?_⟩⟩
  have nwx : wd ≠ x := fun z => by rw [z, hx] at e1; cases e1
  have e3 : H3 wd = some (.dK []) := keep _ _ nwx (s2 _ _ e1)
  refine ⟨e3, wldD g l x, rfl, (by show 3 ≤ 15; decide), ?_⟩
  rw [wld_made]
  have sx : H x = none := s1.free hx
  have s3 : Same H (L2.upd H3 wd (.dK (wldD g l x))) := fun b u e => by
    rw [upd_ne (ne_of_none e hwd)]
    exact keep _ _ (ne_of_none e sx) (s12 _ _ e)
  obtain ⟨dx', tg, tb, dg, db, qs, n1, n2, b1, b2, b3, b4, b5, b6⟩ := bk
  have nd1 : dg ≠ wd := fun z => by rw [z, s2 _ _ e1] at n1; cases n1
  have nd2 : db ≠ wd := fun z => by rw [z, s2 _ _ e1] at n2; cases n2
  have kt : KT H3 (L2.upd H3 wd (.dK (wldD g l x))) := fun b xs e => by
    rw [upd_ne (fun z => by rw [z, e3] at e; cases e)]; exact e
  have bk4 : BookH T.C_Book (L2.upd H3 wd (.dK (wldD g l x))) x gs bs := ⟨dx', tg, tb, dg, db, qs, by rw [upd_ne nwx.symm]; exact b1, kt _ _ b2, kt _ _ b3, b4.kt kt, by rw [upd_ne nd1]; exact b5, by rw [upd_ne nd2]; exact b6⟩
  have W : WorldX T.C_Book (L2.upd H3 wd (.dK (wldD g l x))) wd g l x ps [] gs bs := ⟨by rw [List.append_nil]; exact upd_same, s3 _ _ hg, s3 _ _ hl, hb.same s3, bk4, G⟩
  refine k wd x _ s3 hwd W fun s c S ngc nlc => ?_
  have S3 := S.same s3
  have hT : ∀ {b : Addr} {xs : List V}, (L2.upd H3 wd (.dK (wldD g l x))) b = some (.tup xs) → cutH s c (L2.upd H3 wd (.dK (wldD g l x))) b = some (.tup xs) := fun e => cut_in (S3.ne_tup e) e
  have hBr : ∀ {ps : List Addr}, BrsAt (L2.upd H3 wd (.dK (wldD g l x))) ps bs → BrsAt (cutH s c (L2.upd H3 wd (.dK (wldD g l x)))) ps bs := fun h => h.kt fun b xs e => hT e
  refine ⟨cut_in (S.ne_none hwd) W.hw, cut_in ⟨S3.ne_lst W.hg, ngc⟩ W.hg, cut_in ⟨S3.ne_lst W.hl, nlc⟩ W.hl, hBr W.hb, ?_, G⟩
  exact ⟨dx', tg, tb, dg, db, qs, cut_in (S3.ne_ins (by rw [upd_ne nwx.symm]; exact b1)) (by rw [upd_ne nwx.symm]; exact b1), hT (kt _ _ b2), hT (kt _ _ b3), hBr (b4.kt kt), cut_in (S.ne_none (s12.free n1)) (by rw [upd_ne nd1]; exact b5), cut_in (S.ne_none (s12.free n2)) (by rw [upd_ne nd2]; exact b6)⟩
theorem ok_any_row (T : Tx K mg) : FnOk P w K mg base CX0 3 T.a_law_any_row T.fd_law_any_row ["_law_source_here", "_law_size"] spAnyRow := by
  refine T.F_law_any_row.ok sc_law_any_row (fun vs H Q E h => ?_) (fun cdv A outer st H vs Q E hr h => ?_)
  · obtain ⟨s, c, n, rfl, _⟩ := h
    rfl
  obtain ⟨s, c, n, rfl, hS, n2, n20, k⟩ := h
  have G_law_pick : FnOk P w K mg base CX0 1 T.a_law_pick T.fd_law_pick ["_law_source_here", "_law_many"] spPick := ok_pick T
  have hr_law_pick : Room 1 _ := hr.mono (by omega)
  have G_law_of : FnOk P w K mg base CX0 2 T.a_law_of T.fd_law_of ["_law_source_here", "_law_some"] (spOf K) := ok_of T
  have hr_law_of : Room 2 _ := hr
  have G_law_mixed : FnOk P w K mg base CX0 2 T.a_law_mixed T.fd_law_mixed ["_law_source_here", "_law_things"] spMixed := ok_mixed T
  have hr_law_mixed : Room 2 _ := hr
  refine ⟨_, ((pss_cons (ps_setLc (i := 2) (own := [("_law_k", 4)]) (by rfl) sc_law_any_row.nd rfl rfl (sw_true rfl rfl rfl (by decide +kernel)) (pi_range1 rfl T.n_range (pa_cons (pv 1) pa_nil)) (blkOk_by (own := [("_law_k", 4)]) (N := ["_law_source_here", "_law_size", "_law_row_here", "_law_here", "_law_k"]) (sc := defScope s_law_any_row) (by decide +kernel)) (fun _ _ _ _ _ => pg_name (i := 4) sc_law_any_row.nd rfl (Or.inl rfl)) (fun _ _ _ _ _ => pts_nil) (fun _ _ _ _ _ => (pe_call G_law_of hr_law_of rfl T.m_law_of T.F_law_of.kp T.b_law_of .nil pass0 (pa_cons (pv 0) (pa_cons (pe_lst (pa_cons pe_int (pa_cons pe_int (pa_cons pe_int (pa_cons pe_int (pa_cons (pe_un un_neg pe_int) (pa_cons pe_int (pa_cons (pe_un un_neg pe_int) (pa_cons pe_int (pa_cons (pe_un un_neg pe_int) (pa_cons pe_int pa_nil))))))))))) pa_nil)))))
      (pss_cons (ps_set (i := 3) sc_law_any_row.nd rfl (Or.inl rfl) (pe_call G_law_mixed hr_law_mixed rfl T.m_law_mixed T.F_law_mixed.kp T.b_law_mixed .nil pass0 (pa_cons (pv 0) (pa_cons (pe_listRg rfl (by rfl) T.n_list (prg_1 (by rfl) T.n_range (pv 1))) pa_nil))))
      (pss_cons (ps_asg (pe_tup (pa_cons (pe_op op_add pe_int (pe_call G_law_pick hr_law_pick rfl T.m_law_pick T.F_law_pick.kp T.b_law_pick .nil pass0 (pa_cons (pv 0) (pa_cons pe_int pa_nil)))) (pa_cons (pe_op op_sub (pe_op op_sub pe_int pe_int) (pe_call G_law_pick hr_law_pick rfl T.m_law_pick T.F_law_pick.kp T.b_law_pick .nil pass0 (pa_cons (pv 0) (pa_cons pe_int pa_nil)))) pa_nil))) (pg_tup rfl (pgs_cons (pg_sub (pv 2) (pe_ix (show IxR _ (rIxL K) from ix_list) (pv 3) pe_int (fun _ _ => rfl)) set_list) (pgs_cons (pg_sub (pv 2) (pe_ix (show IxR _ (rIxL K) from ix_list) (pv 3) pe_int (fun _ _ => rfl)) set_list) pgs_nil))))
      (pss_one (ps_ret (pe_callTy call_tuple_of (by rfl) T.n_tuple (by decide +kernel) (pa_cons (pv 2) pa_nil)))))))), ?_⟩
  refine ⟨_, rfl, _, rfl, by omega, by omega, fun D hD => ?_⟩
  have nD := hS.ne_none hD
  refine lc_range (lo := 0) (n := n) (fun i M => ∃ r : List Int, (∀ b u, b ≠ s → b ≠ c → H b = some u → M b = some u) ∧ Src M s c ∧ M D = some (.lst (rowV r)) ∧ r.length = i ∧ smallR r) ⟨[], fun b u _ _ e => same_new hD _ _ _ e, hS.same (same_new hD _), upd_same, rfl, (fun _ h => nomatch h)⟩ (fun i M hi z => ?_) (fun M z => ?_)
  · obtain ⟨r, old, S, eD, lr, sr⟩ := z
    refine ⟨rfl, _, rfl, 1, rfl, 1, rfl, 2, rfl, (by show 10 ≤ sizeLine; decide), fun p hp => ?_⟩
    have sp := same_new hp (.lst [.int 0, .int 0, .int 0, .int 1, .int (-1), .int 1, .int (-1), .int 2, .int (-2), .int 3])
    refine ⟨s, c, p, _, rfl, S.same sp, upd_same, (S.ne_none hp).2, by show 1 ≤ 10; decide, by show 10 < 1000000; decide, fun i4 x4 N4 hx4 u4 => ?_⟩
    obtain ⟨m, rfl, hm⟩ : ∃ m : Int, x4 = .int m ∧ -4 ≤ m ∧ m ≤ 4 := by
      have := List.mem_of_getElem? hx4
      simp only [List.mem_cons, List.not_mem_nil, or_false] at this
      rcases this with rfl | rfl | rfl | rfl | rfl | rfl | rfl | rfl | rfl | rfl <;> exact ⟨_, rfl, by decide, by decide⟩
    have u5 := (Go.of S sp).trans u4
    have eD5 := u5.lst S eD nD.2
    refine ⟨_, eD5, by rw [List.length_map, lr]; exact small1000 (by omega), r ++ [m], fun b u n1 n2 e => ?_, u5.src.upd6 nD, by rw [upd_same, rowV_app], by rw [List.length_append, lr]; rfl, fun e he => (List.mem_append.mp he).elim (sr e) (fun h => by rw [List.mem_singleton.mp h]; exact hm)⟩
    rw [upd_ne (ne_of_none e hD)]
    exact u5.keep _ _ n1 n2 (old b u n1 n2 e)
  · obtain ⟨r, old, S, eD, lr, sr⟩ := z
    have g1 : Go s c H M := ⟨fun b u n1 n2 e => old b u n1 n2 e, S⟩
    refine ⟨_, rfl, _, rfl, _, rfl, ⟨by omega, by omega, by omega, by omega, by omega⟩, fun q hq => ?_⟩
    have sq := same_new hq (.lst (rgV 0 (n : Int)))
    refine ⟨s, c, q, _, rfl, S.same sq, upd_same, ?_, fun D2 ys M2 g2 hD2 e2 pm => ?_⟩
    · unfold rgV; rw [List.length_map, List.length_range]; omega
    obtain ⟨i0, i1, h0, h1, nn, a0, a1⟩ := perm_rng pm n2
    have nD2 := (S.same sq).ne_none hD2
    have gA := (Go.of S sq).trans g2
    refine ⟨_, rfl, s, c, 3, rfl, g2.src, by decide, by decide, fun j M3 j0 j1 g3 => ⟨_, _, rfl, rfl, _, _, rfl, rfl, _, rfl, s, c, 3, rfl, g3.src, by decide, by decide, fun j' M4 j0' j1' g4 => ⟨_, _, rfl, rfl, (by show 2 ≤ sizeLine; decide), fun tp htp => ?_⟩⟩⟩
    have g34 := g3.trans g4
    have gB := (gA.trans g34).then (same_new htp (.tup [.int (1 + j), .int (0 - 1 - j')]))
    have eD5 := gB.lst S eD nD.2
    have e25 := (g34.then (same_new htp (.tup [.int (1 + j), .int (0 - 1 - j')]))).lst g2.src e2 nD2.2
    refine ⟨tp, _, rfl, SqT.of upd_same, rfl, _, _, rfl, ?_⟩
    generalize L2.upd M4 tp (.tup [.int (1 + j), .int (0 - 1 - j')]) = M5 at gB eD5 e25 ⊢
    have nDD : D2 ≠ D := fun z => by
      have q := sq _ _ eD
      rw [← z, hD2] at q
      cases q
    refine ⟨_, rfl, _, rfl, D2, _, _, _, rfl, rfl, SqL.of e25, a0, D, _, _, i0, rfl, rfl, eD5, by rw [List.length_map, lr]; exact ixN_nat h0, ?_⟩
    refine ⟨_, _, rfl, _, rfl, _, rfl, D2, _, _, _, rfl, rfl, SqL.of (by rw [upd_ne nDD]; exact e25), a1, D, _, _, i1, rfl, rfl, upd_same, by rw [List.length_set, List.length_map, lr]; exact ixN_nat h1, rfl, ?_⟩
    have er : ((rowV r).set i0 (.int (1 + j))).set i1 (.int (0 - 1 - j')) = rowV ((r.set i0 (1 + j)).set i1 (0 - 1 - j')) := by rw [rowV_set, rowV_set]
    rw [er]
    refine ⟨_, rfl, D, _, rfl, .inl ⟨SqL.of upd_same, fun p hp => ?_⟩⟩
    refine k p _ _ ⟨fun b u n1 n2 e => ?_, ?_⟩ upd_same (by rw [List.length_set, List.length_set, lr]) (mixed_set (by omega) (by omega) nn (by omega) (by omega)) (fun e he => by
      rcases List.mem_or_eq_of_mem_set he with h | h
      · rcases List.mem_or_eq_of_mem_set h with h | h
        · exact sr e h
        · omega
      · omega)
    · have nbD := ne_of_none e hD
      have e5 := (g1.trans gB).keep _ _ n1 n2 e
      refine same_new hp _ _ _ ?_
      rw [upd_ne nbD, upd_ne nbD]
      exact e5
    · exact ((gB.src.upd6 nD).upd6 nD).same (same_new hp _)
end
end My

namespace My
open PySem PySem.Spec PyProof.Rows L2
theorem AllAt.cons {α : Type} {R : Addr → α → Prop} {ps : List Addr} {xs : List α} {p : Addr} {x : α} (hb : R p x) (h : AllAt R ps xs) : AllAt R (p :: ps) (x :: xs) := by
  refine ⟨congrArg (· + 1) h.1, fun i q c e1 e2 => ?_⟩
  cases i with
  | zero => cases e1; cases e2; exact hb
  | succ i => exact h.2 i q c e1 e2
theorem AllAt.uncons {α : Type} {R : Addr → α → Prop} {p : Addr} {ps : List Addr} {zs : List α} (h : AllAt R (p :: ps) zs) : ∃ x xs, zs = x :: xs ∧ R p x ∧ AllAt R ps xs := by
  cases zs with
  | nil => exact nomatch h.1
  | cons x xs => exact ⟨x, xs, rfl, h.2 0 p x rfl rfl, Nat.succ.inj h.1, fun i p x h1 h2 => h.2 (i + 1) p x h1 h2⟩
theorem perm_all {α : Type} {R : Addr → α → Prop} {ys xs : List V} (h : ys.Perm xs) : ∀ {ps : List Addr} {zs : List α}, xs = ps.map V.ref → AllAt R ps zs → ∃ ps2 zs2, ys = ps2.map V.ref ∧ AllAt R ps2 zs2 ∧ zs2.Perm zs := by
  have cns : ∀ {v : V} {r : List V} {ps : List Addr}, v :: r = ps.map V.ref → ∃ p q, ps = p :: q ∧ v = .ref p ∧ r = q.map V.ref := fun {v r ps} e => by
    cases ps with
    | nil => cases e
    | cons p q => exact ⟨p, q, rfl, (List.cons.inj e).1, (List.cons.inj e).2⟩
  induction h with
  | nil =>
    intro ps zs e a
    cases ps with
    | nil => exact ⟨[], zs, rfl, a, List.Perm.refl _⟩
    | cons _ _ => cases e
  | cons v h ih =>
    intro ps zs e a
    obtain ⟨p, q, rfl, rfl, e2⟩ := cns e
    obtain ⟨x, xs, rfl, hx, a2⟩ := a.uncons
    obtain ⟨ps2, zs2, e3, a3, p3⟩ := ih e2 a2
    exact ⟨p :: ps2, x :: zs2, by rw [e3]; rfl, AllAt.cons hx a3, p3.cons x⟩
  | swap u v r =>
    intro ps zs e a
    obtain ⟨p, q, rfl, rfl, e2⟩ := cns e
    obtain ⟨p2, q2, rfl, rfl, e3⟩ := cns e2
    obtain ⟨x, xs, rfl, hx, a2⟩ := a.uncons
    obtain ⟨x2, xs2, rfl, hx2, a3⟩ := a2.uncons
    exact ⟨p2 :: p :: q2, x2 :: x :: xs2, by rw [e3]; rfl, AllAt.cons hx2 (AllAt.cons hx a3), List.Perm.swap _ _ _⟩
  | trans _ _ ih1 ih2 =>
    intro ps zs e a
    obtain ⟨ps2, zs2, e2, a2, p2⟩ := ih2 e a
    obtain ⟨ps3, zs3, e3, a3, p3⟩ := ih1 e2 a2
    exact ⟨ps3, zs3, e3, a3, p3.trans p2⟩
theorem kvN_wld {xs : List Str} {g l x : Addr} {ex : List (Key × V)} : kvN xs ≠ wldD g l x ++ ex := by
  intro e
  cases xs with
  | nil => cases e
  | cons y r =>
    have h : (kvN (y :: r)).head? = some ((Sum.inr y : Key), V.int 0) := by unfold kvN; rw [List.mapIdx_cons]; rfl
    rw [e] at h
    have h : ((Sum.inr "goods" : Key), V.ref g) = ((Sum.inr y : Key), V.int 0) := Option.some.inj h
    cases (Prod.mk.inj h).2
theorem cut_upd {s c wd : Addr} {M : Hp} {o : HO} (n : wd ≠ s ∧ wd ≠ c) : cutH s c (L2.upd M wd o) = L2.upd (cutH s c M) wd o := by
  funext b
  by_cases e : b = wd
  · subst e
    rw [upd_same]
    exact cut_in n upd_same
  · rw [upd_ne e]
    unfold cutH
    rw [upd_ne e]
theorem WorldX.tree {C : Addr} {M : Hp} {wd g l x : Addr} {ps : List Addr} {ex ex' : List (Key × V)} {gs : List Str} {bs : List Br} (h : WorldX C M wd g l x ps ex gs bs) : WorldX C (L2.upd M wd (.dK (wldD g l x ++ ex'))) wd g l x ps ex' gs bs := by
  have nd : ∀ {b : Addr} {o : HO}, M b = some o → (∀ kvs, o ≠ .dK kvs) → (L2.upd M wd (.dK (wldD g l x ++ ex'))) b = some o := fun {b o} e q => by
    rw [upd_ne (fun z => by rw [z, h.hw] at e; exact q _ (Option.some.inj e).symm)]; exact e
  have kt : KT M (L2.upd M wd (.dK (wldD g l x ++ ex'))) := fun b xs e => nd e (fun _ z => by cases z)
  obtain ⟨dx', tg, tb, dg, db, qs, b1, b2, b3, b4, b5, b6⟩ := h.bk
  have nk : ∀ {b : Addr} {xs : List Str}, M b = some (.dK (kvN xs)) → (L2.upd M wd (.dK (wldD g l x ++ ex'))) b = some (.dK (kvN xs)) := fun {b xs} e => by
    rw [upd_ne (fun z => by rw [z, h.hw] at e; exact kvN_wld (HO.dK.inj (Option.some.inj e)).symm)]; exact e
  exact ⟨upd_same, nd h.hg (fun _ z => by cases z), nd h.hl (fun _ z => by cases z), h.hb.kt kt, ⟨dx', tg, tb, dg, db, qs, nd b1 (fun _ z => by cases z), kt _ _ b2, kt _ _ b3, b4.kt kt, nk b5, nk b6⟩, h.G⟩
def spBookD (C : Addr) (lo : Nat) : Sp := fun vs H Q _ => ∃ (s c : Addr) (m : Nat), vs = [.ref s, .int (m : Nat)] ∧ Src H s c ∧ lo ≤ m ∧ m ≤ 10 ∧
  ∀ (wd : Addr) (gs : List Str) (bs : List Br) (H' : Hp), Go s c H H' → WorldH C s c H' wd gs bs → gs.length ≤ 10 → bs.length ≤ 10 → (∀ b ∈ bs, idxS b.1 < 100 ∧ smallR b.2) → Q (.ref wd) H'
/-- the numbers of a drawn stock -/
abbrev StkB (z : Int) : Prop := 0 ≤ z ∧ z < 10 ^ 39
def spStock (C : Addr) : Sp := fun vs H Q _ => ∃ (s c wd : Addr) (m : Nat) (gs : List Str) (bs : List Br), vs = [.ref s, .ref wd, .int (m : Nat)] ∧ Src H s c ∧ WorldH C s c H wd gs bs ∧ m ≤ 100 ∧ gs.length ≤ 100 ∧
  ∀ (p : Addr) (st : List Int) (H' : Hp), Go s c H H' → H' p = some (.tup (rowV st)) → st.length = gs.length → (∀ z ∈ st, 0 ≤ z ∧ z < 1000) → Q (.ref p) H'
def spDrawnStock (C : Addr) : Sp := fun vs H Q _ => ∃ (s c wd : Addr) (gs : List Str) (bs : List Br), vs = [.ref s, .ref wd] ∧ Src H s c ∧ WorldH C s c H wd gs bs ∧ gs.length ≤ 100 ∧
  ∀ (p : Addr) (st : List Int) (H' : Hp), Go s c H H' → H' p = some (.tup (rowV st)) → st.length = gs.length → (∀ z ∈ st, StkB z) → Q (.ref p) H'
section
variable {P : Program} {w : World} {K : PySem.W.Frag} {mg : Str → Option Value} {base : Heap}
theorem ok_any_book (T : Tx K mg) : FnOk P w K mg base CX0 8 T.a_law_any_book T.fd_law_any_book ["_law_source_here", "_law_most"] (spBookD T.C_Book 2) := by
  refine T.F_law_any_book.ok sc_law_any_book (fun vs H Q E h => ?_) (fun cdv A outer st H vs Q E hr h => ?_)
  · obtain ⟨s, c, m, rfl, _⟩ := h
    rfl
  obtain ⟨s, c, m, rfl, hS, m2, m10, k⟩ := h
  have G_law_pick : FnOk P w K mg base CX0 1 T.a_law_pick T.fd_law_pick ["_law_source_here", "_law_many"] spPick := ok_pick T
  have hr_law_pick : Room 1 _ := hr.mono (by omega)
  have G_law_names : FnOk P w K mg base CX0 2 T.a_law_names T.fd_law_names ["_law_source_here", "_law_many"] spNames2 := ok_names T
  have hr_law_names : Room 2 _ := hr.mono (by omega)
  have G_law_any_row : FnOk P w K mg base CX0 3 T.a_law_any_row T.fd_law_any_row ["_law_source_here", "_law_size"] spAnyRow := ok_any_row T
  have hr_law_any_row : Room 3 _ := hr.mono (by omega)
  have G_law_made : FnOk P w K mg base CX0 7 T.a_law_made T.fd_law_made ["_law_goods", "_law_barters"] (spMade T.C_Book) := ok_made T
  have hr_law_made : Room 7 _ := hr
  refine ⟨_, ((pss_cons (ps_set (i := 2) sc_law_any_book.nd rfl (Or.inr rfl) (pe_call G_law_names hr_law_names rfl T.m_law_names T.F_law_names.kp T.b_law_names .nil pass0 (pa_cons (pv 0) (pa_cons (pe_op op_add pe_int (pe_call G_law_pick hr_law_pick rfl T.m_law_pick T.F_law_pick.kp T.b_law_pick .nil pass0 (pa_cons (pv 0) (pa_cons (pe_op op_sub (pv 1) pe_int) pa_nil)))) pa_nil))))
      (pss_cons (ps_set (i := 3) sc_law_any_book.nd rfl (Or.inl rfl) (pe_call G_law_names hr_law_names rfl T.m_law_names T.F_law_names.kp T.b_law_names .nil pass0 (pa_cons (pv 0) (pa_cons (pe_call G_law_pick hr_law_pick rfl T.m_law_pick T.F_law_pick.kp T.b_law_pick .nil pass0 (pa_cons (pv 0) (pa_cons pe_int pa_nil))) pa_nil))))
      (pss_one (ps_ret (pe_call G_law_made hr_law_made rfl T.m_law_made T.F_law_made.kp T.b_law_made .nil pass0 (pa_cons (pv 2) (pa_cons (pe_lc (own := [("_law_name", 4)]) (by rfl) sc_law_any_book.nd (pi_list (pv 3)) (blkOk_by (own := [("_law_name", 4)]) (N := ["_law_source_here", "_law_most", "_law_goods", "_law_names_here", "_law_name"]) (sc := defScope s_law_any_book) (by decide +kernel)) (fun _ _ _ _ _ => pg_name (i := 4) sc_law_any_book.nd rfl (Or.inl rfl)) (fun _ _ _ _ _ => pts_nil) (fun _ _ _ _ _ => (pe_tup (pa_cons (pv 4) (pa_cons (pe_call G_law_any_row hr_law_any_row rfl T.m_law_any_row T.F_law_any_row.kp T.b_law_any_row .nil pass0 (pa_cons (pv 0) (pa_cons (pe_callB (show CallR _ (.builtin "len") (rLenK K) from call_lenK) (by rfl) T.n_len (by decide +kernel) (pa_cons (pv 2) pa_nil)) pa_nil))) pa_nil))))) pa_nil)))))))), ?_⟩
  refine ⟨_, rfl, _, rfl, _, rfl, _, _, rfl, rfl, s, c, _, rfl, hS, by omega, by omega, fun j M1 j0 j1 g1 => ⟨_, _, rfl, rfl, ?_⟩⟩
  obtain ⟨jn, rfl⟩ : ∃ jn : Nat, j = (jn : Int) := ⟨j.toNat, by omega⟩
  have e1 : (2 + (jn : Int)) = ((2 + jn : Nat) : Int) := by omega
  refine ⟨s, c, 2 + jn, by show [_, V.int (2 + (jn : Int))] = _; rw [e1], g1.src, by omega, fun a gs M2 g2 ha ea gw gl gn gi => ?_⟩
  have na := g1.src.ne_none ha
  refine ⟨_, rfl, _, rfl, s, c, 5, rfl, g2.src, by decide, by decide, fun j5 M3 k0 k1 g3 => ?_⟩
  obtain ⟨jn5, rfl⟩ : ∃ jn : Nat, j5 = (jn : Int) := ⟨j5.toNat, by omega⟩
  refine ⟨s, c, jn5, rfl, g3.src, by omega, fun b ns M4 g4 hb eb nw nl nn ni => ?_⟩
  have nb := g3.src.ne_none hb
  have ea4 := (g3.trans g4).lst g2.src ea na.2
  have G14 := (g1.trans g2).trans (g3.trans g4)
  have S4 := g4.src
  refine ⟨_, rfl, _, rfl, b, rfl, ⟨_, SqL.of eb⟩, fun D hD => ?_⟩
  have nD := S4.ne_none hD
  refine lc_list (xs := ns.map V.str) (fun i M => ∃ (ps : List Addr) (bs : List Br), (∀ b u, b ≠ s → b ≠ c → M4 b = some u → M b = some u) ∧ Src M s c ∧ M D = some (.lst (ps.map V.ref)) ∧ BrsAt M ps bs ∧ bs.map (·.1) = ns.take i ∧ ∀ b ∈ bs, RowG gs.length b.2)
    ⟨[], [], fun b u _ _ e => same_new hD _ _ _ e, S4.same (same_new hD _), upd_same, BrsAt.nil, rfl, fun _ h => nomatch h⟩ (fun i M _ ⟨_, _, old, S, _⟩ => SqL.of (old _ _ nb.1 nb.2 eb)) (fun i y M hy z => ?_) (fun M z => ?_)
  · obtain ⟨ps, bs, old, S, eD, bM, bn, bo⟩ := z
    obtain ⟨nm, hnm, rfl⟩ := getM hy
    have eaM := old _ _ na.1 na.2 ea4
    refine ⟨rfl, _, rfl, _, rfl, _, rfl, a, _, rfl, .inl (SqL.of eaM), s, c, gs.length, by rw [List.length_map]; rfl, S, by omega, by omega, fun p r N g5 ep lr mr sr => ?_⟩
    refine ⟨(by show 2 ≤ sizeLine; decide), fun q hq => ?_⟩
    have sq := same_new hq (.tup [.str nm, .ref p])
    have g6 := g5.then sq
    have eD6 := g6.lst S eD nD.2
    have kD := KT.upd (o := .lst (ps.map V.ref ++ [.ref q])) eD6
    have lp : ps.length = (ns.take i).length := by rw [bM.1, ← bn, List.length_map]
    refine ⟨_, eD6, ?_, ps ++ [q], bs ++ [(nm, r)], fun b u n1 n2 e => ?_, g6.src.upd6 nD, by rw [upd_same, List.map_append]; rfl, ?_, ?_, ?_⟩
    · rw [List.length_map, lp, List.length_take]; exact small1000 (by omega)
    · rw [upd_ne (ne_of_none e hD)]; exact g6.keep _ _ n1 n2 (old b u n1 n2 e)
    · exact BrsAt.snoc (bM.kt ((KT.go S g6).trans kD)) ⟨p, kD _ _ upd_same, kD _ _ (sq _ _ ep)⟩
    · rw [List.map_append, bn, ← take_snoc hnm]; rfl
    · intro b0 hb0
      rcases List.mem_append.mp hb0 with h | h
      · exact bo b0 h
      · rw [List.mem_singleton.mp h]; exact ⟨⟨lr, mr⟩, sr⟩
  · obtain ⟨ps, bs, old, S, eD, bM, bn, bo⟩ := z
    rw [List.length_map, List.take_length] at bn
    have eaM := old _ _ na.1 na.2 ea4
    have lb : bs.length = ns.length := by rw [← bn, List.length_map]
    have inN : ∀ b0 ∈ bs, b0.1 ∈ ns := fun b0 h => by rw [← bn]; exact List.mem_map.mpr ⟨b0, h, rfl⟩
    refine ⟨a, D, ps, gs, bs, rfl, eaM, eD, bM, ⟨gw, gn, by omega, fun b0 h => ⟨nw _ (inN b0 h), (bo b0 h).1⟩, by rw [bn]; exact nn, by omega⟩, fun wd x H' sH hwd W Wc => ?_⟩
    refine k wd gs bs H' ((G14.trans ⟨fun b u n1 n2 e => old b u n1 n2 e, S⟩).then sH) ⟨a, D, x, ps, [], Wc s c S na.2 nD.2⟩ (by omega) (by omega) (fun b0 h => ⟨ni _ (inN b0 h), (bo b0 h).2⟩)
theorem ok_book (T : Tx K mg) : FnOk P w K mg base CX0 14 T.a_law_book T.fd_law_book ["_law_source_here", "_law_most"] (spBookD T.C_Book 1) := by
  refine T.F_law_book.ok sc_law_book (fun vs H Q E h => ?_) (fun cdv A outer st H vs Q E hr h => ?_)
  · obtain ⟨s, c, m, rfl, _⟩ := h
    rfl
  obtain ⟨s, c, m, rfl, hS, m2, m10, k⟩ := h
  have hu := hu_of hr
  have G_law_pick : FnOk P w K mg base CX0 1 T.a_law_pick T.fd_law_pick ["_law_source_here", "_law_many"] spPick := ok_pick T
  have hr_law_pick : Room 1 _ := hr.mono (by omega)
  have G_law_of : FnOk P w K mg base CX0 2 T.a_law_of T.fd_law_of ["_law_source_here", "_law_some"] (spOf K) := ok_of T
  have hr_law_of : Room 2 _ := hr.mono (by omega)
  have G_law_names : FnOk P w K mg base CX0 2 T.a_law_names T.fd_law_names ["_law_source_here", "_law_many"] spNames2 := ok_names T
  have hr_law_names : Room 2 _ := hr.mono (by omega)
  have G_law_mixed : FnOk P w K mg base CX0 2 T.a_law_mixed T.fd_law_mixed ["_law_source_here", "_law_things"] spMixed := ok_mixed T
  have hr_law_mixed : Room 2 _ := hr.mono (by omega)
  have G_law_tree : FnOk P w K mg base CX0 13 T.a_law_tree T.fd_law_tree ["_law_source_here", "_law_goods"] (spTree 10) := ok_tree T 10
  have hr_law_tree : Room 13 _ := hr
  have G_law_forked : FnOk P w K mg base CX0 13 T.a_law_forked T.fd_law_forked ["_law_source_here", "_law_tree_here", "_law_goods", "_law_share", "_law_rows"] (spForked 10) := ok_forked T 10
  have hr_law_forked : Room 13 _ := hr
  have G_law_made : FnOk P w K mg base CX0 7 T.a_law_made T.fd_law_made ["_law_goods", "_law_barters"] (spMade T.C_Book) := ok_made T
  have hr_law_made : Room 7 _ := hr.mono (by omega)
  refine ⟨_, ((pss_cons (ps_set (i := 2) sc_law_book.nd rfl (Or.inl rfl) (pe_call G_law_names hr_law_names rfl T.m_law_names T.F_law_names.kp T.b_law_names .nil pass0 (pa_cons (pv 0) (pa_cons (pe_op op_add pe_int (pe_call G_law_pick hr_law_pick rfl T.m_law_pick T.F_law_pick.kp T.b_law_pick .nil pass0 (pa_cons (pv 0) (pa_cons (pv 1) pa_nil)))) pa_nil))))
      (pss_cons (ps_set (i := 3) sc_law_book.nd rfl (Or.inl rfl) (pe_call G_law_tree hr_law_tree rfl T.m_law_tree T.F_law_tree.kp T.b_law_tree .nil pass0 (pa_cons (pv 0) (pa_cons (pv 2) pa_nil))))
      (pss_cons (ps_set (i := 4) sc_law_book.nd rfl (Or.inl rfl) (pe_call G_law_mixed hr_law_mixed rfl T.m_law_mixed T.F_law_mixed.kp T.b_law_mixed .nil pass0 (pa_cons (pv 0) (pa_cons (pe_call G_law_forked hr_law_forked rfl T.m_law_forked T.F_law_forked.kp T.b_law_forked .nil pass0 (pa_cons (pv 0) (pa_cons (pv 3) (pa_cons (pv 2) (pa_cons (pe_call G_law_of hr_law_of rfl T.m_law_of T.F_law_of.kp T.b_law_of .nil pass0 (pa_cons (pv 0) (pa_cons (pe_lst (pa_cons pe_int (pa_cons pe_int (pa_cons pe_int pa_nil)))) pa_nil))) (pa_cons (pe_lst pa_nil) pa_nil)))))) pa_nil))))
      (pss_cons (ps_set (i := 5) sc_law_book.nd rfl (Or.inl rfl) (pe_call G_law_made hr_law_made rfl T.m_law_made T.F_law_made.kp T.b_law_made .nil pass0 (pa_cons (pv 2) (pa_cons (pe_zipL (by rfl) (by rfl) T.n_list (by rfl) T.n_zip (pa_cons (pe_call G_law_names hr_law_names rfl T.m_law_names T.F_law_names.kp T.b_law_names .nil pass0 (pa_cons (pv 0) (pa_cons (pe_callB call_len_seq (by rfl) T.n_len (by decide +kernel) (pa_cons (pv 4) pa_nil)) pa_nil))) (pa_cons (pv 4) pa_nil))) pa_nil))))
      (pss_cons (ps_dput hu (pv 5) pe_str (pv 3) rfl)
      (pss_one (ps_ret (pv 5))))))))), ?_⟩
  refine ⟨_, rfl, _, rfl, _, rfl, s, c, _, rfl, hS, by omega, by omega, fun j M1 j0 j1 g1 => ⟨_, _, rfl, rfl, ?_⟩⟩
  obtain ⟨jn, rfl⟩ : ∃ jn : Nat, j = (jn : Int) := ⟨j.toNat, by omega⟩
  have e1 : (1 + (jn : Int)) = ((1 + jn : Nat) : Int) := by omega
  refine ⟨s, c, 1 + jn, by show [_, V.int (1 + (jn : Int))] = _; rw [e1], g1.src, by omega, fun a gs M2 g2 ha ea gw gl gn gi => ?_⟩
  have na := g1.src.ne_none ha
  refine ⟨_, rfl, _, rfl, s, c, a, gs, rfl, g2.src, ea, na.2, by omega, by omega, by decide, fun v ls M3 g3 t3 pm => ?_⟩
  have ea3 := g3.lst g2.src ea na.2
  have lls : ls.length = gs.length := pm.length_eq
  refine ⟨_, rfl, _, rfl, _, rfl, _, rfl, _, rfl, (by show 3 ≤ sizeLine; decide), fun p hp => ?_⟩
  have sp := same_new hp (.lst [.int 1, .int 4, .int 4])
  refine ⟨s, c, p, _, rfl, g3.src.same sp, upd_same, (g3.src.ne_none hp).2, by show 1 ≤ 3; decide, by show 3 < 1000000; decide, fun i4 x4 M4 hx4 u4 => ?_⟩
  obtain ⟨sh, rfl, hsh⟩ : ∃ sh : Int, x4 = .int sh ∧ (sh = 1 ∨ sh = 4) := by
    have := List.mem_of_getElem? hx4
    simp only [List.mem_cons, List.not_mem_nil, or_false] at this
    rcases this with rfl | rfl | rfl
    · exact ⟨1, rfl, .inl rfl⟩
    · exact ⟨4, rfl, .inr rfl⟩
    · exact ⟨4, rfl, .inr rfl⟩
  have g34 := (Go.of g3.src sp).trans u4
  refine ⟨Nat.zero_le _, fun L0 hL0 => ?_⟩
  have sL := same_new hL0 (.lst [])
  have nL0 := g34.src.ne_none hL0
  have g35 := g34.then sL
  have ea5 := g35.lst g3.src ea3 na.2
  have eL0 := upd_same (H := M4) (a := L0) (o := .lst [])
  generalize L2.upd M4 L0 (.lst []) = M5 at g35 ea5 eL0 ⊢
  refine ⟨s, c, a, L0, v, sh, ls, gs, [], [], rfl, g35.src, t3.same (cut_go g35), pm.nodup_iff.mpr gn, fun x hx => pm.mem_iff.mp hx, ea5, na.2, gn, by omega, hsh, eL0, nL0.2, AllAt.nil, (fun _ h => nomatch h), by show 0 + ls.length ≤ 50; omega, fun rl rs rows M6 g6 nrl erl aR okR lR => ?_⟩
  have lR' : rows.length + 1 ≤ 0 + ls.length := lR
  refine ⟨s, c, rl, _, rfl, g6.src, erl, by rw [List.length_map, aR.1]; omega, fun D ys M7 g7 hD eD pm2 => ?_⟩
  obtain ⟨rs2, rows2, rfl, aR2, pR⟩ := perm_all pm2 rfl aR
  have nD := g6.src.ne_none hD
  have lrows : rows2.length = rows.length := pR.length_eq
  have lrs : rs2.length = rows2.length := aR2.1
  have aR7 : AllAt (RowAt M7) rs2 rows2 := aR2.imp fun p x z => KT.go g6.src g7 _ _ z
  -- the names of the barters
  refine ⟨_, rfl, _, rfl, _, rfl, D, _, rfl, .inl (SqL.of eD), s, c, rows2.length, by rw [List.length_map, lrs]; rfl, g7.src, by omega, fun nl ns M8 g8 hnl enl nw nlen nn ni => ?_⟩
  have eD8 := g8.lst g7.src eD nD.2
  have nnl := g7.src.ne_none hnl
  refine ⟨_, rfl, nl, D, _, _, rfl, SqL.of enl, SqL.of eD8, by rw [List.length_map, List.length_map, lrs, nlen], fun M9 L9 as s9 hL9 eL9 las items => ?_⟩
  have nL9 := g8.src.ne_none hL9
  have ea9 : M9 a = some (.lst (gs.map V.str)) := ((((g35.trans g6).trans g7).trans g8).then s9).lst g3.src ea3 na.2
  have aR9 : AllAt (RowAt M9) rs2 rows2 := aR7.imp fun p x z => s9 _ _ (KT.go g7.src g8 _ _ z)
  have bsA : BrsAt M9 as (ns.zip rows2) := by
    refine ⟨by rw [las, List.length_map, List.length_zip, nlen, Nat.min_self], fun i q b e1 e2 => ?_⟩
    obtain ⟨_, u, v', hu', hv', et⟩ := items i q e1
    obtain ⟨nm, hnm, rfl⟩ := getM hu'
    obtain ⟨ra, hra, rfl⟩ := getM hv'
    obtain ⟨row, hrow, rr⟩ := aR9.get hra
    have : (ns.zip rows2)[i]? = some (nm, row) := List.getElem?_zip_eq_some.mpr ⟨hnm, hrow⟩
    rw [this] at e2
    cases e2
    exact ⟨ra, et, rr⟩
  have mz : ∀ b ∈ ns.zip rows2, b.1 ∈ ns ∧ b.2 ∈ rows2 := fun b hb => by
    obtain ⟨x, y⟩ := b
    exact ⟨(List.of_mem_zip hb).1, (List.of_mem_zip hb).2⟩
  have fst : (ns.zip rows2).map (·.1) = ns := List.map_fst_zip (by omega)
  have lz : (ns.zip rows2).length ≤ 10 := by rw [List.length_zip]; omega
  have Gd : GoodBk gs (ns.zip rows2) := ⟨gw, gn, by omega, fun b hb => ⟨nw _ (mz b hb).1, (okR _ (pR.mem_iff.mp (mz b hb).2)).1⟩, by rw [fst]; exact nn, by omega⟩
  have S9 : Src M9 s c := g8.src.same s9
  refine ⟨a, L9, as, gs, ns.zip rows2, rfl, ea9, eL9, bsA, Gd, fun wd x MX sX hwd W Wc => ?_⟩
  have Wc' := Wc s c S9 na.2 nL9.2
  have nwd := S9.ne_none hwd
  refine ⟨_, rfl, _, rfl, wd, _, rfl, DPut.k (k := Sum.inr "tree") W.hw (by show 3 < sizeLine; decide), ?_⟩
  rw [List.append_nil, wld_tree]
  have gAll := (((((((g1.trans g2).trans g3).trans g35).trans g6).trans g7).trans g8).then s9).then sX
  refine ⟨_, rfl, k wd gs (ns.zip rows2) _ ⟨fun b u n1 n2 e => ?_, gAll.src.upd6 nwd⟩ ⟨a, L9, x, as, [((Sum.inr "tree" : Key), v)], ?_⟩ (by omega) lz (fun b hb => ⟨ni _ (mz b hb).1, (okR _ (pR.mem_iff.mp (mz b hb).2)).2⟩)⟩
  · have e9 := ((((((((g1.trans g2).trans g3).trans g35).trans g6).trans g7).trans g8).then s9)).keep _ _ n1 n2 e
    rw [upd_ne (ne_of_none e9 hwd)]
    exact gAll.keep _ _ n1 n2 e
  · rw [cut_upd nwd]
    exact Wc'.tree
theorem ok_some_book (T : Tx K mg) : FnOk P w K mg base CX0 15 T.a_law_some_book T.fd_law_some_book ["_law_source_here", "_law_most"] (spBookD T.C_Book 2) := by
  refine T.F_law_some_book.ok sc_law_some_book (fun vs H Q E h => ?_) (fun cdv A outer st H vs Q E hr h => ?_)
  · obtain ⟨s, c, m, rfl, _⟩ := h
    rfl
  obtain ⟨s, c, m, rfl, hS, m2, m10, k⟩ := h
  have G_law_pick : FnOk P w K mg base CX0 1 T.a_law_pick T.fd_law_pick ["_law_source_here", "_law_many"] spPick := ok_pick T
  have hr_law_pick : Room 1 _ := hr.mono (by omega)
  have G_law_book : FnOk P w K mg base CX0 14 T.a_law_book T.fd_law_book ["_law_source_here", "_law_most"] (spBookD T.C_Book 1) := ok_book T
  have hr_law_book : Room 14 _ := hr
  have G_law_any_book : FnOk P w K mg base CX0 8 T.a_law_any_book T.fd_law_any_book ["_law_source_here", "_law_most"] (spBookD T.C_Book 2) := ok_any_book T
  have hr_law_any_book : Room 8 _ := hr.mono (by omega)
  have G_law_made : FnOk P w K mg base CX0 7 T.a_law_made T.fd_law_made ["_law_goods", "_law_barters"] (spMade T.C_Book) := ok_made T
  have hr_law_made : Room 7 _ := hr.mono (by omega)
  refine ⟨_, ((pss_cons (ps_set (i := 2) sc_law_some_book.nd rfl (Or.inl rfl) (pe_call G_law_pick hr_law_pick rfl T.m_law_pick T.F_law_pick.kp T.b_law_pick .nil pass0 (pa_cons (pv 0) (pa_cons pe_int pa_nil))))
      (pss_cons (ps_if (pt_cmpR op_eq (pv 2) pe_int (nomark _))
        (pss_one (ps_ret (pe_call G_law_made hr_law_made rfl T.m_law_made T.F_law_made.kp T.b_law_made .nil pass0 (pa_cons (pe_lst pa_nil) (pa_cons (pe_lst pa_nil) pa_nil)))))
        pss_nil)
      (pss_one (ps_ret (pe_ifExp (pt_cmpR op_lt (pv 2) pe_int (nomark _)) (pe_call G_law_book hr_law_book rfl T.m_law_book T.F_law_book.kp T.b_law_book .nil pass0 (pa_cons (pv 0) (pa_cons (pv 1) pa_nil))) (pe_call G_law_any_book hr_law_any_book rfl T.m_law_any_book T.F_law_any_book.kp T.b_law_any_book .nil pass0 (pa_cons (pv 0) (pa_cons (pv 1) pa_nil))))))))), ?_⟩
  refine ⟨_, rfl, s, c, 8, rfl, hS, by decide, by decide, fun j M1 j0 j1 g1 => ?_⟩
  refine ⟨_, rfl, rfl, _, rfl, iteD (fun _ => ?_) (fun _ => ?_)⟩
  · refine ⟨Nat.zero_le _, fun a ha => ⟨Nat.zero_le _, fun b hb => ?_⟩⟩
    have na := g1.src.ne_none ha
    have sa := same_new ha (.lst [])
    have nb := (g1.src.same sa).ne_none hb
    have sb := same_new hb (.lst [])
    have S3 := (g1.src.same sa).same sb
    refine ⟨a, b, [], [], [], rfl, sb _ _ upd_same, upd_same, BrsAt.nil, ⟨fun _ h => (nomatch h), List.nodup_nil, Nat.zero_le _, fun _ h => (nomatch h), List.nodup_nil, Nat.zero_le _⟩, fun wd x H' sH hwd W Wc => ?_⟩
    exact k wd [] [] H' (g1.then ((sa.trans sb).trans sH)) ⟨a, b, x, [], [], Wc s c S3 na.2 nb.2⟩ (Nat.zero_le _) (Nat.zero_le _) (fun _ h => nomatch h)
  · refine ⟨_, rfl, _, _, rfl, rfl, _, rfl, iteD (fun _ => ?_) (fun _ => ?_)⟩
    · exact ⟨_, rfl, _, rfl, s, c, m, rfl, g1.src, by omega, m10, fun wd gs bs H' g W l1 l2 l3 => k wd gs bs H' (g1.trans g) W l1 l2 l3⟩
    · exact ⟨_, rfl, _, rfl, s, c, m, rfl, g1.src, m2, m10, fun wd gs bs H' g W l1 l2 l3 => k wd gs bs H' (g1.trans g) W l1 l2 l3⟩
theorem ok_stock (T : Tx K mg) : FnOk P w K mg base CX0 3 T.a_law_stock T.fd_law_stock ["_law_source_here", "_law_world", "_law_most"] (spStock T.C_Book) := by
  refine T.F_law_stock.ok sc_law_stock (fun vs H Q E h => ?_) (fun cdv A outer st H vs Q E hr h => ?_)
  · obtain ⟨s, c, wd, m, gs, bs, rfl, _⟩ := h
    rfl
  obtain ⟨s, c, wd, m, gs, bs, rfl, hS, ⟨g, l, x, ps, ex, W⟩, m10, lgs, k⟩ := h
  have hu := hu_of hr
  have G_law_pick : FnOk P w K mg base CX0 1 T.a_law_pick T.fd_law_pick ["_law_source_here", "_law_many"] spPick := ok_pick T
  have hr_law_pick : Room 1 _ := hr.mono (by omega)
  have G_law_of : FnOk P w K mg base CX0 2 T.a_law_of T.fd_law_of ["_law_source_here", "_law_some"] (spOf K) := ok_of T
  have hr_law_of : Room 2 _ := hr
  refine ⟨_, ((pss_one (ps_ret (pe_callTy call_tuple_of (by rfl) T.n_tuple (by decide +kernel) (pa_cons (pe_lc (own := [("_law_good", 3)]) (by rfl) sc_law_stock.nd (pi_list (pe_dget hu (pv 1) pe_str (fun _ _ => rfl))) (blkOk_by (own := [("_law_good", 3)]) (N := ["_law_source_here", "_law_world", "_law_most", "_law_good"]) (sc := defScope s_law_stock) (by decide +kernel)) (fun _ _ _ _ _ => pg_name (i := 3) sc_law_stock.nd rfl (Or.inl rfl)) (fun _ _ _ _ _ => pts_nil) (fun _ _ _ _ _ => (pe_op op_mul (pe_call G_law_pick hr_law_pick rfl T.m_law_pick T.F_law_pick.kp T.b_law_pick .nil pass0 (pa_cons (pv 0) (pa_cons (pe_op op_add (pv 2) pe_int) pa_nil))) (pe_call G_law_of hr_law_of rfl T.m_law_of T.F_law_of.kp T.b_law_of .nil pass0 (pa_cons (pv 0) (pa_cons (pe_lst (pa_cons pe_int (pa_cons pe_int (pa_cons pe_int pa_nil)))) pa_nil)))))) pa_nil))))), ?_⟩
  obtain ⟨_, _, hwd⟩ := cut_at' W.hw
  obtain ⟨ngs, ngc, hg⟩ := cut_at' W.hg
  have gg : DGet H wd (.str "goods") (some (.ref g)) := by rw [← w_goods g l x ex]; exact DGet.k (k := Sum.inr "goods") hwd
  refine ⟨_, rfl, wd, _, rfl, gg, g, rfl, ⟨_, SqL.of hg⟩, fun D hD => ?_⟩
  have nD := hS.ne_none hD
  refine lc_list (xs := gs.map V.str) (fun i M => ∃ r : List Int, (∀ b u, b ≠ s → b ≠ c → H b = some u → M b = some u) ∧ Src M s c ∧ M D = some (.lst (rowV r)) ∧ r.length = i ∧ ∀ z ∈ r, 0 ≤ z ∧ z < 1000) ⟨[], fun b u _ _ e => same_new hD _ _ _ e, hS.same (same_new hD _), upd_same, rfl, fun _ h => nomatch h⟩ (fun i M _ ⟨_, old, _⟩ => SqL.of (old _ _ ngs ngc hg)) (fun i y M hy z => ?_) (fun M z => ?_)
  · obtain ⟨r, old, S, eD, lr, pr⟩ := z
    have hi : i < gs.length := by have := (List.getElem?_eq_some_iff.mp hy).1; rw [List.length_map] at this; exact this
    refine ⟨rfl, _, rfl, _, rfl, _, _, rfl, rfl, s, c, _, rfl, S, by omega, by omega, fun j N1 j0 j1 g1 => ?_⟩
    refine ⟨_, rfl, (by show 3 ≤ sizeLine; decide), fun p hp => ?_⟩
    have sp := same_new hp (.lst [.int 0, .int 1, .int 1])
    refine ⟨s, c, p, _, rfl, g1.src.same sp, upd_same, (g1.src.ne_none hp).2, by show 1 ≤ 3; decide, by show 3 < 1000000; decide, fun i4 x4 N4 hx4 u4 => ?_⟩
    obtain ⟨q, rfl, hq⟩ : ∃ q : Int, x4 = .int q ∧ (q = 0 ∨ q = 1) := by
      have := List.mem_of_getElem? hx4
      simp only [List.mem_cons, List.not_mem_nil, or_false] at this
      rcases this with rfl | rfl | rfl
      · exact ⟨0, rfl, .inl rfl⟩
      · exact ⟨1, rfl, .inr rfl⟩
      · exact ⟨1, rfl, .inr rfl⟩
    have u5 := (g1.then sp).trans u4
    have eD5 := u5.lst S eD nD.2
    refine ⟨_, _, rfl, rfl, .inl (by omega), _, eD5, by rw [List.length_map, lr]; exact small1000 (by omega), r ++ [j * q], fun b u n1 n2 e => ?_, u5.src.upd6 nD, by rw [upd_same, rowV_app], by rw [List.length_append, lr]; rfl, fun z hz => ?_⟩
    · rw [upd_ne (ne_of_none e hD)]
      exact u5.keep _ _ n1 n2 (old b u n1 n2 e)
    · rcases List.mem_append.mp hz with h | h
      · exact pr z h
      · rw [List.mem_singleton.mp h]
        rcases hq with rfl | rfl <;> exact ⟨by omega, by omega⟩
  · obtain ⟨r, old, S, eD, lr, pr⟩ := z
    refine ⟨D, _, rfl, .inl ⟨SqL.of eD, fun p hp => ?_⟩⟩
    rw [List.length_map] at lr
    exact k p r _ (Go.then ⟨fun b u n1 n2 e => old b u n1 n2 e, S⟩ (same_new hp _)) upd_same lr pr
theorem ok_drawn_stock (T : Tx K mg) : FnOk P w K mg base CX0 4 T.a_law_drawn_stock T.fd_law_drawn_stock ["_law_source_here", "_law_world"] (spDrawnStock T.C_Book) := by
  refine T.F_law_drawn_stock.ok sc_law_drawn_stock (fun vs H Q E h => ?_) (fun cdv A outer st H vs Q E hr h => ?_)
  · obtain ⟨s, c, wd, gs, bs, rfl, _⟩ := h
    rfl
  obtain ⟨s, c, wd, gs, bs, rfl, hS, W, lgs, k⟩ := h
  have G_law_pick : FnOk P w K mg base CX0 1 T.a_law_pick T.fd_law_pick ["_law_source_here", "_law_many"] spPick := ok_pick T
  have hr_law_pick : Room 1 _ := hr.mono (by omega)
  have G_law_stock : FnOk P w K mg base CX0 3 T.a_law_stock T.fd_law_stock ["_law_source_here", "_law_world", "_law_most"] (spStock T.C_Book) := ok_stock T
  have hr_law_stock : Room 3 _ := hr
  refine ⟨_, ((pss_cons (ps_set (i := 2) sc_law_drawn_stock.nd rfl (Or.inl rfl) (pe_call G_law_pick hr_law_pick rfl T.m_law_pick T.F_law_pick.kp T.b_law_pick .nil pass0 (pa_cons (pv 0) (pa_cons pe_int pa_nil))))
      (pss_cons (ps_set (i := 3) sc_law_drawn_stock.nd rfl (Or.inl rfl) (pe_call G_law_stock hr_law_stock rfl T.m_law_stock T.F_law_stock.kp T.b_law_stock .nil pass0 (pa_cons (pv 0) (pa_cons (pv 1) (pa_cons (pe_ix (show IxR _ (rIxL K) from ix_list) (pe_lst (pa_cons pe_int (pa_cons pe_int (pa_cons pe_int (pa_cons pe_int (pa_cons pe_int (pa_cons pe_int pa_nil))))))) (pv 2) (fun _ _ => rfl)) pa_nil)))))
      (pss_one (ps_ret (pe_ifExp (pt_cmpR op_eq (pe_call G_law_pick hr_law_pick rfl T.m_law_pick T.F_law_pick.kp T.b_law_pick .nil pass0 (pa_cons (pv 0) (pa_cons pe_int pa_nil))) pe_int (nomark _)) (pe_callTy call_tuple_of (by rfl) T.n_tuple (by decide +kernel) (pa_cons (pe_lc (own := [("_law_number_here", 4)]) (by rfl) sc_law_drawn_stock.nd (pi_tup (pv 3)) (blkOk_by (own := [("_law_number_here", 4)]) (N := ["_law_source_here", "_law_world", "_law_way", "_law_stock_here", "_law_number_here"]) (sc := defScope s_law_drawn_stock) (by decide +kernel)) (fun _ _ _ _ _ => pg_name (i := 4) sc_law_drawn_stock.nd rfl (Or.inl rfl)) (fun _ _ _ _ _ => pts_nil) (fun _ _ _ _ _ => (pe_op op_add (pv 4) (pe_op op_pow pe_int pe_int)))) pa_nil)) (pv 3))))))), ?_⟩
  refine ⟨_, rfl, s, c, 6, rfl, hS, by decide, by decide, fun j M1 j0 j1 g1 => ?_⟩
  obtain ⟨jn, rfl⟩ : ∃ jn : Nat, j = (jn : Int) := ⟨j.toNat, by omega⟩
  refine ⟨_, rfl, _, rfl, (by show 6 ≤ sizeLine; decide), fun p hp => ?_⟩
  have sp := same_new hp (.lst [.int 2, .int 4, .int 7, .int 9, .int 12, .int 30])
  have g2 := g1.then sp
  obtain ⟨m, hm, m100⟩ : ∃ m : Nat, ([.int 2, .int 4, .int 7, .int 9, .int 12, .int 30] : List V)[jn]? = some (.int (m : Nat)) ∧ m ≤ 100 := by
    have : jn = 0 ∨ jn = 1 ∨ jn = 2 ∨ jn = 3 ∨ jn = 4 ∨ jn = 5 := by omega
    rcases this with rfl | rfl | rfl | rfl | rfl | rfl
    · exact ⟨2, rfl, by decide⟩
    · exact ⟨4, rfl, by decide⟩
    · exact ⟨7, rfl, by decide⟩
    · exact ⟨9, rfl, by decide⟩
    · exact ⟨12, rfl, by decide⟩
    · exact ⟨30, rfl, by decide⟩
  refine ⟨_, rfl, p, _, _, _, rfl, rfl, SqL.of upd_same, atI_nat hm, s, c, wd, m, gs, bs, rfl, g2.src, W.go g2, m100, lgs, fun a stk M2 g3 ea ls ps => ?_⟩
  have g23 := g2.trans g3
  refine ⟨_, rfl, s, c, 12, rfl, g3.src, by decide, by decide, fun j' M3 j0' j1' g4 => ⟨rfl, _, rfl, iteD (fun _ => ?_) (fun _ => ?_)⟩⟩
  · have ea3 := g4.tup g3.src ea
    refine ⟨_, rfl, a, rfl, ⟨_, SqT.of ea3⟩, fun D hD => ?_⟩
    refine lc_tup (xs := rowV stk) (Lc M3 D (rowV (stk.map fun z => z + 10 ^ 38))) (Lc.zero hD) (fun i M _ z => SqT.of (z.1 _ _ ea3)) (fun i y M hy z => ?_) (fun M z => ?_)
    · obtain ⟨x, hx, rfl⟩ := getM hy
      refine ⟨rfl, _, rfl, _, _, rfl, rfl, ⟨by decide, by decide, by decide⟩, _, _, rfl, rfl, ?_⟩
      exact Lc.lay hD z (mapM (mapM hx)) (by rw [List.length_map, List.length_map]; omega)
    · have ⟨sM, eM⟩ := z.all (by rw [List.length_map, List.length_map, List.length_map])
      refine ⟨D, _, rfl, .inl ⟨SqL.of eM, fun q hq => ?_⟩⟩
      refine k q _ _ ((g23.trans g4).then (sM.trans (same_new hq _))) upd_same (by rw [List.length_map, ls]) (fun z hz => ?_)
      obtain ⟨y, hy, rfl⟩ := List.mem_map.mp hz
      have q := ps y hy
      have h : (1000 : Int) + 10 ^ 38 ≤ 10 ^ 39 := by decide
      have h0 : (0 : Int) ≤ 10 ^ 38 := by decide
      generalize (10 : Int) ^ 38 = t at h h0 ⊢
      exact ⟨by omega, Int.lt_of_lt_of_le (by omega) h⟩
  · exact ⟨_, rfl, k a stk M3 (g23.trans g4) (g4.tup g3.src ea) ls (fun z hz => ⟨(ps z hz).1, Int.lt_trans (ps z hz).2 (by decide)⟩)⟩
end
end My

namespace My
open PySem PySem.Spec PyProof.Rows L2
/-! ### data that is short when it is shown -/
structure Sm (k b : Nat) (d : PyData) : Prop where
  sh : d.showable = true
  dp : d.depth ≤ k
  lf : d.leavesShort 40 = true
  bk : d.bulk ≤ b
structure SmA (k b : Nat) (ds : List PyData) : Prop where
  sh : PyData.showableAll ds = true
  dp : PyData.depthAll ds ≤ k
  lf : PyData.leavesShortAll 40 ds = true
  bk : PyData.bulkAll ds ≤ b
theorem Sm.up {k b k' b' : Nat} {d : PyData} (h : Sm k b d) (hk : k ≤ k') (hb : b ≤ b') : Sm k' b' d := ⟨h.sh, Nat.le_trans h.dp hk, h.lf, Nat.le_trans h.bk hb⟩
theorem SmA.nil {k b : Nat} : SmA k b [] := ⟨rfl, Nat.zero_le _, rfl, Nat.zero_le _⟩
theorem SmA.cons {k b m : Nat} {d : PyData} {ds : List PyData} (h : Sm k b d) (t : SmA k m ds) : SmA k (b + 1 + m) (d :: ds) := by
  refine ⟨?_, ?_, ?_, ?_⟩
  · show (d.showable && PyData.showableAll ds) = true
    rw [h.sh, t.sh]; rfl
  · show max d.depth (PyData.depthAll ds) ≤ k
    exact Nat.max_le.mpr ⟨h.dp, t.dp⟩
  · show (d.leavesShort 40 && PyData.leavesShortAll 40 ds) = true
    rw [h.lf, t.lf]; rfl
  · show d.bulk + 1 + PyData.bulkAll ds ≤ b + 1 + m
    have := h.bk
    have := t.bk
    omega
theorem SmA.up {k b b' : Nat} {ds : List PyData} (h : SmA k b ds) (hb : b ≤ b') : SmA k b' ds := ⟨h.sh, h.dp, h.lf, Nat.le_trans h.bk hb⟩
theorem SmA.tuple {k b : Nat} {ds : List PyData} (h : SmA k b ds) : Sm (k + 1) b (.tuple ds) := ⟨h.sh, Nat.succ_le_succ h.dp, h.lf, h.bk⟩
theorem SmA.list {k b : Nat} {ds : List PyData} (h : SmA k b ds) : Sm (k + 1) b (.list ds) := ⟨h.sh, Nat.succ_le_succ h.dp, h.lf, h.bk⟩
theorem Sm.non {k b : Nat} : Sm k b .none := ⟨rfl, Nat.zero_le _, rfl, Nat.zero_le _⟩
theorem Sm.str {k b : Nat} {x : Str} (h : PyData.strOk x = true) (l : x.length ≤ b) : Sm k b (.str x) := by
  refine ⟨rfl, Nat.zero_le _, ?_, l⟩
  have h : x.cps.all (fun c => decide (c < 0x110000)) = true := h
  rw [← Array.all_toList, List.all_eq_true] at h
  show x.cps.toList.all (fun c => decide (c < 16 ^ 8)) = true
  rw [List.all_eq_true]
  intro c hc
  exact decide_eq_true (Nat.lt_trans (of_decide_eq_true (h c hc)) (by decide))
theorem Sm.fits {k b : Nat} {d : PyData} (h : Sm k b d) (hb : b ≤ 300000) : d.shown.length ≤ sizeLine := by
  have q := PyData.shown_le_bulk 40 (by decide) d h.lf
  have := h.bk
  rw [sizeLine_eq]
  omega
/-- data that can be compared, of a depth -/
structure Lay (k : Nat) (d : PyData) : Prop where
  can : d.canLay0 = true
  dep : d.depth ≤ k
  nod : d.hasDict = false
structure LayAll (k : Nat) (ds : List PyData) : Prop where
  can : PyData.canLayAll0 ds = true
  dep : PyData.depthAll ds ≤ k
  nod : PyData.hasDictAll ds = false
theorem LayAll.nil {k : Nat} : LayAll k [] := ⟨rfl, Nat.zero_le _, rfl⟩
theorem LayAll.cons {k : Nat} {d : PyData} {ds : List PyData} (h : Lay k d) (t : LayAll k ds) : LayAll k (d :: ds) := by
  refine ⟨?_, ?_, ?_⟩
  · show (d.canLay0 && PyData.canLayAll0 ds) = true
    rw [h.can, t.can]; rfl
  · show max d.depth (PyData.depthAll ds) ≤ k
    exact Nat.max_le.mpr ⟨h.dep, t.dep⟩
  · show (d.hasDict || PyData.hasDictAll ds) = false
    rw [h.nod, t.nod]; rfl
theorem LayAll.of {k : Nat} : ∀ {ds : List PyData}, (∀ d ∈ ds, Lay k d) → LayAll k ds
  | [], _ => .nil
  | _ :: _, h => .cons (h _ List.mem_cons_self) (.of fun d hd => h d (List.mem_cons_of_mem _ hd))
theorem LayAll.list {k : Nat} {ds : List PyData} (h : LayAll k ds) : Lay (k + 1) (.list ds) := ⟨h.can, Nat.succ_le_succ h.dep, h.nod⟩
theorem LayAll.tuple {k : Nat} {ds : List PyData} (h : LayAll k ds) : Lay (k + 1) (.tuple ds) := ⟨h.can, Nat.succ_le_succ h.dep, h.nod⟩
theorem Lay.up {k m : Nat} {d : PyData} (h : Lay k d) (l : k ≤ m) : Lay m d := ⟨h.can, Nat.le_trans h.dep l, h.nod⟩
theorem Lay.shaped {k : Nat} {d : PyData} (h : Lay k d) (l : k ≤ 64) : SeqAt.shaped d = true := by
  show (d.canLay0 && decide (d.depth ≤ 64)) = true
  rw [h.can, decide_eq_true (Nat.le_trans h.dep l)]
  rfl
theorem eqv_same {d : PyData} (h : SeqAt.shaped d = true) : PyData.eqv d d = true := SeqAt.eqv_refl d (SeqAt.canLay_of_shaped h)
theorem al_small {c : Nat} (h : isAl c = true) : c < 128 := by
  unfold isAl at h
  rw [← in_cat] at h
  have q : (LTR ++ DIG).cps.toList.all (fun c => decide (c < 128)) = true := by decide +kernel
  exact of_decide_eq_true ((List.all_eq_true.mp q) c (of_decide_eq_true h))
theorem word_ok {x : Str} (h : wordD (.str x) = true) : PyData.strOk x = true ∧ x.length ≤ 12 := by
  have h : (decide (x.length ≤ 12) && (match x.cps.toList with
    | [] => false
    | c :: r => inS LTR c && (c :: r).all isAl)) = true := h
  rw [Bool.and_eq_true, decide_eq_true_iff] at h
  refine ⟨?_, h.1⟩
  show x.cps.all (fun c => decide (c < 0x110000)) = true
  rw [← Array.all_toList, List.all_eq_true]
  intro c hc
  have h2 := h.2
  cases e : x.cps.toList with
  | nil => rw [e] at hc; cases hc
  | cons a r =>
    rw [e] at h2 hc
    have h2 : (inS LTR a && (a :: r).all isAl) = true := h2
    exact decide_eq_true (Nat.lt_trans (al_small (List.all_eq_true.mp (Bool.and_eq_true_iff.mp h2).2 c hc)) (by decide))
/-! ### deeds and barters as data -/
def dD (q : Dd) : PyData := .tuple [.str q.1, .int q.2]
def brD (b : Br) : PyData := .tuple [.str b.1, .tuple (b.2.map .int)]
theorem dpAll_of {α : Type} {K : PySem.W.Frag} {H : Hp} {R : Addr → α → Prop} {f : α → PyData} (hf : ∀ p x, R p x → Dp K H (.ref p) (f x)) : ∀ {ps : List Addr} {xs : List α}, AllAt R ps xs → DpAll K H (ps.map V.ref) (xs.map f)
  | [], [], _ => .nil
  | [], _ :: _, h => nomatch h.1
  | _ :: _, [], h => nomatch h.1
  | p :: ps, x :: xs, h => .cons (hf _ _ (h.2 0 p x rfl rfl)) (dpAll_of hf ⟨Nat.succ.inj h.1, fun i p x h1 h2 => h.2 (i + 1) p x h1 h2⟩)
theorem dp_deed {K : PySem.W.Frag} {H : Hp} {p : Addr} {q : Dd} (h : DeedAt H p q) : Dp K H (.ref p) (dD q) := .tup (SqT.of h) (.cons (.str _) (.cons (.int _) .nil))
theorem dp_row {K : PySem.W.Frag} {H : Hp} : ∀ r : List Int, DpAll K H (rowV r) (r.map .int)
  | [] => .nil
  | i :: r => .cons (.int i) (dp_row r)
theorem dp_br {K : PySem.W.Frag} {H : Hp} {p : Addr} {b : Br} (h : BrAt H p b) : Dp K H (.ref p) (brD b) := by
  obtain ⟨a, h1, h2⟩ := h
  exact .tup (SqT.of h1) (.cons (.str _) (.cons (.tup (SqT.of h2) (dp_row _)) .nil))
theorem lay_ints : ∀ r : List Int, LayAll 0 (r.map .int)
  | [] => .nil
  | i :: r => .cons ⟨rfl, Nat.le_refl _, rfl⟩ (lay_ints r)
theorem lay_str {x : Str} (h : wordD (.str x) = true) : Lay 0 (.str x) := ⟨(word_ok h).1, Nat.le_refl _, rfl⟩
theorem lay_br {b : Br} (h : wordD (.str b.1) = true) : Lay 2 (brD b) := LayAll.tuple (.cons ((lay_str h).up (by decide)) (.cons (lay_ints b.2).tuple .nil))
theorem lay_dd {q : Dd} (h : wordD (.str q.1) = true) : Lay 1 (dD q) := LayAll.tuple (.cons (lay_str h) (.cons ⟨rfl, Nat.le_refl _, rfl⟩ .nil))
theorem lay_list {α : Type} {k : Nat} {f : α → PyData} {xs : List α} (h : ∀ x ∈ xs, Lay k (f x)) : Lay (k + 1) (.list (xs.map f)) := by
  refine LayAll.list (LayAll.of fun d hd => ?_)
  obtain ⟨x, hx, rfl⟩ := List.mem_map.mp hd
  exact h x hx
theorem sm_dd {q : Dd} (h : wordD (.str q.1) = true) (hq : q.2 = 1 ∨ q.2 = -1) : Sm 1 60 (dD q) := by
  have s1 : Sm 0 12 (.str q.1) := .str (word_ok h).1 (word_ok h).2
  have s2 : Sm 0 40 (.int q.2) := by rcases hq with e | e <;> rw [e] <;> exact ⟨by decide +kernel, by decide +kernel, by decide +kernel, by decide +kernel⟩
  exact Sm.up (SmA.cons s1 (SmA.cons s2 (SmA.nil (b := 0)))).tuple (Nat.le_refl _) (by decide)
theorem sm_dues : ∀ {xs : List Dd}, (∀ q ∈ xs, wordD (.str q.1) = true ∧ (q.2 = 1 ∨ q.2 = -1)) → SmA 1 (61 * xs.length) (xs.map dD)
  | [], _ => .nil
  | q :: xs, h => by
    have a := h q (List.mem_cons_self ..)
    refine SmA.up (SmA.cons (sm_dd a.1 a.2) (sm_dues fun q hq => h q (List.mem_cons_of_mem _ hq))) ?_
    rw [List.length_cons]; omega
theorem eqv_nil (ds : List PyData) : PyData.eqv (.list ds) (.list []) = decide (ds = []) := by
  cases ds with
  | nil => rfl
  | cons a l => exact (decide_eq_false (fun z => by cases z)).symm
theorem due_mem {st : List Int} {bs : List Br} {q : Dd} (h : q ∈ dueL st bs) : (∃ b ∈ bs, q.1 = b.1) ∧ (q.2 = 1 ∨ q.2 = -1) := by
  obtain ⟨b, hb, h⟩ := List.mem_flatMap.mp h
  obtain ⟨w, hw, rfl⟩ := List.mem_map.mp h
  have := (List.mem_filter.mp hw).1
  exact ⟨⟨b, hb, rfl⟩, by simpa using this⟩
/-- the law's own look at what a deed leaves -/
theorem enough_iff {st r : List Int} {w : Int} (l : st.length = r.length) : enoughB (combR 1 st w r) = true ↔ ∀ (k : Nat) (x y : Int), st[k]? = some x → r[k]? = some y → 0 ≤ x + w * y := by
  unfold enoughB combR
  rw [List.all_eq_true]
  constructor
  · intro h k x y hx hy
    have m : (1 * x + w * y) ∈ List.zipWith (fun x y => 1 * x + w * y) st r := List.mem_of_getElem? (i := k) (by rw [List.getElem?_zipWith, hx, hy])
    have q := of_decide_eq_true (h _ m)
    rw [Int.one_mul] at q
    exact q
  · intro h z hz
    obtain ⟨k, hk, e⟩ := List.getElem_of_mem hz
    rw [List.length_zipWith] at hk
    rw [List.getElem_zipWith] at e
    rw [← e, Int.one_mul]
    exact decide_eq_true (h k _ _ (List.getElem?_eq_getElem (by omega)) (List.getElem?_eq_getElem (by omega)))
theorem rep_flat (n : Nat) : (List.replicate n [V.int 0]).flatten = rowV (List.replicate n 0) := by
  induction n with
  | zero => rfl
  | succ n ih => rw [List.replicate_succ, List.flatten_cons, ih, List.replicate_succ]; rfl
/-! ### twins -/
def twinS (i : Nat) : Str := "zq" ++ toString ((i : Nat) : Int)
def twins (bs : List Br) : List Br := (bs.take 2).mapIdx fun i b => (twinS i, b.2)
theorem twin_ok : ∀ i : Nat, i < 2 → wordD (.str (twinS i)) = true ∧ idxS (twinS i) ≥ 100 := by
  intro i h
  have : i = 0 ∨ i = 1 := by omega
  rcases this with rfl | rfl <;> exact ⟨by decide +kernel, by decide +kernel⟩
theorem twin01 : twinS 0 ≠ twinS 1 := by decide +kernel
theorem twins_mem {bs : List Br} {b : Br} (h : b ∈ twins bs) : ∃ i, i < 2 ∧ b.1 = twinS i ∧ ∃ b0 ∈ bs, b.2 = b0.2 := by
  obtain ⟨i, hi, rfl⟩ := List.mem_mapIdx.mp h
  rw [List.length_take] at hi
  exact ⟨i, by omega, rfl, _, List.mem_of_mem_take (List.getElem_mem (by rw [List.length_take]; exact hi)), rfl⟩
theorem twins_nodup (bs : List Br) : ((twins bs).map (·.1)).Nodup := by
  unfold twins
  cases bs with
  | nil => exact List.nodup_nil
  | cons a r =>
    cases r with
    | nil => exact List.nodup_cons.mpr ⟨(fun h => nomatch h), List.nodup_nil⟩
    | cons b t =>
      show [twinS 0, twinS 1].Nodup
      exact List.nodup_cons.mpr ⟨fun h => twin01 (List.mem_singleton.mp h), List.nodup_cons.mpr ⟨(fun h => nomatch h), List.nodup_nil⟩⟩
theorem twins_len (bs : List Br) : (twins bs).length ≤ 2 := by unfold twins; rw [List.length_mapIdx, List.length_take]; omega
theorem good_twins {gs : List Str} {bs bs2 : List Br} (G : GoodBk gs bs) (l : bs.length ≤ 10) (ix : ∀ b ∈ bs, idxS b.1 < 100) (p : bs2.Perm (bs ++ twins bs)) : GoodBk gs bs2 := by
  refine ⟨G.gw, G.gn, G.gl, fun b hb => ?_, ?_, ?_⟩
  · rcases List.mem_append.mp (p.mem_iff.mp hb) with h | h
    · exact G.bw b h
    · obtain ⟨i, hi, e1, b0, h0, e2⟩ := twins_mem h
      rw [e1, e2]
      exact ⟨(twin_ok i hi).1, (G.bw b0 h0).2⟩
  · rw [(p.map (·.1)).nodup_iff, List.map_append, List.nodup_append]
    refine ⟨G.bn, twins_nodup bs, fun a ha b hb e => ?_⟩
    obtain ⟨x, hx, rfl⟩ := List.mem_map.mp ha
    obtain ⟨y, hy, rfl⟩ := List.mem_map.mp hb
    obtain ⟨i, hi, e1, _⟩ := twins_mem hy
    have q := ix x hx
    rw [e, e1] at q
    exact absurd (twin_ok i hi).2 (by omega)
  · rw [p.length_eq, List.length_append]
    have := twins_len bs
    omega
end My

namespace My
open PySem PySem.Spec PyProof.Rows L2
def Bn (n : Nat) : Nat := 40 * 4 ^ n
theorem Bn_pos (n : Nat) : 40 ≤ Bn n := Nat.le_mul_of_pos_right 40 (Nat.pos_of_neZero (4 ^ n))
theorem Bn_succ (n : Nat) : Bn (n + 1) = 4 * Bn n := by unfold Bn; rw [Nat.pow_succ]; omega
theorem Bn_le {n m : Nat} (h : n ≤ m) : Bn n ≤ Bn m := Nat.mul_le_mul_left _ (Nat.pow_le_pow_right (by decide) h)
abbrev SmN (n : Nat) (d : PyData) : Prop := Sm (n + 2) (Bn n) d
theorem SmN.up {n m : Nat} {d : PyData} (h : SmN n d) (l : n ≤ m) : SmN m d := Sm.up h (by omega) (Bn_le l)
end My

namespace My
open PySem PySem.Spec PyProof.Rows L2
/-! ### odd values -/
theorem forall_cons {α : Type} {p : α → Prop} {x : α} {xs : List α} (h : p x) (t : ∀ y ∈ xs, p y) : ∀ y ∈ x :: xs, p y := List.forall_mem_cons.mpr ⟨h, t⟩
theorem forall_nil {α : Type} {p : α → Prop} : ∀ y ∈ ([] : List α), p y := List.forall_mem_nil _
/-- a value that is no fork -/
def OddQ (s c : Addr) (H : Hp) (v : V) : Prop := ∃ d, Dq (cutH s c H) v d ∧ forkD d = false ∧ (∀ x, d = .str x → x.length ≤ 100000 ∧ PyData.strOk x = true ∧ 100 ≤ idxS x) ∧ SmN 0 d
theorem sma {ds : List PyData} (h : (PyData.showableAll ds && decide (PyData.depthAll ds ≤ 1) && PyData.leavesShortAll 40 ds && decide (PyData.bulkAll ds ≤ 40)) = true) : SmA 1 40 ds := by
  simp only [Bool.and_eq_true, decide_eq_true_iff] at h
  exact ⟨h.1.1.1, h.1.1.2, h.1.2, h.2⟩
theorem smd {d : PyData} (h : (d.showable && decide (d.depth ≤ 2) && d.leavesShort 40 && decide (d.bulk ≤ 40)) = true) : SmN 0 d := by
  simp only [Bool.and_eq_true, decide_eq_true_iff] at h
  exact ⟨h.1.1.1, h.1.1.2, h.1.2, h.2⟩
section
variable {s c p : Addr} {H H' : Hp} {v : V}
theorem OddQ.non : OddQ s c H .non := ⟨_, .non, rfl, (fun _ e => nomatch e), .non⟩
theorem OddQ.bl (b : Bool) : OddQ s c H (.bl b) := ⟨_, .bl b, rfl, (fun _ e => nomatch e), ⟨rfl, Nat.zero_le _, rfl, Nat.zero_le _⟩⟩
theorem OddQ.int (i : Int) (h : SmN 0 (.int i)) : OddQ s c H (.int i) := ⟨_, .int i, rfl, (fun _ e => nomatch e), h⟩
theorem OddQ.str (x : Str) (h : x.length ≤ 40) (k : PyData.strOk x = true) (ix : 100 ≤ idxS x) : OddQ s c H (.str x) := ⟨_, .str x, rfl, (fun y e => by cases e; exact ⟨by omega, k, ix⟩), .str k h⟩
theorem OddQ.tup {xs : List V} {ds : List PyData} (S : Src H s c) (hp : H p = none) (h : DqAll (cutH s c H) xs ds) (n : ds.length ≠ 3) (q : SmA 1 40 ds) : OddQ s c (upd H p (.tup xs)) (.ref p) :=
  ⟨.tuple ds, .tup (cut_in (S.ne_none hp) upd_same) (h.same (cut_of (same_new hp _))), decide_eq_false n, (fun _ e => nomatch e), q.tuple⟩
theorem OddQ.lst {xs : List V} {ds : List PyData} (S : Src H s c) (hp : H p = none) (big : sysModules < p) (h : DqAll (cutH s c H) xs ds) (q : SmA 1 40 ds) : OddQ s c (upd H p (.lst xs)) (.ref p) :=
  ⟨.list ds, .lst (cut_in (S.ne_none hp) upd_same) big (h.same (cut_of (same_new hp _))), rfl, (fun _ e => nomatch e), q.list⟩
theorem OddQ.dct {kvs : List (Key × V)} {es : List (PyData × PyData)} (S : Src H s c) (hp : H p = none) (x : DctE kvs es) : OddQ s c (upd H p (.dK kvs)) (.ref p) :=
  ⟨.dict es, .dct (cut_in (S.ne_none hp) upd_same) x, rfl, (fun _ e => nomatch e), by cases x <;> exact smd (by decide +kernel)⟩
theorem OddQ.same (e : Same H H') (h : OddQ s c H v) : OddQ s c H' v := by
  obtain ⟨d, a, b, k⟩ := h
  exact ⟨d, a.same (cut_of e), b, k⟩
theorem OddQ.go (g : Go s c H H') (h : OddQ s c H v) : OddQ s c H' v := by
  obtain ⟨d, a, b, k⟩ := h
  exact ⟨d, a.same (cut_go g), b, k⟩
end
def spOddQ : Sp := fun vs H Q _ => ∃ (s c : Addr), vs = [.ref s] ∧ Src H s c ∧ ∀ (v : V) (H' : Hp), OddQ s c H' v → Go s c H H' → Q v H'
section
variable {P : Program} {w : World} {K : PySem.W.Frag} {mg : Str → Option Value} {base : Heap}
theorem ok_odd (T : Tx K mg) : FnOk P w K mg base CX0 3 T.a_law_odd T.fd_law_odd ["_law_source_here"] spOddQ := by
  refine T.F_law_odd.ok sc_law_odd (fun vs H Q E h => ?_) (fun cdv A outer st H vs Q E hr h => ?_)
  · obtain ⟨s, c, rfl, _⟩ := h
    rfl
  obtain ⟨s, c, rfl, hS, k⟩ := h
  have G_law_of : FnOk P w K mg base CX0 2 T.a_law_of T.fd_law_of ["_law_source_here", "_law_some"] (spOf K) := ok_of T
  have hr_law_of : Room 2 _ := hr
  refine ⟨_, ((pss_cons (ps_set (i := 1) sc_law_odd.nd rfl (Or.inl rfl) (pe_lst (pa_cons pe_non (pa_cons pe_bl (pa_cons pe_bl (pa_cons (pe_un un_neg pe_int) (pa_cons pe_int (pa_cons (pe_op op_pow pe_int pe_int) (pa_cons pe_str (pa_cons pe_str (pa_cons pe_str (pa_cons (pe_tup pa_nil) (pa_cons (pe_lstN pa_nil) (pa_cons pe_dnewK (pa_cons (pe_tup (pa_cons pe_non pa_nil)) (pa_cons (pe_lstN (pa_cons (pe_tup pa_nil) pa_nil)) (pa_cons (pe_tup (pa_cons pe_int pa_nil)) (pa_cons (pe_tup (pa_cons pe_int (pa_cons pe_int pa_nil))) (pa_cons (pe_tup (pa_cons pe_str (pa_cons pe_int pa_nil))) pa_nil)))))))))))))))))))
      (pss_one (ps_ret (pe_call G_law_of hr_law_of rfl T.m_law_of T.F_law_of.kp T.b_law_of .nil pass0 (pa_cons (pv 0) (pa_cons (pe_op op_cat (pv 1) (pe_lst (pa_cons (pe_disp (pps_cons pe_int pe_int pps_nil) (by rfl) (by rfl) (fun z => by cases z) (by decide)) pa_nil))) pa_nil))))))), ?_⟩
  refine ⟨_, rfl, _, _, rfl, rfl, ⟨by decide, by decide, by decide⟩, Nat.zero_le _, fun p1 h1 => ?_⟩
  have s1 := same_new h1 (.tup [])
  have S1 := hS.same s1
  have o1 : OddQ s c (upd H p1 (.tup [])) (.ref p1) := .tup hS h1 .nil (by decide) .nil
  refine ⟨Nat.zero_le _, fun p2 h2 big2 => fun p3 h3 => ⟨(by show 1 ≤ sizeLine; decide), fun p4 h4 => ⟨Nat.zero_le _, fun p5 h5 => ⟨(by show 1 ≤ sizeLine; decide), fun p6 h6 big6 => ?_⟩⟩⟩⟩
  have s2 := same_new h2 (.lst [])
  have S2 := S1.same s2
  have o2 : OddQ s c _ (.ref p2) := .lst S1 h2 big2 (xs := []) .nil .nil
  have s3 := same_new h3 (.dK [])
  have S3 := S2.same s3
  have o3 : OddQ s c _ (.ref p3) := .dct S2 h3 .none
  have s4 := same_new h4 (.tup [.non])
  have S4 := S3.same s4
  have o4 : OddQ s c _ (.ref p4) := .tup S3 h4 (xs := [.non]) (.cons .non .nil) (by decide) (sma (by decide +kernel))
  have s5 := same_new h5 (.tup [])
  have S5 := S4.same s5
  have s6 := same_new h6 (.lst [.ref p5])
  have S6 := S5.same s6
  have o6 : OddQ s c _ (.ref p6) := .lst S5 h6 big6 (xs := [.ref p5]) (.cons (.tup (cut_in (S4.ne_none h5) upd_same) .nil) .nil) (sma (by decide +kernel))
  refine ⟨(by show 1 ≤ sizeLine; decide), fun p7 h7 => ⟨(by show 2 ≤ sizeLine; decide), fun p8 h8 => ⟨(by show 2 ≤ sizeLine; decide), fun p9 h9 => ⟨(by show 17 ≤ sizeLine; decide), fun p10 h10 => ?_⟩⟩⟩⟩
  have s7 := same_new h7 (.tup [.int 0])
  have S7 := S6.same s7
  have o7 : OddQ s c _ (.ref p7) := .tup S6 h7 (xs := [.int 0]) (.cons (.int 0) .nil) (by decide) (sma (by decide +kernel))
  have s8 := same_new h8 (.tup [.int 0, .int 0])
  have S8 := S7.same s8
  have o8 : OddQ s c _ (.ref p8) := .tup S7 h8 (xs := [.int 0, .int 0]) (.cons (.int 0) (.cons (.int 0) .nil)) (by decide) (sma (by decide +kernel))
  have s9 := same_new h9 (.tup [.str "x", .int 1])
  have S9 := S8.same s9
  have o9 : OddQ s c _ (.ref p9) := .tup S8 h9 (xs := [.str "x", .int 1]) (.cons (.str "x") (.cons (.int 1) .nil)) (by decide) (sma (by decide +kernel))
  have s10 := same_new h10 (.lst [.non, .bl true, .bl false, .int (-1), .int 7, .int ((10 : Int) ^ (30 : Int).toNat), .str "", .str "A", .str "x", .ref p1, .ref p2, .ref p3, .ref p4, .ref p6, .ref p7, .ref p8, .ref p9])
  have S10 := S9.same s10
  refine ⟨_, rfl, _, rfl, fun p11 h11 => ?_⟩
  have s11 := same_new h11 (.dK [])
  have S11 := S10.same s11
  have e12 : upd (upd (upd (upd (upd (upd (upd (upd (upd (upd (upd (upd H p1 (.tup [])) p2 (.lst [])) p3 (.dK [])) p4 (.tup [.non])) p5 (.tup [])) p6 (.lst [.ref p5])) p7 (.tup [.int 0])) p8 (.tup [.int 0, .int 0])) p9 (.tup [.str "x", .int 1])) p10 (.lst [.non, .bl true, .bl false, .int (-1), .int 7, .int ((10 : Int) ^ (30 : Int).toNat), .str "", .str "A", .str "x", .ref p1, .ref p2, .ref p3, .ref p4, .ref p6, .ref p7, .ref p8, .ref p9])) p11 (.dK [])) p11 (.dK [(.inl 0, .int 1)]) = upd (upd (upd (upd (upd (upd (upd (upd (upd (upd (upd H p1 (.tup [])) p2 (.lst [])) p3 (.dK [])) p4 (.tup [.non])) p5 (.tup [])) p6 (.lst [.ref p5])) p7 (.tup [.int 0])) p8 (.tup [.int 0, .int 0])) p9 (.tup [.str "x", .int 1])) p10 (.lst [.non, .bl true, .bl false, .int (-1), .int 7, .int ((10 : Int) ^ (30 : Int).toNat), .str "", .str "A", .str "x", .ref p1, .ref p2, .ref p3, .ref p4, .ref p6, .ref p7, .ref p8, .ref p9])) p11 (.dK [(.inl 0, .int 1)]) := upd_upd
  have em : mergeK [] [((.inl 0 : Key), V.int 1)] = [((.inl 0 : Key), V.int 1)] := rfl
  refine ⟨upd_same, [(.inl 0, .int 1)], rfl, by decide, ?_⟩
  rw [em, e12]
  have s12 := same_new h11 (.dK [(.inl 0, .int 1)])
  have S12 := S10.same s12
  have o12 : OddQ s c _ (.ref p11) := .dct S10 h11 .one
  refine ⟨(by show 1 ≤ sizeLine; decide), fun p13 h13 => ?_⟩
  have s13 := same_new h13 (.lst [.ref p11])
  have S13 := S12.same s13
  refine ⟨p10, p13, _, _, rfl, rfl, s13 _ _ (s12 _ _ upd_same), upd_same, (by show 18 ≤ sizeLine; decide), fun p14 h14 => ?_⟩
  have s14 := same_new h14 (.lst ([.non, .bl true, .bl false, .int (-1), .int 7, .int ((10 : Int) ^ (30 : Int).toNat), .str "", .str "A", .str "x", .ref p1, .ref p2, .ref p3, .ref p4, .ref p6, .ref p7, .ref p8, .ref p9] ++ [.ref p11]))
  have S14 := S13.same s14
  have n14 := S13.ne_none h14
  refine ⟨s, c, p14, _, rfl, S14, upd_same, n14.2, (by show 1 ≤ 18; decide), (by show 18 < 1000000; decide), fun i x H1 hx g1 => ?_⟩
  have t9 := ((((s10.trans s12).trans s13).trans s14))
  have t8 := s9.trans t9
  have t7 := s8.trans t8
  have t6 := s7.trans t7
  have t4 := (s5.trans s6).trans t6
  have t3 := s4.trans t4
  have t2 := s3.trans t3
  have t1 := s2.trans t2
  have all : ∀ y ∈ ([.non, .bl true, .bl false, .int (-1), .int 7, .int ((10 : Int) ^ (30 : Int).toNat), .str "", .str "A", .str "x", .ref p1, .ref p2, .ref p3, .ref p4, .ref p6, .ref p7, .ref p8, .ref p9, .ref p11] : List V), OddQ s c _ y :=
    forall_cons OddQ.non (forall_cons (OddQ.bl true) (forall_cons (OddQ.bl false) (forall_cons (OddQ.int _ (smd (by decide +kernel))) (forall_cons (OddQ.int _ (smd (by decide +kernel))) (forall_cons (OddQ.int _ (smd (by decide +kernel))) (forall_cons (OddQ.str "" (by decide +kernel) (by decide +kernel) (by decide +kernel)) (forall_cons (OddQ.str "A" (by decide +kernel) (by decide +kernel) (by decide +kernel)) (forall_cons (OddQ.str "x" (by decide +kernel) (by decide +kernel) (by decide +kernel))
      (forall_cons (o1.same t1) (forall_cons (o2.same t2) (forall_cons (o3.same t3) (forall_cons (o4.same t4) (forall_cons (o6.same t6) (forall_cons (o7.same t7) (forall_cons (o8.same t8) (forall_cons (o9.same t9) (forall_cons (o12.same (s13.trans s14)) forall_nil)))))))))))))))))
  exact k x H1 ((all x (List.mem_of_getElem? hx)).go g1) ((Go.of hS (s1.trans t1)).trans g1)
end
end My

namespace My
open PySem PySem.Spec PyProof.Rows L2
/-! ### repr of values at any depth, dicts among them -/
def encK : Key → PyData
  | .inl i => .int i
  | .inr x => .str x
theorem encK_reads {P : Program} {w : World} {h : Heap} (k : Key) (v : Value) (e : (mixKind P w).is k v = true) : Reads h v (encK k) [] := by
  rcases keyIs_shape e with ⟨i, t, rfl, rfl⟩ | ⟨x, t, rfl, rfl⟩
  · exact .int i t
  · exact .str x t
section
variable {X : Cx} {pins : List (Addr × Obj)} {σ : L2.St} {H : Hp} {s : Shared}
theorem dct_reads (I : Inv X pins σ H s) {a : Addr} {kvs : List (Key × V)} {es : List (PyData × PyData)} (e : H a = some (.dK kvs)) (x : DctE kvs es) : ∃ as, Reads s.heap (.ref a) (.dict es) as ∧ sysModules ∉ as := by
  obtain ⟨_, ns, vs, kv, D⟩ := I.hok a _ e
  have na : sysModules ≠ a := fun z => by
    rw [← z] at ns
    exact absurd ns (by simp)
  cases x with
  | none =>
    cases kv
    exact ⟨[a], PyProof.V.reads_dictOf (enc := encK) encK_reads D .nil, by simp; exact na⟩
  | one =>
    cases kv with
    | cons h1 h2 =>
      cases h2
      rename_i q
      obtain ⟨k0, u0⟩ := q
      obtain ⟨ek, rv⟩ := h1
      have ek : (.inl 0 : Key) = k0 := ek
      obtain ⟨t, eu⟩ := (show ∃ t, u0 = Value.int 1 t from rv)
      subst ek
      subst eu
      have r := PyProof.V.reads_dictOf (enc := encK) encK_reads D (.cons (.int 1 t) .nil)
      exact ⟨_, r, by simp; exact na⟩
mutual
theorem Dq.reads (I : Inv X pins σ H s) : ∀ (d : PyData) (v : V) (u : Value), Dq H v d → RelV v u → ∃ as, Reads s.heap u d as ∧ sysModules ∉ as
  | .none, _, _, h, r => by
    cases h
    cases r
    exact ⟨[], .none, List.not_mem_nil⟩
  | .bool b, _, _, h, r => by
    cases h
    cases r
    exact ⟨[], .bool b, List.not_mem_nil⟩
  | .int i, _, _, h, r => by
    cases h
    obtain ⟨t, rfl⟩ := r
    exact ⟨[], .int i t, List.not_mem_nil⟩
  | .str x, _, _, h, r => by
    cases h
    obtain ⟨t, rfl⟩ := r
    exact ⟨[], .str x t, List.not_mem_nil⟩
  | .list ds, _, _, h, r => by
    cases h with
    | lst e big ha =>
      cases r
      obtain ⟨its, rv, ⟨o, n, ho, hc, _, hd⟩, _⟩ := I.list (SqL.of e)
      obtain ⟨as, hr, hn⟩ := Dq.readsAll I ds _ its ha rv
      refine ⟨_, .list ho hc hd hr, fun z => ?_⟩
      rcases List.mem_cons.mp z with z | z
      · exact absurd big (by rw [← z]; exact Nat.lt_irrefl _)
      · exact hn z
  | .tuple ds, _, _, h, r => by
    cases h with
    | tup e ha =>
      cases r
      obtain ⟨its, rv, ⟨o, ho, hc, n, hd⟩, _⟩ := I.tuple (SqT.of e)
      obtain ⟨as, hr, hn⟩ := Dq.readsAll I ds _ its ha rv
      exact ⟨_, .tuple ho hc hd hr, hn⟩
  | .dict es, _, _, h, r => by
    cases h with
    | dct e x =>
      cases r
      exact dct_reads I e x
theorem Dq.readsAll (I : Inv X pins σ H s) : ∀ (ds : List PyData) (vs : List V) (us : List Value), DqAll H vs ds → Vals vs us → ∃ as, ReadsAll s.heap us ds as ∧ sysModules ∉ as
  | [], _, _, h, r => by
    cases h
    cases r
    exact ⟨[], .nil, List.not_mem_nil⟩
  | d :: ds, _, _, h, r => by
    cases h with
    | cons h1 h2 =>
      cases r with
      | cons r1 r2 =>
        obtain ⟨as, a1, a2⟩ := Dq.reads I d _ _ h1 r1
        obtain ⟨bs, b1, b2⟩ := Dq.readsAll I ds _ _ h2 r2
        exact ⟨_, .cons a1 b1, fun z => (List.mem_append.mp z).elim a2 b2⟩
end
def rReprQ : List V → Hp → VK → Prop := fun xs H Q => ∃ (v : V) (d : PyData), xs = [v] ∧ Dq H v d ∧ d.showable = true ∧ d.depth ≤ 60 ∧ d.shown.length ≤ sizeLine ∧ Q (.str d.shown) H
theorem call_repr_Q (hg : X.A.guards = some []) (hu : X.A.units + 64 < cLine) : CallR X (.builtin "repr") rReprQ := by
  intro pins s σ H xs us Q I r h
  obtain ⟨v, d, rfl, dq, sh, dd, sz, q⟩ := h
  obtain ⟨u, rfl, r1⟩ := vals1 r
  have deep : ∀ a, u = .ref a → wpAny (model X.prog X.w) X.A (call (.builtin "repr") [u]) (EP X pins σ Q) X.xe s := fun a e => by
    obtain ⟨as, hr, hn⟩ := Dq.reads I d v u dq r1
    rw [e] at hr ⊢
    exact repr_of_reads' hr sh (fun _ => hn) hg (by omega) (fun _ _ e => e) (fun h' u tk hk => ⟨.str d.shown, H, I.kept hk, ⟨u, rfl⟩, q⟩) sz
  cases dq with
  | non =>
    cases r1
    exact PySem.P.repr_of_none ⟨.str _, H, I.tok _, ⟨_, rfl⟩, q⟩
  | bl b =>
    cases r1
    exact PySem.P.repr_of_bool ⟨.str _, H, I.tok _, ⟨_, rfl⟩, q⟩
  | int i =>
    obtain ⟨t, rfl⟩ := r1
    exact PySem.P.repr_of_int (of_decide_eq_true sh) ⟨.str _, H, I.tok _, ⟨_, rfl⟩, q⟩
  | str x =>
    obtain ⟨t, rfl⟩ := r1
    exact PySem.P.repr_of_str ⟨.str _, H, I.tok _, ⟨_, rfl⟩, q⟩ sz
  | lst e n hs => exact deep _ r1
  | tup e hs => exact deep _ r1
  | dct e x => exact deep _ r1
end
end My

namespace My
open PySem PySem.Spec PyProof.Rows L2
/-! ### a law whose def makes code objects: its table stands in the heap from the entry -/
/-- the def at f has its code object at c -/
def CodeAt (K : PySem.W.Frag) (f c : Addr) : Prop := ∃ (oc : Value) (od : Option Addr) (fd : FuncData) (sl : Array (Option Value)), K.lookup f = some ⟨oc, od, .func fd, sl⟩ ∧ fd.code = .ref c
section
variable {P : Program} {w : World} {K : PySem.W.Frag} {mg : Str → Option Value} {base : Heap}
theorem FnG.ofC {x qual : Str} {st : Stmt} {f c : Addr} {fd : FuncData} {N ps : List Str} {k : Nat} {sp : Sp} (F : Fun K x qual st f fd) (hc : CodeAt K f c) (S : FnScope N ps (defScope st)) (len : ∀ vs H Q E, sp vs H Q E → vs.length = ps.length)
    (body : ∀ (A : Around) (outer : List Env) (s : Shared) (H : Hp) (vs : List V) (Q : VK) (E : XK), A.guards = some [] → Room k (A.deeper (envOfC qual (defScope st) s.heap.objs.size f (.ref c))) → sp vs H Q E →
      ∃ t, PSs (cxOf CX0 P w K mg base N qual (defScope st) f (.ref c) A outer s H E).nox (defBody st) t ∧ t { nx := fun _ H' => Q .non H', rt := Q } (start N vs) H) :
    FnG P w K mg base (k + 1) f fd ps sp := by
  obtain ⟨oc, od, kV, doc, pm, an, cdv, ct, osl, rfl, lk, hcd⟩ := F.ex
  have ec : cdv = .ref c := by
    obtain ⟨_, _, fd', _, l2, e2⟩ := hc
    rw [lk] at l2
    injection l2 with l3
    injection l3 with _ _ l4 _
    injection l4 with l5
    rw [← l5] at e2
    exact e2
  subst ec
  refine ⟨len, fun A hg hr outer s H e0 args us hb vs r Q E hsp => ?_⟩
  have KX : K.In s.heap := e0.mod.kin.keeps fun b o q => (e0.bs b o q).1
  have nl : s.heap.NoLimit := e0.mod.nolimit.keeps fun b o q => (e0.bs b o q).1
  have kinds : ∀ y ∈ ps.zip us, (defScope st).names.lookup y.1 = some .local ∨ ((defScope st).names.lookup y.1 = some .cell ∧ ((cellsFrom (s.heap.objs.size + 1) (defScope st).names []).lookup y.1).isSome = true) := by
    rintro ⟨n, v⟩ hy
    have q := S.par n (List.of_mem_zip hy).1
    exact q.imp id fun q => ⟨q, PySem.W.cellsFrom_some _ _ _ (.inl q)⟩
  refine codeAny_call_function hr.depth (KX _ _ lk) rfl S.co S.gen rfl (PySem.W.codeRec_of KX hcd) (hb _ _ _ _ (wpAny_newFunctionEnv_cells S.kind kinds fun env he s1 x => ?_))
  subst he
  refine ⟨nl.keeps x.toInCall.keep, codeAny_func ?_⟩
  obtain ⟨t, ht, hq⟩ := body A outer s H vs Q E hg (hr.deeper _) hsp
  have I : Inv (cxOf CX0 P w K mg base N qual (defScope st) f (.ref c) A outer s H E) [] (start N vs) H s1 := inv_start S hr.hd e0 (len _ _ _ _ hsp) r x
  refine wpAny_mono (ht.nox.run [] s1 (start N vs) H _ I hq) (fun fl s' hs => ?_) (fun e s' hs => hs)
  have last : ∀ {σ' : L2.St} {H' : Hp} {v : V} {u : Value}, Inv (cxOf CX0 P w K mg base N qual (defScope st) f (.ref c) A outer s H E) [] σ' H' s' → RelV v u → Q v H' → CE outer P w H s Q u s' := fun J rv q => ⟨_, _, J.os, J.bare, J.base, J.hok, rv, q⟩
  rcases fl with _ | _ | _ | u
  all_goals first
    | (obtain ⟨v, σ', H', J, rv, q⟩ := hs; exact last J rv q)
    | (obtain ⟨σ', H', J, q⟩ := hs; exact last (v := V.non) (u := Value.none) J rfl q)
    | (obtain ⟨_, _, _, q⟩ := hs; exact False.elim q)
/-- the law's def, its table at p empty when it is called -/
theorem law_runT {k : Nat} {fa a c p : Addr} {fd : FuncData} {x : Str} {sp : Sp} {mb : Str → Option Value} {s₁ : Shared} {vs : List Value} {ns : List Int}
    (KX : K.In s₁.heap) (hns : s₁.heap.Ns mainGlobals mg) (hb : s₁.heap.Ns builtinsNs mb) (hbb : ∀ x : Str, x ≠ "__name__" → mb x = bootBuiltins x) (nl : s₁.heap.NoLimit) (hg : s₁.gens = #[])
    (tp : s₁.heap.get? p = some (PySem.W.tabObj #[])) (np : K.lookup p = none) (cp : PySem.W.CodeHd s₁.heap c p)
    (bmain : ∃ (m : Addr) (o : Obj), mg "__builtins__" = some (.ref m) ∧ m ≠ builtinsNs ∧ s₁.heap.get? m = some o ∧ o.cls = .type "module" ∧ o.dict = some builtinsNs ∧ o.data = .plain)
    (ha : s₁.heap.get? a = some { cls := .type "list", data := .seq vs.toArray }) (hi : IntsAre vs ns) (hl : ns.length ≤ sizeLine) (hr : Room k callerA)
    (F : ∀ base : Heap, K.In base → base.Ns mainGlobals mg → LamX.TabB base mg c p → FnG P w K mg base k fa fd [x] sp) (bind : ∀ (s : Shared) (u : Value), BindsTo s fd ⟨[u], []⟩ [(x, u)])
    (hsp : ∀ H : Hp, H p = some (.tbl #[]) → SqL K H a (ns.map V.int) → sp [.ref a] H (fun v _ => v = .bl true) fun _ _ _ => False) :
    codeAny (model P w) callerA (.call (.ref fa) ⟨[.ref a], []⟩) (fun r s' => r = .ok (.ret (.bool true)) ∧ OldK s₁.heap s'.heap ∧ s'.os = s₁.os ∧ AllBare s'.gens) s₁ := by
  have rv := vals_ints hi
  have lv := hi.length
  have ap : a ≠ p := fun z => by
    rw [z, tp] at ha
    cases ha
  have core : ∀ H : Hp, H p = some (.tbl #[]) ∧ (∀ b, b ≠ p → H b = none ∨ ∃ o xs, H b = some (.frz o (.lst xs))) ∧ SqL K H a (ns.map V.int) ∧ HOk P w H s₁.heap ∧ (∀ b, b ≠ p → H b ≠ none → b = a) ∧ (H a ≠ none → K.lookup a = none) →
      codeAny (model P w) callerA (.call (.ref fa) ⟨[.ref a], []⟩) (fun r s' => r = .ok (.ret (.bool true)) ∧ OldK s₁.heap s'.heap ∧ s'.os = s₁.os ∧ AllBare s'.gens) s₁ := by
    rintro H ⟨hp, hO, hS, hok, hA, hK⟩
    have no : ∀ {b : Addr}, b ≠ a → b ≠ p → H b = none := fun {b} n n2 => by
      cases q : H b with
      | none => rfl
      | some u => exact absurd (hA b n2 fun z => by rw [q] at z; cases z) n
    have stays : ∀ {b : Addr} {o : Obj}, s₁.heap.get? b = some o → (∀ ys n, o.data ≠ .seq ys n) → o.data ≠ .fields #[] → (hidT s₁.heap H).get? b = some o := fun {b o} e d1 d2 => by
      refine hidT_get e (no (fun z => ?_) fun z => ?_)
      · rw [z, ha] at e
        have e' := Option.some.inj e
        exact d1 _ _ (by rw [← e'])
      · rw [z, tp] at e
        have e' := Option.some.inj e
        exact d2 (by rw [← e'])
    have dicts : ∀ {b : Addr} {o : Obj} {es : Array DictEntry} {ep : Nat}, s₁.heap.get? b = some o → o.data = .dict es ep → (hidT s₁.heap H).get? b = some o := fun e d => stays e (fun _ _ z => by rw [d] at z; cases z) fun z => by rw [d] at z; cases z
    have nsK : ∀ {b : Addr} {m : Str → Option Value}, s₁.heap.Ns b m → (hidT s₁.heap H).Ns b m := fun z => by
      obtain ⟨o, es, ep, e, d, r⟩ := z
      exact ⟨o, es, ep, dicts e d, d, r⟩
    have inK : K.In (hidT s₁.heap H) := fun b o e => by
      refine hidT_get (KX b o e) ?_
      by_cases hb : b = a
      · cases q : H b with
        | none => rfl
        | some u =>
          have z := hK (by rw [← hb, q]; exact fun z => nomatch z)
          rw [hb, z] at e
          cases e
      · refine no hb fun z => ?_
        rw [z, np] at e
        cases e
    obtain ⟨o0, es0, ep0, g1, g2, _⟩ := id hns
    have gp : mainGlobals ≠ p := fun z => by
      rw [z, tp] at g1
      have e' := Option.some.inj g1
      rw [← e'] at g2
      cases g2
    have tb : LamX.TabB (hidT s₁.heap H) mg c p := by
      refine ⟨?_, ?_, gp⟩
      · obtain ⟨o, us, f1, f2, f3, f4, f5, f6, f7, e1, r1, r2, r3, r⟩ := cp
        refine ⟨o, us, f1, f2, f3, f4, f5, f6, f7, stays e1 (fun _ _ z => by rw [r2] at z; cases z) (fun z => ?_), r1, r2, r3, r⟩
        rw [r2] at z
        have z' := Data.fields.inj z
        rw [z'] at r3
        cases r3
      · obtain ⟨m, o, b1, b2, b3, b4, b5, b6⟩ := bmain
        refine ⟨m, o, b1, b2, fun z => ?_, fun z => ?_, stays b3 (fun _ _ z => by rw [b6] at z; cases z) (fun z => by rw [b6] at z; cases z), b4, b5, b6⟩
        · rw [z, g1] at b3
          have e' := Option.some.inj b3
          rw [← e', g2] at b6
          cases b6
        · rw [z, tp] at b3
          have e' := Option.some.inj b3
          rw [← e'] at b6
          cases b6
    obtain ⟨mc, c1, c2⟩ := nl
    have e0 : Env0 P w K mg (hidT s₁.heap H) callerA [] s₁ H :=
      { frames := rfl, mod := ⟨inK, nsK hns, ⟨mb, nsK hb, hbb⟩, ⟨mc, nsK c1, c2⟩⟩, bs := fun b o e => of_hidT e, bsz := Nat.le_of_eq (hidT_size _ _), funs := trivial, frf := fun b z => absurd z List.not_mem_nil, hok := hok, bare := .of_eq hg }
    refine codeAny_mono ((F _ inK (nsK hns) tb).run callerA rfl hr [] s₁ H e0 ⟨[.ref a], []⟩ [.ref a] (bind s₁ (.ref a)) [.ref a] (.cons rfl .nil) _ _ (hsp H hp hS)) fun r s' h => ?_
    rcases r with e | fl
    · exact False.elim h
    rcases fl with _ | _ | _ | u
    all_goals first
      | exact False.elim h
      | skip
    obtain ⟨v, H', os, bare, un, hok', r', q⟩ := h
    have q' : v = .bl true := q
    rw [q'] at r'
    have r2 : u = Value.bool true := r'
    have keep : ∀ b o, b ≠ p → s₁.heap.get? b = some o → s'.heap.get? b = some o := fun b o nb e => by
      rcases hO b nb with z | ⟨ob, xs, z⟩
      · exact un.keep b o e z List.not_mem_nil List.not_mem_nil
      · have z1 := (hok b _ z).1
        have z2 := (hok' b _ (un.frzs b ob _ z)).1
        rw [e] at z1
        cases z1
        exact z2
    have grown : ∃ more : Array Value, s'.heap.get? p = some { cls := .none, data := .fields more } := by
      obtain ⟨more, z⟩ := un.tbls p #[] hp
      exact ⟨_, hok' p _ z⟩
    refine ⟨by rw [r2], ⟨fun b o e => ?_, fun b o e => ?_⟩, os, bare⟩
    · by_cases hbp : b = p
      · obtain ⟨more, hm⟩ := grown
        subst hbp
        rw [tp] at e
        cases e
        exact .inr (.inl ⟨(cp.tab tp).isCodeTable, rfl, #[], more, rfl, by rw [Array.empty_append]; exact hm⟩)
      · exact .inl (keep b o hbp e)
    · by_cases hbp : b = p
      · obtain ⟨more, hm⟩ := grown
        rw [hbp]
        exact ⟨_, hm⟩
      · exact ⟨o, keep b o hbp e⟩
  cases hk : K.lookup a with
  | some o =>
    have e := KX a o hk
    rw [ha] at e
    cases e
    have at_ : ∀ {b : Addr} {u : HO}, upd (fun _ => none) p (.tbl #[]) b = some u → b = p ∧ u = .tbl #[] := fun {b u} z => by
      by_cases h : b = p
      · rw [h, upd_same] at z; exact ⟨h, (Option.some.inj z).symm⟩
      · rw [upd_ne h] at z; cases z
    refine core (upd (fun _ => none) p (.tbl #[])) ⟨upd_same, fun b n => .inl (upd_ne n), .inr ⟨_, vs.toArray, _, hk, rfl, rfl, rfl, by rw [List.size_toArray, lv]; exact hl, by simpa using rv⟩, fun b u z => ?_, fun b n z => absurd (upd_ne n) z, fun z => absurd (upd_ne ap) z⟩
    obtain ⟨rfl, rfl⟩ := at_ z
    exact tp
  | none =>
    have eA : upd (upd (fun _ => none) a (.frz { cls := .type "list", data := .seq vs.toArray } (.lst (ns.map V.int)))) p (.tbl #[]) a = some (.frz { cls := .type "list", data := .seq vs.toArray } (.lst (ns.map V.int))) := by
      rw [upd_ne ap, upd_same]
    refine core (upd (upd (fun _ => none) a (.frz { cls := .type "list", data := .seq vs.toArray } (.lst (ns.map V.int)))) p (.tbl #[])) ⟨upd_same, fun b n => ?_, .inl (.inr ⟨_, eA⟩), fun b u z => ?_, fun b n z => ?_, fun _ => hk⟩
    · rw [upd_ne n]
      by_cases h : b = a
      · rw [h, upd_same]; exact .inr ⟨_, _, rfl⟩
      · rw [upd_ne h]; exact .inl rfl
    · by_cases h : b = p
      · rw [h, upd_same] at z
        cases z
        rw [h]
        exact tp
      · rw [upd_ne h] at z
        by_cases h2 : b = a
        · rw [h2, upd_same] at z
          cases z
          rw [h2]
          exact ⟨ha, by rw [List.length_map]; exact hl, vs, _, rv, ha⟩
        · rw [upd_ne h2] at z
          cases z
    · rw [upd_ne n] at z
      by_cases h2 : b = a
      · exact h2
      · exact absurd (upd_ne h2) z
end
/-- the walk's goal from the promise of a law whose def makes code objects -/
theorem walk_ofT {l : PySem.W.OpenLaw} {n k : Nat} {q : Program} {loose : List Str} {XP : (Str → Option Value) → Heap → Prop} {YP : World → Heap → Prop} {d : DefRec} {K : Params → PySem.W.Frag} {p : Addr} {sp : World → Sp} {x : Str}
    (hn : l.most = some n) (hn2 : n ≤ sizeLine) (hdf : d.params.defaults = []) (hr : Room k callerA) (hY : ∀ (w : World) (h : Heap), YP w h → (K w.params).In h ∧ h.get? p = some (PySem.W.tabObj #[]))
    (F : ∀ (w : World) (mg : Str → Option Value) (fa : Addr) (h : Heap), (K w.params).In h → h.Ns mainGlobals mg → mg d.name = some (.ref fa) → ∃ (fd : FuncData) (c : Addr), (K w.params).lookup p = none ∧ PySem.W.CodeHd h c p ∧ (∀ (s : Shared) (u : Value), BindsTo s fd ⟨[u], []⟩ [(x, u)]) ∧
      ∀ base : Heap, (K w.params).In base → base.Ns mainGlobals mg → LamX.TabB base mg c p → FnG l.prog w (K w.params) mg base k fa fd [x] (sp w))
    (hsp : ∀ (w : World) (H : Hp) (a : Addr) (ns : List Int), ns.length ≤ n → H p = some (.tbl #[]) → SqL (K w.params) H a (ns.map V.int) → sp w [.ref a] H (fun v _ => v = .bl true) fun _ _ _ => False) :
    PySem.W.WalkO q loose XP YP l.row.toRowW d [] (fun f vs => PySem.call f vs) :=
  Att.attach_call hn hdf fun w s₀ s₁ mg mb fa o pm cd doc a vs ns G Y _ _ _ hmg ho hi hlen hg => by
    obtain ⟨KX, tp⟩ := hY w _ Y
    obtain ⟨fd, c, np, cp, b, hF⟩ := F w mg fa _ KX G.T.g hmg
    exact law_runT KX G.T.g G.T.b G.T.builtins G.T.nolimit hg tp np cp G.T.bmain ho hi (Nat.le_trans hlen hn2) hr hF b fun H hp hS => hsp w H a ns hlen hp hS
end My

namespace My
open PySem PySem.Spec PyProof.Rows L2
theorem get_idx {xs : List Str} {x : Str} : ∀ {i : Nat} {f : Nat → V}, xs.Nodup → xs[i]? = some x → valV (xs.mapIdx fun i x => ((Sum.inr x : Key), f i)) (Sum.inr x) = some (f i) := by
  induction xs with
  | nil => intro i f _ h; cases i <;> cases h
  | cons a r ih =>
    intro i f nd h
    rw [List.mapIdx_cons]
    cases i with
    | zero =>
      cases h
      exact valV_pos rfl
    | succ i =>
      have h' : r[i]? = some x := h
      have na : ¬ a = x := fun e => (List.nodup_cons.mp nd).1 (e ▸ List.mem_of_getElem? h')
      rw [valV_neg (fun z => na (Sum.inr.inj z))]
      exact ih (f := fun i => f (i + 1)) (List.nodup_cons.mp nd).2 h'
theorem get_kvN {xs : List Str} {x : Str} {i : Nat} (nd : xs.Nodup) (h : xs[i]? = some x) : valV (kvN xs) (Sum.inr x) = some (.int (i : Nat)) := get_idx (f := fun i => .int (i : Nat)) nd h
def spHas (C : Addr) : Sp := fun vs H Q _ => ∃ (x : Addr) (gs : List Str) (bs : List Br) (i : Nat) (b : Br), vs = [.ref x, .str b.1] ∧ BookH C H x gs bs ∧ bs[i]? = some b ∧ (bs.map (·.1)).Nodup ∧ Q (.bl true) H
def spNum (C : Addr) : Sp := fun vs H Q _ => ∃ (x : Addr) (gs : List Str) (bs : List Br) (i : Nat) (b : Br), vs = [.ref x, .str b.1] ∧ BookH C H x gs bs ∧ bs[i]? = some b ∧ (bs.map (·.1)).Nodup ∧ Q (.int (i : Nat)) H
def spRow (C : Addr) : Sp := fun vs H Q _ => ∃ (x : Addr) (gs : List Str) (bs : List Br) (i : Nat) (b : Br), vs = [.ref x, .str b.1] ∧ BookH C H x gs bs ∧ bs[i]? = some b ∧ (bs.map (·.1)).Nodup ∧ ∀ ra, H ra = some (.tup (rowV b.2)) → Q (.ref ra) H
def atDeed (C : Addr) (H : Hp) (vs : List V) (st : List Int) (b : Br) (w : Int) : Prop := ∃ (x a d : Addr) (gs : List Str) (bs : List Br) (i : Nat), vs = [.ref x, .ref a, .ref d] ∧ BookH C H x gs bs ∧ bs[i]? = some b ∧ (bs.map (·.1)).Nodup ∧ H a = some (.tup (rowV st)) ∧ H d = some (.tup [.str b.1, .int w]) ∧ st.length = b.2.length ∧ st.length ≤ 100 ∧ (w = 1 ∨ w = -1)
def spBehind (C : Addr) : Sp := fun vs H Q _ => ∃ (st : List Int) (b : Br) (w : Int), atDeed C H vs st b w ∧
  (enoughB (combR 1 st w b.2) = true → ∀ (p : Addr) (H' : Hp), Same H H' → H' p = some (.tup (rowV (combR 1 st w b.2))) → Q (.ref p) H') ∧ (enoughB (combR 1 st w b.2) = false → ∀ H', Same H H' → Q .non H')
def spDone (C : Addr) : Sp := fun vs H Q _ => ∃ (st : List Int) (b : Br) (w : Int), atDeed C H vs st b w ∧ enoughB (combR 1 st w b.2) = true ∧ ∀ (p : Addr) (H' : Hp), Same H H' → H' p = some (.tup (rowV (combR 1 st w b.2))) → Q (.ref p) H'
def spIsDeed (C : Addr) : Sp := fun vs H Q _ => ∃ (st : List Int) (b : Br) (w : Int), atDeed C H vs st b w ∧ ∀ H', Same H H' → Q (.bl (enoughB (combR 1 st w b.2))) H'
section
variable {P : Program} {w : World} {K : PySem.W.Frag} {mg : Str → Option Value} {base : Heap}
theorem ok_has (T : Tx K mg) : FnOk P w K mg base CX0 1 T.a_Book_has_barter T.fd_Book_has_barter ["self", "value"] (spHas T.C_Book) := by
  refine T.F_Book_has_barter.ok sc_Book_has_barter (fun vs H Q E h => ?_) (fun cdv A outer st H vs Q E hr h => ?_)
  · obtain ⟨x, gs, bs, i, b, rfl, _⟩ := h
    rfl
  obtain ⟨x, gs, bs, i, b, rfl, ⟨dx, tg, tb, dg, db, ps, h1, h2, h3, h4, h5, h6⟩, hbi, nd, k⟩ := h
  have hu := hu_of hr
  refine ⟨_, ((pss_one (ps_ret (pe_and (pe_callB (show CallR _ (.builtin "isinstance") (rIsi K) from call_isi) (by rfl) T.n_isinstance (by decide +kernel) (pa_cons (pv 1) (pa_cons (pe_bltn (v := .ty "str") (by rfl) T.n_str (by decide +kernel) rfl) pa_nil))) (pe_one (pe_cmp (pc_din hu (pv 1) (pe_fld (pv 0) rfl)) rfl)))))), ?_⟩
  refine ⟨_, rfl, .str b.1, .ty "str", .type "str", .type "str", _, rfl, .ty _, .base (.str _), kit_ty (r := true) (by decide +kernel), ?_⟩
  have g : DGet H db (.str b.1) (some (.int (i : Nat))) := by rw [← get_kvN nd (mapM hbi)]; exact DGet.k (k := Sum.inr b.1) h6
  exact ⟨_, rfl, iteT ⟨_, rfl, _, rfl, x, _, _, _, _, rfl, h1, T.cl_Book, T.na_Book_barter_numbers, rfl, db, _, rfl, g, k⟩⟩
theorem ok_number (T : Tx K mg) : FnOk P w K mg base CX0 2 T.a_Book_barter_number T.fd_Book_barter_number ["self", "name"] (spNum T.C_Book) := by
  refine T.F_Book_barter_number.ok sc_Book_barter_number (fun vs H Q E h => ?_) (fun cdv A outer st H vs Q E hr h => ?_)
  · obtain ⟨x, gs, bs, i, b, rfl, _⟩ := h
    rfl
  obtain ⟨x, gs, bs, i, b, rfl, hB, hbi, nd, k⟩ := h
  obtain ⟨dx, tg, tb, dg, db, ps, h1, h2, h3, h4, h5, h6⟩ := id hB
  have hu := hu_of hr
  have G_Book_has_barter : FnOk P w K mg base CX0 1 T.a_Book_has_barter T.fd_Book_has_barter ["self", "value"] (spHas T.C_Book) := ok_has T
  have hr_Book_has_barter : Room 1 _ := hr
  refine ⟨_, ((pss_cons (ps_if (pt_not (pt_val (pe_meth (pv 0) T.cl_Book T.me_Book_has_barter G_Book_has_barter hr_Book_has_barter T.b_Book_has_barter .nil pass0 (pa_cons (pv 1) pa_nil))))
        (pss_one (ps_never))
        pss_nil)
      (pss_one (ps_ret (pe_dget hu (pe_fld (pv 0) rfl) (pv 1) (fun _ _ => rfl)))))), ?_⟩
  have g : DGet H db (.str b.1) (some (.int (i : Nat))) := by rw [← get_kvN nd (mapM hbi)]; exact DGet.k (k := Sum.inr b.1) h6
  refine ⟨_, rfl, x, _, _, rfl, h1, rfl, _, rfl, x, gs, bs, i, b, rfl, hB, hbi, nd, _, rfl, iteF ?_⟩
  exact ⟨_, rfl, x, _, _, _, _, rfl, h1, T.cl_Book, T.na_Book_barter_numbers, rfl, _, rfl, db, _, rfl, g, k⟩
theorem ok_row (T : Tx K mg) : FnOk P w K mg base CX0 3 T.a_Book_row T.fd_Book_row ["self", "name"] (spRow T.C_Book) := by
  refine T.F_Book_row.ok sc_Book_row (fun vs H Q E h => ?_) (fun cdv A outer st H vs Q E hr h => ?_)
  · obtain ⟨x, gs, bs, i, b, rfl, _⟩ := h
    rfl
  obtain ⟨x, gs, bs, i, b, rfl, hB, hbi, nd, k⟩ := h
  obtain ⟨dx, tg, tb, dg, db, ps, h1, h2, h3, h4, h5, h6⟩ := id hB
  have G_Book_barter_number : FnOk P w K mg base CX0 2 T.a_Book_barter_number T.fd_Book_barter_number ["self", "name"] (spNum T.C_Book) := ok_number T
  have hr_Book_barter_number : Room 2 _ := hr
  refine ⟨_, ((pss_one (ps_ret (pe_ix (show IxR _ (rIxT K) from ix_tup) (pe_ix (show IxR _ (rIxT K) from ix_tup) (pe_fld (pv 0) rfl) (pe_meth (pv 0) T.cl_Book T.me_Book_barter_number G_Book_barter_number hr_Book_barter_number T.b_Book_barter_number .nil pass0 (pa_cons (pv 1) pa_nil)) (fun _ _ => rfl)) pe_int (fun _ _ => rfl))))), ?_⟩
  obtain ⟨p, hp⟩ : ∃ p, ps[i]? = some p := ⟨_, List.getElem?_eq_getElem (by rw [h4.1]; exact (List.getElem?_eq_some_iff.mp hbi).1)⟩
  obtain ⟨ra, e1, e2⟩ := h4.2 i p b hp hbi
  exact ⟨_, rfl, x, _, _, _, _, rfl, h1, T.cl_Book, T.na_Book_barters, rfl, _, rfl, x, _, _, rfl, h1, rfl, _, rfl, x, gs, bs, i, b, rfl, hB, hbi, nd, tb, _, _, _, rfl, rfl, SqT.of h3, atI_nat (mapM hp), p, _, _, _, rfl, rfl, SqT.of e1, atI_nat (j := 1) rfl, k ra e2⟩
end
end My

namespace My
open PySem PySem.Spec PyProof.Rows L2
/-! ### min of a tuple of ints -/
theorem min_intTup {prog : Program} {w : World} {A : Around} {E : Value → Shared → Prop} {s : Shared} {l : Addr} {xs : Array (Int × Tok)} {Q : Value → Shared → Prop} (hh : A.handled = none) (hl : s.heap.IsTuple l (intItems xs)) (hne : 0 < xs.size)
    (h : ∀ (v : Value) (h' : Heap) (tk : Nat), (intItems xs)[argBest (fun i j => decide (numAt xs i < numAt xs j)) (xs.size - 1)]? = some v → (∀ (b : Addr) (o : Obj), s.heap.get? b = some o → h'.get? b = some o) → Q v { heap := h', gens := s.gens, drawn := s.drawn, toks := tk, os := s.os }) :
    wpAny (model prog w) A (call (.builtin "min") [.ref l]) Q E s := by
  obtain ⟨o, B, st⟩ := beginK true l (intItems xs)
  have la : l < s.heap.objs.size := by
    obtain ⟨o', e, _⟩ := id hl
    exact Heap.lt_size e
  refine call_min_walk (B.iter prog w A.in1 E s _ hl ?_)
  have e0 : (s.heap.push o).get? s.heap.objs.size = some o := Heap.get?_push_size _ B.free
  refine ⟨s.heap.objs.size, [s.heap.objs.size, l], [s.heap.objs.size], (intItems xs).size, fun i v => (intItems xs)[i]? = some v, fun i h => h.IsTupleIter s.heap.objs.size l i ∧ h.IsTuple l (intItems xs), fun i j => decide (numAt xs i < numAt xs j), rfl,
    Walks.tuple (A := A.in1) hh s.heap.objs.size l (Nat.ne_of_lt la) (intItems xs), ⟨st _ _ e0, B.keeps _ _ hl fun b u e => Heap.get?_push_of_some _ e⟩, fun b hb => ?_, ?_, CmpOf.ints_lt (numAt xs) fun _ _ => intItems_at, fun v h' tk hP hk => h v h' tk ?_ fun b u e => hk b u (fun z => ?_) (Heap.get?_push_of_some _ e)⟩
  · have sz : (s.heap.push o).objs.size = s.heap.objs.size + 1 := Heap.size_push ..
    show b < (s.heap.push o).objs.size
    rw [sz]
    simp only [List.mem_cons, List.not_mem_nil, or_false] at hb
    rcases hb with rfl | rfl
    · exact Nat.lt_succ_self _
    · exact Nat.lt_succ_of_lt la
  · unfold intItems; rw [Array.size_map]; exact hne
  · have e : (intItems xs).size = xs.size := by unfold intItems; rw [Array.size_map]
    rw [e] at hP
    exact hP
  · rw [List.mem_singleton.mp z] at e
    exact Nat.lt_irrefl _ (Heap.lt_size e)
theorem min_rawT {prog : Program} {w : World} {A : Around} {E : Value → Shared → Prop} {s : Shared} {l : Addr} {its : List Value} {ns : List Int} {Q : Value → Shared → Prop} (hh : A.handled = none) (hl : s.heap.IsTuple l its.toArray) (hi : IntsAre its ns) (hne : 0 < ns.length)
    (h : ∀ (h' : Heap) (tk : Nat) (M : Int) (t' : Tok), (∀ (b : Addr) (o : Obj), s.heap.get? b = some o → h'.get? b = some o) → M ∈ ns → (∀ a, a ∈ ns → M ≤ a) → Q (.int M t') { heap := h', gens := s.gens, drawn := s.drawn, toks := tk, os := s.os }) :
    wpAny (model prog w) A (call (.builtin "min") [.ref l]) Q E s := by
  obtain ⟨xs, e⟩ := AllInts.items (IntsAre.allInts hi)
  have hn : numsOf (intItems xs).toList = ns := by rw [← e]; exact IntsAre.numsOf hi
  rw [nums_intItems] at hn
  subst hn
  have hsz : 0 < xs.size := by rw [List.length_map] at hne; simpa using hne
  rw [e] at hl
  refine min_intTup hh hl hsz fun v h' tk hv hk => ?_
  obtain ⟨t, rfl⟩ := intItems_at hv
  obtain ⟨h1, h2⟩ := argBest_lt (numAt xs) (xs.size - 1)
  refine h h' tk _ t hk ?_ fun a ha => ?_
  · rw [numAt_eq]
    exact getD_mem (by rw [List.length_map, Array.length_toList]; omega)
  · obtain ⟨j, hj, rfl⟩ := mem_getD ha
    rw [← numAt_eq]
    exact h2 j (by rw [List.length_map, Array.length_toList] at hj; omega)
def rMinT (K : PySem.W.Frag) : List V → Hp → VK → Prop := fun vs H Q => ∃ (a : Addr) (ns : List Int), vs = [.ref a] ∧ SqT K H a (ns.map V.int) ∧ 0 < ns.length ∧ ∀ m, m ∈ ns → (∀ y, y ∈ ns → m ≤ y) → Q (.int m) H
theorem cr_minT {X : Cx} (hc : X.calm = true) : CallR X (.builtin "min") (rMinT X.K) := by
  intro pins s σ H vs us Q I r h
  obtain ⟨a, ns, rfl, hs, hne, q⟩ := h
  obtain ⟨its, rv, hl, _⟩ := I.tuple hs
  rw [Vals.ref1 r]
  exact min_rawT (I.ok.hd hc) hl (Vals.ints rv) hne fun h' tk m t' hk h1 h2 => ⟨.int m, H, I.kept hk, ⟨t', rfl⟩, q m h1 h2⟩
end My

namespace My
open PySem PySem.Spec PyProof.Rows L2
theorem due_mem2 {st : List Int} {bs : List Br} {q : Dd} (h : q ∈ dueL st bs) : ∃ (i : Nat) (b : Br) (wy : Int), bs[i]? = some b ∧ q = (b.1, wy) ∧ (wy = 1 ∨ wy = -1) ∧ enoughB (combR 1 st wy b.2) = true := by
  obtain ⟨b, hb, h⟩ := List.mem_flatMap.mp h
  obtain ⟨wy, hw, rfl⟩ := List.mem_map.mp h
  obtain ⟨i, hi, e⟩ := List.getElem_of_mem hb
  have q := List.mem_filter.mp hw
  exact ⟨i, b, wy, by rw [List.getElem?_eq_getElem hi, e], rfl, by simpa using q.1, q.2⟩
theorem due_has {st : List Int} {bs : List Br} {b : Br} {wy : Int} (hb : b ∈ bs) (hw : wy = 1 ∨ wy = -1) (h : enoughB (combR 1 st wy b.2) = true) : (b.1, wy) ∈ dueL st bs :=
  List.mem_flatMap.mpr ⟨b, hb, List.mem_map.mpr ⟨wy, List.mem_filter.mpr ⟨by rcases hw with rfl | rfl <;> simp, h⟩, rfl⟩⟩
/-- all barters both ways -/
def dueP (bs : List Br) : List (Br × Int) := bs.flatMap fun b => [(b, 1), (b, -1)]
def okP (st : List Int) (z : Br × Int) : Bool := enoughB (combR 1 st z.2 z.1.2)
def ddP (z : Br × Int) : Dd := (z.1.1, z.2)
theorem dueL_P (st : List Int) (bs : List Br) : dueL st bs = ((dueP bs).filter (okP st)).map ddP := by
  unfold dueL dueP
  induction bs with
  | nil => rfl
  | cons b r ih =>
    rw [List.flatMap_cons, List.flatMap_cons, List.filter_append, List.map_append, ih]
    congr 1
    unfold dueW
    rw [List.filter_cons, List.filter_cons, List.filter_nil, List.filter_cons, List.filter_cons, List.filter_nil]
    show _ = List.map ddP (if okP st (b, 1) = true then (b, 1) :: (if okP st (b, -1) = true then [(b, -1)] else []) else (if okP st (b, -1) = true then [(b, -1)] else []))
    have e1 : okP st (b, 1) = enoughB (combR 1 st 1 b.2) := rfl
    have e2 : okP st (b, -1) = enoughB (combR 1 st (-1) b.2) := rfl
    rw [e1, e2]
    cases enoughB (combR 1 st 1 b.2) <;> cases enoughB (combR 1 st (-1) b.2) <;> rfl
theorem dueP_len (bs : List Br) : (dueP bs).length = 2 * bs.length := by
  unfold dueP
  induction bs with
  | nil => rfl
  | cons b r ih => rw [List.flatMap_cons, List.length_append, ih]; show 2 + 2 * r.length = 2 * (r.length + 1); omega
theorem dueP_snoc (bs : List Br) (b : Br) : dueP (bs ++ [b]) = dueP bs ++ [(b, 1), (b, -1)] := by
  unfold dueP
  rw [List.flatMap_append, List.flatMap_cons, List.flatMap_nil, List.append_nil]
theorem dueP_mem {bs : List Br} {z : Br × Int} (h : z ∈ dueP bs) : z.1 ∈ bs ∧ (z.2 = 1 ∨ z.2 = -1) := by
  obtain ⟨b, hb, h⟩ := List.mem_flatMap.mp h
  simp only [List.mem_cons, List.not_mem_nil, or_false] at h
  rcases h with rfl | rfl
  · exact ⟨hb, .inl rfl⟩
  · exact ⟨hb, .inr rfl⟩
/-- the parts of a world that this law reads -/
structure WldR (H : Hp) (wd l : Addr) (ps : List Addr) (n : Nat) (bs : List Br) : Prop where
  hw : ∃ g x ex, H wd = some (.dK (wldD g l x ++ ex))
  hl : H l = some (.lst (ps.map V.ref))
  hb : BrsAt H ps bs
  nd : (bs.map (·.1)).Nodup
  len : ∀ b ∈ bs, b.2.length = n ∧ mixedB b.2 = true
  bl : bs.length ≤ 100
def spTurned : Sp := fun vs H Q _ => ∃ (d : Addr) (n : Str) (wy : Int), vs = [.ref d] ∧ H d = some (.tup [.str n, .int wy]) ∧ ∀ (p : Addr) (H' : Hp), Same H H' → H' p = some (.tup [.str n, .int (-wy)]) → Q (.ref p) H'
def spBackD (C : Addr) : Sp := fun vs H Q _ => ∃ (st : List Int) (b : Br) (w : Int), atDeed C H vs st b w ∧ enoughB (combR 1 st w b.2) = true ∧ ∀ (p : Addr) (H' : Hp), Same H H' → H' p = some (.tup [.str b.1, .int (-w)]) → Q (.ref p) H'
def spPlus : Sp := fun vs H Q _ => ∃ (a b : Addr) (st r : List Int) (wy : Int), vs = [.ref a, .ref b, .int wy] ∧ H a = some (.tup (rowV st)) ∧ H b = some (.tup (rowV r)) ∧ st.length = r.length ∧ st.length ≤ 100 ∧ (wy = 1 ∨ wy = -1) ∧ ∀ (p : Addr) (H' : Hp), Same H H' → H' p = some (.tup (rowV (combR 1 st wy r))) → Q (.ref p) H'
def spLRow : Sp := fun vs H Q _ => ∃ (wd l : Addr) (ps : List Addr) (n : Nat) (bs : List Br) (i : Nat) (b : Br), vs = [.ref wd, .str b.1] ∧ WldR H wd l ps n bs ∧ bs[i]? = some b ∧ ∀ (ra : Addr) (H' : Hp), Same H H' → H' ra = some (.tup (rowV b.2)) → Q (.ref ra) H'
def spLDone : Sp := fun vs H Q _ => ∃ (wd a d l : Addr) (ps : List Addr) (n : Nat) (bs : List Br) (i : Nat) (b : Br) (st : List Int) (wy : Int), vs = [.ref wd, .ref a, .ref d] ∧ WldR H wd l ps n bs ∧ bs[i]? = some b ∧ H a = some (.tup (rowV st)) ∧ st.length = n ∧ n ≤ 100 ∧ H d = some (.tup [.str b.1, .int wy]) ∧ (wy = 1 ∨ wy = -1) ∧
  ∀ (v : V) (H' : Hp), Same H H' → decide (v = .non) = !enoughB (combR 1 st wy b.2) → (enoughB (combR 1 st wy b.2) = true → ∃ p, v = .ref p ∧ H' p = some (.tup (rowV (combR 1 st wy b.2)))) → Q v H'
def spLDeeds : Sp := fun vs H Q _ => ∃ (wd a l : Addr) (ps : List Addr) (n : Nat) (bs : List Br) (st : List Int), vs = [.ref wd, .ref a] ∧ WldR H wd l ps n bs ∧ H a = some (.tup (rowV st)) ∧ st.length = n ∧ n ≤ 100 ∧
  ∀ (D : Addr) (ds : List Addr) (H' : Hp), Same H H' → H D = none → H' D = some (.lst (ds.map V.ref)) → AllAt (DeedAt H') ds (dueL st bs) → Q (.ref D) H'
theorem WldR.at_ {H : Hp} {wd l : Addr} {ps : List Addr} {n : Nat} {bs : List Br} (h : WldR H wd l ps n bs) : DGet H wd (.str "barters") (some (.ref l)) := by
  obtain ⟨g, x, ex, e⟩ := h.hw
  rw [← w_barters g l x ex]
  exact DGet.k (k := Sum.inr "barters") e
theorem WldR.same {H H' : Hp} {wd l : Addr} {ps : List Addr} {n : Nat} {bs : List Br} (h : WldR H wd l ps n bs) (e : Same H H') : WldR H' wd l ps n bs := by
  obtain ⟨g, x, ex, q⟩ := h.hw
  exact ⟨⟨g, x, ex, e _ _ q⟩, e _ _ h.hl, h.hb.same e, h.nd, h.len, h.bl⟩
theorem min_enough {r : List Int} {m : Int} (hm : m ∈ r) (least : ∀ y ∈ r, m ≤ y) : decide (m ≥ 0) = enoughB r := by
  unfold enoughB
  cases h : r.all fun x => decide (0 ≤ x) with
  | true => exact decide_eq_true (of_decide_eq_true ((List.all_eq_true.mp h) m hm))
  | false =>
    refine decide_eq_false fun z => ?_
    have : r.all (fun x => decide (0 ≤ x)) = true := List.all_eq_true.mpr fun y hy => decide_eq_true (Int.le_trans z (least y hy))
    rw [this] at h
    cases h
section
variable {P : Program} {w : World} {K : PySem.W.Frag} {mg : Str → Option Value} {base : Heap}
theorem ok_turned (T : Tx K mg) : FnOk P w K mg base CX0 1 T.a_turned_deed T.fd_turned_deed ["deed"] spTurned := by
  refine T.F_turned_deed.ok sc_turned_deed (fun vs H Q E h => ?_) (fun cdv A outer st H vs Q E hr h => ?_)
  · obtain ⟨d, n, wy, rfl, _⟩ := h
    rfl
  obtain ⟨d, n, wy, rfl, hd, k⟩ := h
  refine ⟨_, ((pss_cons (ps_asg (pv 0) (pg_tup rfl (pgs_cons (pg_name (i := 1) sc_turned_deed.nd rfl (Or.inl rfl)) (pgs_cons (pg_name (i := 2) sc_turned_deed.nd rfl (Or.inl rfl)) pgs_nil))))
      (pss_one (ps_ret (pe_tup (pa_cons (pv 1) (pa_cons (pe_un un_neg (pv 2)) pa_nil))))))), ?_⟩
  exact ⟨_, rfl, d, _, rfl, SqT.of hd, rfl, _, _, rfl, _, _, rfl, rfl, _, rfl, _, rfl, _, rfl, (by show 2 ≤ sizeLine; decide), fun p hp => k p _ (same_new hp _) upd_same⟩
theorem ok_plus (T : Tx K mg) : FnOk P w K mg base CX0 1 T.a_law_plus T.fd_law_plus ["_law_stock_here", "_law_row_here", "_law_times"] spPlus := by
  refine T.F_law_plus.ok sc_law_plus (fun vs H Q E h => ?_) (fun cdv A outer st H vs Q E hr h => ?_)
  · obtain ⟨a, b, stk, r, wy, rfl, _⟩ := h
    rfl
  obtain ⟨a, b, stk, r, wy, rfl, ha, hb, hl, sl, hw, k⟩ := h
  refine ⟨_, ((pss_one (ps_ret (pe_callTy call_tuple_of (by rfl) T.n_tuple (by decide +kernel) (pa_cons (pe_lc (own := [("_law_k", 3)]) (by rfl) sc_law_plus.nd (pi_range1 rfl T.n_range (pa_cons (pe_callB call_len_seq (by rfl) T.n_len (by decide +kernel) (pa_cons (pv 0) pa_nil)) pa_nil)) (blkOk_by (own := [("_law_k", 3)]) (N := ["_law_stock_here", "_law_row_here", "_law_times", "_law_k"]) (sc := defScope s_law_plus) (by decide +kernel)) (fun _ _ _ _ _ => pg_name (i := 3) sc_law_plus.nd rfl (Or.inl rfl)) (fun _ _ _ _ _ => pts_nil) (fun _ _ _ _ _ => (pe_op op_add (pe_ix (show IxR _ (rIxT K) from ix_tup) (pv 0) (pv 3) (fun _ _ => rfl)) (pe_op op_mul (pv 2) (pe_ix (show IxR _ (rIxT K) from ix_tup) (pv 1) (pv 3) (fun _ _ => rfl)))))) pa_nil))))), ?_⟩
  refine ⟨_, rfl, a, _, rfl, .inr (SqT.of ha), _, rfl, by rw [List.length_map]; omega, by rw [List.length_map]; omega, fun D hD => ?_⟩
  rw [List.length_map, Int.toNat_natCast]
  have lC : (combR 1 stk wy r).length = stk.length := by unfold combR; rw [List.length_zipWith]; omega
  refine lc_range (lo := 0) (n := stk.length) (Lc H D (rowV (combR 1 stk wy r))) (Lc.zero hD) (fun kk N hk z => ?_) (fun N z => ?_)
  · obtain ⟨x0, hx0⟩ : ∃ x0, stk[kk]? = some x0 := ⟨_, List.getElem?_eq_getElem hk⟩
    obtain ⟨y0, hy0⟩ : ∃ y0, r[kk]? = some y0 := ⟨_, List.getElem?_eq_getElem (by omega)⟩
    have cg : (combR 1 stk wy r)[kk]? = some (x0 + wy * y0) := by
      unfold combR
      rw [List.getElem?_zipWith, hx0, hy0]
      show some (1 * x0 + wy * y0) = _
      rw [Int.one_mul]
    refine ⟨rfl, _, rfl, _, rfl, a, _, _, _, rfl, rfl, SqT.of (z.1 _ _ ha), (by rw [Int.zero_add]; exact atI_nat (mapM hx0)), _, rfl, _, rfl, _, rfl, b, _, _, _, rfl, rfl, SqT.of (z.1 _ _ hb), (by rw [Int.zero_add]; exact atI_nat (mapM hy0)), _, _, rfl, rfl, .inl (by rcases hw with rfl | rfl <;> decide), _, _, rfl, rfl, ?_⟩
    exact Lc.lay hD z (mapM cg) (by rw [List.length_map]; omega)
  have ⟨sQ, eQ⟩ := z.all (by rw [List.length_map]; omega)
  exact ⟨D, _, rfl, .inl ⟨SqL.of eQ, fun p hp => k p _ (sQ.trans (same_new hp _)) upd_same⟩⟩
theorem ok_lrow (T : Tx K mg) : FnOk P w K mg base CX0 1 T.a_law_row T.fd_law_row ["_law_world", "_law_name"] spLRow := by
  refine T.F_law_row.ok sc_law_row (fun vs H Q E h => ?_) (fun cdv A outer st H vs Q E hr h => ?_)
  · obtain ⟨wd, l, ps, n, bs, i, b, rfl, _⟩ := h
    rfl
  obtain ⟨wd, l, ps, n, bs, i, b, rfl, W, hbi, k⟩ := h
  have hu := hu_of hr
  refine ⟨_, ((pss_one (ps_ret (pe_ix (show IxR _ (rIxL K) from ix_list) (pe_lc (own := [("_law_one", 2), ("_law_row_here", 3)]) (by rfl) sc_law_row.nd (pi_list (pe_dget hu (pv 0) pe_str (fun _ _ => rfl))) (blkOk_by (own := [("_law_one", 2), ("_law_row_here", 3)]) (N := ["_law_world", "_law_name", "_law_one", "_law_row_here"]) (sc := defScope s_law_row) (by decide +kernel)) (fun _ _ _ _ _ => show PG _ _ (gTup K 2 (gCons (gName 2) (gCons (gName 3) gNil))) from (pg_tup rfl (pgs_cons (pg_name (i := 2) sc_law_row.nd rfl (Or.inl rfl)) (pgs_cons (pg_name (i := 3) sc_law_row.nd rfl (Or.inl rfl)) pgs_nil)))) (fun _ _ _ _ _ => (pts_one (pt_cmpR op_eq (pv 2) (pv 1) (nomark _)))) (fun _ _ _ _ _ => (pv 3))) pe_int (fun _ _ => rfl))))), ?_⟩
  obtain ⟨p0, hp0⟩ : ∃ p, ps[i]? = some p := ⟨_, List.getElem?_eq_getElem (by rw [W.hb.1]; exact (List.getElem?_eq_some_iff.mp hbi).1)⟩
  obtain ⟨r0, f1, f2⟩ := W.hb.2 i p0 b hp0 hbi
  refine ⟨_, rfl, wd, _, rfl, W.at_, l, rfl, ⟨_, SqL.of W.hl⟩, fun D hD => ?_⟩
  refine lc_list (xs := ps.map V.ref) (fun j M => Same H M ∧ M D = some (.lst (if i < j then [.ref r0] else []))) ⟨same_new hD _, upd_same⟩ (fun j M _ z => SqL.of (z.1 _ _ W.hl)) (fun j y M hy z => ?_) (fun M z => ?_)
  · obtain ⟨p, hp, rfl⟩ := getM hy
    obtain ⟨b', hbj, ra, e1, e2⟩ := W.hb.get hp
    obtain ⟨sM, eM⟩ := z
    refine ⟨p, _, rfl, SqT.of (sM _ _ e1), rfl, _, _, rfl, _, _, rfl, rfl, rfl, ?_⟩
    refine ⟨_, rfl, _, rfl, rfl, _, rfl, iteD (fun h => ?_) (fun h => ?_)⟩
    · have en : b'.1 = b.1 := V.str.inj h
      have eij : j = i := by
        have q1 : (bs.map (·.1))[j]? = some b'.1 := mapM hbj
        have q2 : (bs.map (·.1))[i]? = some b.1 := mapM hbi
        obtain ⟨lj, g1⟩ := List.getElem?_eq_some_iff.mp q1
        obtain ⟨li, g2⟩ := List.getElem?_eq_some_iff.mp q2
        exact (List.getElem_inj W.nd).mp (g1.trans (en.trans g2.symm))
      subst eij
      rw [hbi] at hbj
      cases hbj
      rw [hp0] at hp
      cases hp
      rw [f1] at e1
      cases e1
      rw [if_neg (Nat.lt_irrefl j)] at eM
      exact ⟨_, rfl, _, eM, by show 0 < sizeLine; decide, same_put hD sM, by rw [upd_same, if_pos (Nat.lt_succ_self j)]; rfl⟩
    · have nij : j ≠ i := fun e => by
        subst e
        rw [hbi] at hbj
        cases hbj
        exact h rfl
      refine ⟨sM, ?_⟩
      rw [eM]
      by_cases c : i < j
      · rw [if_pos c, if_pos (by omega)]
      · rw [if_neg c, if_neg (by omega)]
  · obtain ⟨sM, eM⟩ := z
    have il : i < (ps.map V.ref).length := by rw [List.length_map]; exact (List.getElem?_eq_some_iff.mp hp0).1
    rw [if_pos il] at eM
    exact ⟨D, _, _, _, rfl, rfl, SqL.of eM, atI_nat (j := 0) rfl, k r0 M sM (sM _ _ f2)⟩
theorem ok_ldone (T : Tx K mg) : FnOk P w K mg base CX0 2 T.a_law_done T.fd_law_done ["_law_world", "_law_stock_here", "_law_deed"] spLDone := by
  refine T.F_law_done.ok sc_law_done (fun vs H Q E h => ?_) (fun cdv A outer st H vs Q E hr h => ?_)
  · obtain ⟨wd, a, d, l, ps, n, bs, i, b, stk, wy, rfl, _⟩ := h
    rfl
  obtain ⟨wd, a, d, l, ps, n, bs, i, b, stk, wy, rfl, W, hbi, ha, ln, n100, hd, hw, k⟩ := h
  have G_law_plus : FnOk P w K mg base CX0 1 T.a_law_plus T.fd_law_plus ["_law_stock_here", "_law_row_here", "_law_times"] spPlus := ok_plus T
  have hr_law_plus : Room 1 _ := hr
  have G_law_row : FnOk P w K mg base CX0 1 T.a_law_row T.fd_law_row ["_law_world", "_law_name"] spLRow := ok_lrow T
  have hr_law_row : Room 1 _ := hr
  refine ⟨_, ((pss_cons (ps_set (i := 3) sc_law_done.nd rfl (Or.inl rfl) (pe_call G_law_plus hr_law_plus rfl T.m_law_plus T.F_law_plus.kp T.b_law_plus .nil pass0 (pa_cons (pv 1) (pa_cons (pe_call G_law_row hr_law_row rfl T.m_law_row T.F_law_row.kp T.b_law_row .nil pass0 (pa_cons (pv 0) (pa_cons (pe_ix (show IxR _ (rIxT K) from ix_tup) (pv 2) pe_int (fun _ _ => rfl)) pa_nil))) (pa_cons (pe_ix (show IxR _ (rIxT K) from ix_tup) (pv 2) pe_int (fun _ _ => rfl)) pa_nil)))))
      (pss_one (ps_ret (pe_ifExp (pt_cmpR op_ge (pe_callB (cr_minT rfl) (by rfl) T.n_min (by decide +kernel) (pa_cons (pv 3) pa_nil)) pe_int (nomark _)) (pv 3) pe_non))))), ?_⟩
  have lb := W.len b (List.mem_of_getElem? hbi)
  refine ⟨_, rfl, _, rfl, _, rfl, d, _, _, _, rfl, rfl, SqT.of hd, atI_nat (j := 0) rfl, wd, l, ps, n, bs, i, b, rfl, W, hbi, fun ra M s0 era => ?_⟩
  refine ⟨_, rfl, d, _, _, _, rfl, rfl, SqT.of (s0 _ _ hd), atI_nat (j := 1) rfl, a, ra, stk, b.2, wy, rfl, s0 _ _ ha, era, by omega, by omega, hw, fun p M2 s2 ep => ?_⟩
  have lC : (combR 1 stk wy b.2).length = stk.length := by unfold combR; rw [List.length_zipWith]; omega
  have pos : 0 < (combR 1 stk wy b.2).length := by
    rw [lC]
    have m := lb.2
    unfold mixedB at m
    rw [Bool.and_eq_true, List.any_eq_true] at m
    obtain ⟨⟨z, hz, _⟩, _⟩ := m
    have := List.length_pos_of_mem hz
    omega
  refine ⟨_, rfl, p, _, rfl, SqT.of ep, pos, fun m hm least => ⟨_, _, rfl, rfl, _, rfl, ?_⟩⟩
  have me := min_enough hm least
  rw [me]
  cases hen : enoughB (combR 1 stk wy b.2) with
  | true => exact iteT ⟨_, rfl, k _ M2 (s0.trans s2) (by rw [hen]; rfl) (fun _ => ⟨p, rfl, ep⟩)⟩
  | false => exact iteF (k _ M2 (s0.trans s2) (by rw [hen]; rfl) (fun h => by rw [hen] at h; cases h))
theorem ok_ldeeds (T : Tx K mg) : FnOk P w K mg base CX0 3 T.a_law_deeds T.fd_law_deeds ["_law_world", "_law_stock_here"] spLDeeds := by
  refine T.F_law_deeds.ok sc_law_deeds (fun vs H Q E h => ?_) (fun cdv A outer st H vs Q E hr h => ?_)
  · obtain ⟨wd, a, l, ps, n, bs, stk, rfl, _⟩ := h
    rfl
  obtain ⟨wd, a, l, ps, n, bs, stk, rfl, W, ha, ln, n100, k⟩ := h
  have hu := hu_of hr
  have G_law_done : FnOk P w K mg base CX0 2 T.a_law_done T.fd_law_done ["_law_world", "_law_stock_here", "_law_deed"] spLDone := ok_ldone T
  have hr_law_done : Room 2 _ := hr
  refine ⟨_, ((pss_cons (ps_set (i := 2) sc_law_deeds.nd rfl (Or.inl rfl) (pe_lst pa_nil))
      (pss_cons (ps_for PassesOwn.never rfl (pi_list (pe_dget hu (pv 0) pe_str (fun _ _ => rfl))) (pg_tup rfl (pgs_cons (pg_name (i := 3) sc_law_deeds.nd rfl (Or.inl rfl)) (pgs_cons (pg_name (i := 4) sc_law_deeds.nd rfl (Or.inl rfl)) pgs_nil)))
        (pss_one (ps_set (i := 2) sc_law_deeds.nd rfl (Or.inl rfl) (pe_op op_cat (pv 2) (pe_lst (pa_cons (pe_tup (pa_cons (pv 3) (pa_cons pe_int pa_nil))) (pa_cons (pe_tup (pa_cons (pv 3) (pa_cons (pe_un un_neg pe_int) pa_nil))) pa_nil)))))))
      (pss_one (ps_ret (pe_lc (own := [("_law_deed", 5)]) (by rfl) sc_law_deeds.nd (pi_list (pv 2)) (blkOk_by (own := [("_law_deed", 5)]) (N := ["_law_world", "_law_stock_here", "_law_some", "_law_name", "_law_row_here", "_law_deed"]) (sc := defScope s_law_deeds) (by decide +kernel)) (fun _ _ _ _ _ => pg_name (i := 5) sc_law_deeds.nd rfl (Or.inl rfl)) (fun _ _ _ _ _ => (pts_one (pt_cmpR op_notN (pe_call G_law_done hr_law_done rfl T.m_law_done T.F_law_done.kp T.b_law_done .nil pass0 (pa_cons (pv 0) (pa_cons (pv 1) (pa_cons (pv 5) pa_nil)))) pe_non (nomark _)))) (fun _ _ _ _ _ => (pv 5)))))))), ?_⟩
  refine ⟨Nat.zero_le _, fun D0 hD0 => ?_⟩
  have s0 := same_new hD0 (.lst [])
  have e0 := upd_same (H := H) (a := D0) (o := .lst [])
  generalize L2.upd H D0 (.lst []) = H0 at s0 e0 ⊢
  refine ⟨_, rfl, wd, _, rfl, (W.same s0).at_, l, rfl, ⟨_, SqL.of (s0 _ _ W.hl)⟩, for_list (K := K) (a := l) (xs := ps.map V.ref) (fun i2 σ M => ∃ (v3 v4 : Option V) (D : Addr) (ds : List Addr), σ = [some (.ref wd), some (.ref a), some (.ref D), v3, v4, none] ∧ Same H M ∧ M D = some (.lst (ds.map V.ref)) ∧ AllAt (DeedAt M) ds ((dueP (bs.take i2)).map ddP))
    ⟨none, none, D0, [], rfl, s0, e0, AllAt.nil⟩ (fun i2 σ M _ ⟨_, _, _, _, _, z, _⟩ => SqL.of (z _ _ W.hl)) (fun i2 y σ M hy z => ?_) (fun σ M z => ?_)⟩
  · obtain ⟨v3, v4, D, ds, rfl, sM, eD, aM⟩ := z
    obtain ⟨p, hp, rfl⟩ := getM hy
    obtain ⟨b, hbi, ra, e1, e2⟩ := (W.hb.same sM).get hp
    refine ⟨p, _, rfl, SqT.of e1, rfl, _, _, rfl, _, _, rfl, rfl, ?_⟩
    refine ⟨_, rfl, _, rfl, (by show 2 ≤ sizeLine; decide), fun d1 hd1 => ⟨_, rfl, 1, rfl, (by show 2 ≤ sizeLine; decide), fun d2 hd2 => ⟨(by show 2 ≤ sizeLine; decide), fun L hL => ?_⟩⟩⟩
    have t1 := same_new hd1 (.tup [.str b.1, .int 1])
    have t2 := same_new hd2 (.tup [.str b.1, .int (-1)])
    have t3 := same_new hL (.lst [.ref d1, .ref d2])
    have t := t1.trans (t2.trans t3)
    have q1 := t3 _ _ (t2 _ _ (upd_same (H := M) (a := d1) (o := .tup [.str b.1, .int 1])))
    have q2 := t3 _ _ (upd_same (H := L2.upd M d1 (.tup [.str b.1, .int 1])) (a := d2) (o := .tup [.str b.1, .int (-1)]))
    have qL := upd_same (H := L2.upd (L2.upd M d1 (.tup [.str b.1, .int 1])) d2 (.tup [.str b.1, .int (-1)])) (a := L) (o := .lst [.ref d1, .ref d2])
    generalize L2.upd (L2.upd (L2.upd M d1 (.tup [.str b.1, .int 1])) d2 (.tup [.str b.1, .int (-1)])) L (.lst [.ref d1, .ref d2]) = M2 at t q1 q2 qL ⊢
    have lds : ds.length ≤ 2 * bs.length := by rw [aM.1, List.length_map, dueP_len, List.length_take]; omega
    have bl := W.bl
    refine ⟨D, L, _, _, rfl, rfl, t _ _ eD, qL, ?_, fun D2 hD2 => ?_⟩
    · rw [List.length_map]; exact small (by show ds.length + 2 ≤ 1000; omega)
    have t4 := same_new hD2 (.lst (ds.map V.ref ++ [.ref d1, .ref d2]))
    refine ⟨_, _, D2, ds ++ [d1] ++ [d2], rfl, sM.trans (t.trans t4), ?_, ?_⟩
    · rw [upd_same, List.map_append, List.map_append, List.append_assoc]; rfl
    · rw [← take_snoc hbi, dueP_snoc, List.map_append]
      have a0 : AllAt (DeedAt (L2.upd M2 D2 (.lst (ds.map V.ref ++ [.ref d1, .ref d2])))) ds ((dueP (bs.take i2)).map ddP) := aM.imp fun p x z => t4 _ _ (t _ _ z)
      have a1 := a0.snoc (p := d1) (x := (b.1, 1)) (t4 _ _ q1)
      have a2 := a1.snoc (p := d2) (x := (b.1, -1)) (t4 _ _ q2)
      rw [show (List.map ddP [(b, (1 : Int)), (b, -1)]) = [((b.1, 1) : Dd)] ++ [((b.1, -1) : Dd)] from rfl, ← List.append_assoc]
      exact a2
  obtain ⟨v3, v4, D, ds, rfl, sM, eD, aM⟩ := z
  rw [List.length_map, W.hb.1, List.take_length] at aM
  refine ⟨_, rfl, D, rfl, ⟨_, SqL.of eD⟩, fun E1 hE1 => ?_⟩
  refine lc_list (xs := ds.map V.ref) (fun j N => ∃ es : List Addr, Same M N ∧ N E1 = some (.lst (es.map V.ref)) ∧ AllAt (DeedAt M) es ((((dueP bs).take j).filter (okP stk)).map ddP)) ⟨[], same_new hE1 _, upd_same, AllAt.nil⟩ (fun j N _ ⟨_, z, _⟩ => SqL.of (z _ _ eD)) (fun j y N hy z => ?_) (fun N z => ?_)
  · obtain ⟨d, hd, rfl⟩ := getM hy
    obtain ⟨q, hq, dq⟩ := aM.get hd
    obtain ⟨es, sN, eN, aN⟩ := z
    obtain ⟨zz, hz, rfl⟩ : ∃ zz, (dueP bs)[j]? = some zz ∧ q = ddP zz := by
      rw [List.getElem?_map] at hq
      cases e : (dueP bs)[j]? with
      | none => rw [e] at hq; cases hq
      | some u => rw [e] at hq; exact ⟨u, rfl, (Option.some.inj hq).symm⟩
    have mz := dueP_mem (List.mem_of_getElem? hz)
    obtain ⟨i, hi, ei⟩ := List.getElem_of_mem mz.1
    have sHN := sM.trans sN
    have les : es.length ≤ 2 * bs.length := by
      rw [aN.1, List.length_map]
      exact Nat.le_trans (List.length_filter_le _ _) (by rw [List.length_take, dueP_len]; omega)
    have bl := W.bl
    have fl : ((dueP bs).take (j + 1)).filter (okP stk) = ((dueP bs).take j).filter (okP stk) ++ (if okP stk zz = true then [zz] else []) := by
      rw [← take_snoc hz, List.filter_append, List.filter_cons, List.filter_nil]
    refine ⟨rfl, _, rfl, _, rfl, _, rfl, wd, a, d, l, ps, n, bs, i, zz.1, stk, zz.2, rfl, W.same sHN, by rw [List.getElem?_eq_getElem hi, ei], sHN _ _ ha, ln, n100, sN _ _ dq, mz.2, fun v N2 s2 dec _ => ⟨rfl, _, rfl, ?_⟩⟩
    rw [dec, Bool.not_not]
    have ez : enoughB (combR 1 stk zz.2 zz.1.2) = okP stk zz := rfl
    rw [ez]
    cases ok : okP stk zz with
    | true =>
      rw [ok, if_pos rfl] at fl
      refine iteT ⟨_, rfl, _, s2 _ _ eN, by rw [List.length_map]; exact small1000 (by omega), es ++ [d], same_put hE1 (sN.trans s2), by rw [upd_same, List.map_append]; rfl, ?_⟩
      rw [fl, List.map_append]
      exact aN.snoc dq
    | false =>
      rw [ok, if_neg Bool.false_ne_true, List.append_nil] at fl
      refine iteF ⟨es, sN.trans s2, s2 _ _ eN, ?_⟩
      rw [fl]
      exact aN
  obtain ⟨es, sN, eN, aN⟩ := z
  have ln2 : (ds.map V.ref).length = (dueP bs).length := by rw [List.length_map, aM.1, List.length_map]
  rw [ln2, List.take_length, ← dueL_P] at aN
  exact k E1 es N (sM.trans sN) (sM.free hE1) eN (aN.imp fun p x z => sN _ _ z)
end
end My

namespace My
open PySem PySem.Spec PyProof.Rows L2
/-- one of two ways to walk -/
theorem pi_or {X : Cx} {tg l : Expr} {w1 w2 : TI} (h1 : PI X tg l w1) (h2 : PI X tg l w2) : PI X tg l (fun σ H R => w1 σ H R ∨ w2 σ H R) :=
  ⟨fun pins s σ M R I h => h.elim (fun q => h1.run pins s σ M R I q) (fun q => h2.run pins s σ M R I q)⟩
/-- an item of a list or a tuple -/
def rIxE (K : PySem.W.Frag) : R2 := fun x y H Q => rIxL K x y H Q ∨ rIxT K x y H Q
theorem ix_either {X : Cx} : IxR X (rIxE X.K) := IxR.or ix_list ix_tup
end My

namespace My
open PySem PySem.Spec PyProof.Rows L2
/-! ### accounts and prices judged -/
theorem is_int {K : PySem.W.Frag} (d : PyData) : PySem.W.kitOne K (.type (tyD d)) (.type "int") = some (decide (tyD d = "int") || decide (tyD d = "bool")) := by
  cases d with
  | none => exact (kit_ty (r := false) (by decide +kernel) : PySem.W.kitOne K (.type "NoneType") (.type "int") = some false)
  | bool _ => exact (kit_ty (r := true) (by decide +kernel) : PySem.W.kitOne K (.type "bool") (.type "int") = some true)
  | int _ => exact (kit_ty (r := true) (by decide +kernel) : PySem.W.kitOne K (.type "int") (.type "int") = some true)
  | str _ => exact (kit_ty (r := false) (by decide +kernel) : PySem.W.kitOne K (.type "str") (.type "int") = some false)
  | list _ => exact (kit_ty (r := false) (by decide +kernel) : PySem.W.kitOne K (.type "list") (.type "int") = some false)
  | tuple _ => exact (kit_ty (r := false) (by decide +kernel) : PySem.W.kitOne K (.type "tuple") (.type "int") = some false)
  | dict _ => exact (kit_ty (r := false) (by decide +kernel) : PySem.W.kitOne K (.type "dict") (.type "int") = some false)
theorem is_bool {K : PySem.W.Frag} (d : PyData) : PySem.W.kitOne K (.type (tyD d)) (.type "bool") = some (decide (tyD d = "bool")) := by
  cases d with
  | none => exact (kit_ty (r := false) (by decide +kernel) : PySem.W.kitOne K (.type "NoneType") (.type "bool") = some false)
  | bool _ => exact (kit_ty (r := true) (by decide +kernel) : PySem.W.kitOne K (.type "bool") (.type "bool") = some true)
  | int _ => exact (kit_ty (r := false) (by decide +kernel) : PySem.W.kitOne K (.type "int") (.type "bool") = some false)
  | str _ => exact (kit_ty (r := false) (by decide +kernel) : PySem.W.kitOne K (.type "str") (.type "bool") = some false)
  | list _ => exact (kit_ty (r := false) (by decide +kernel) : PySem.W.kitOne K (.type "list") (.type "bool") = some false)
  | tuple _ => exact (kit_ty (r := false) (by decide +kernel) : PySem.W.kitOne K (.type "tuple") (.type "bool") = some false)
  | dict _ => exact (kit_ty (r := false) (by decide +kernel) : PySem.W.kitOne K (.type "dict") (.type "bool") = some false)
def seqB (d : PyData) : Bool := match d with
  | .list _ => true
  | .tuple _ => true
  | _ => false
theorem is_seq {K : PySem.W.Frag} (d : PyData) : PySem.W.kitAny K (.type (tyD d)) [.type "list", .type "tuple"] = some (seqB d) := by
  cases d with
  | list _ => exact kitAny_cons (b := true) (kit_ty (r := true) (by decide +kernel) : PySem.W.kitOne K (.type "list") (.type "list") = some true) (fun z => nomatch z) (fun _ => rfl)
  | tuple _ => exact kitAny_cons (b := false) (kit_ty (r := false) (by decide +kernel) : PySem.W.kitOne K (.type "tuple") (.type "list") = some false) (fun _ => kitAny_cons (b := true) (kit_ty (r := true) (by decide +kernel) : PySem.W.kitOne K (.type "tuple") (.type "tuple") = some true) (fun z => nomatch z) (fun _ => rfl)) (fun z => nomatch z)
  | none => exact kitAny_cons (b := false) (kit_ty (r := false) (by decide +kernel) : PySem.W.kitOne K (.type "NoneType") (.type "list") = some false) (fun _ => kitAny_cons (b := false) (kit_ty (r := false) (by decide +kernel) : PySem.W.kitOne K (.type "NoneType") (.type "tuple") = some false) (fun _ => kitAny_nil) (fun z => nomatch z)) (fun z => nomatch z)
  | bool _ => exact kitAny_cons (b := false) (kit_ty (r := false) (by decide +kernel) : PySem.W.kitOne K (.type "bool") (.type "list") = some false) (fun _ => kitAny_cons (b := false) (kit_ty (r := false) (by decide +kernel) : PySem.W.kitOne K (.type "bool") (.type "tuple") = some false) (fun _ => kitAny_nil) (fun z => nomatch z)) (fun z => nomatch z)
  | int _ => exact kitAny_cons (b := false) (kit_ty (r := false) (by decide +kernel) : PySem.W.kitOne K (.type "int") (.type "list") = some false) (fun _ => kitAny_cons (b := false) (kit_ty (r := false) (by decide +kernel) : PySem.W.kitOne K (.type "int") (.type "tuple") = some false) (fun _ => kitAny_nil) (fun z => nomatch z)) (fun z => nomatch z)
  | str _ => exact kitAny_cons (b := false) (kit_ty (r := false) (by decide +kernel) : PySem.W.kitOne K (.type "str") (.type "list") = some false) (fun _ => kitAny_cons (b := false) (kit_ty (r := false) (by decide +kernel) : PySem.W.kitOne K (.type "str") (.type "tuple") = some false) (fun _ => kitAny_nil) (fun z => nomatch z)) (fun z => nomatch z)
  | dict _ => exact kitAny_cons (b := false) (kit_ty (r := false) (by decide +kernel) : PySem.W.kitOne K (.type "dict") (.type "list") = some false) (fun _ => kitAny_cons (b := false) (kit_ty (r := false) (by decide +kernel) : PySem.W.kitOne K (.type "dict") (.type "tuple") = some false) (fun _ => kitAny_nil) (fun z => nomatch z)) (fun z => nomatch z)
/-- data, or a list of ints -/
def Vw (H : Hp) (v : V) (d : PyData) : Prop := Dq H v d ∨ ∃ (a : Addr) (ns : List Int), v = .ref a ∧ H a = some (.lst (ns.map V.int)) ∧ d = .list (ns.map PyData.int)
theorem Vw.same {H H' : Hp} {v : V} {d : PyData} (e : Same H H') (h : Vw H v d) : Vw H' v d := by
  rcases h with h | ⟨a, ns, h1, h2, h3⟩
  · exact .inl (h.same e)
  · exact .inr ⟨a, ns, h1, e _ _ h2, h3⟩
theorem dq_ints {H : Hp} : ∀ ns : List Int, DqAll H (ns.map V.int) (ns.map PyData.int)
  | [] => .nil
  | n :: ns => .cons (.int n) (dq_ints ns)
theorem Vw.ty {K : PySem.W.Frag} {H : Hp} {v : V} {d : PyData} (h : Vw H v d) : TyX K H v (.type (tyD d)) := by
  rcases h with h | ⟨a, ns, rfl, h2, rfl⟩
  · exact h.ty
  · exact .base (.lst h2)
def itemsD (d : PyData) : List PyData := match d with
  | .list ds => ds
  | .tuple ds => ds
  | _ => []
/-- a list or a tuple that is tracked -/
def TrK (k : Bool) (H : Hp) (a : Addr) (xs : List V) : Prop := match k with
  | false => H a = some (.lst xs)
  | true => H a = some (.tup xs)
theorem TrK.sq {k : Bool} {K : PySem.W.Frag} {H : Hp} {a : Addr} {xs : List V} (h : TrK k H a xs) : SqK k K H a xs := by
  cases k
  · exact SqL.of h
  · exact SqT.of h
theorem TrK.same {k : Bool} {H H' : Hp} {a : Addr} {xs : List V} (e : Same H H') (h : TrK k H a xs) : TrK k H' a xs := by
  cases k
  · exact e _ _ h
  · exact e _ _ h
theorem Vw.seq {H : Hp} {v : V} {d : PyData} (h : Vw H v d) (s : seqB d = true) : ∃ (k : Bool) (a : Addr) (xs : List V), v = .ref a ∧ TrK k H a xs ∧ DqAll H xs (itemsD d) := by
  rcases h with h | ⟨a, ns, rfl, h2, rfl⟩
  · cases h with
    | lst e _ hs => exact ⟨false, _, _, rfl, e, hs⟩
    | tup e hs => exact ⟨true, _, _, rfl, e, hs⟩
    | _ => cases s
  · exact ⟨false, a, _, rfl, h2, dq_ints ns⟩
def isIntD (d : PyData) : Bool := match d with
  | .int _ => true
  | _ => false
def isNumD (d : PyData) : Bool := match d with
  | .int i => decide (i ≥ 0)
  | _ => false
/-- the place of the first item that is not of a kind -/
def firstN (f : PyData → Bool) : Nat → List PyData → Option (List Int)
  | _, [] => none
  | i, d :: ds => if f d = true then firstN f (i + 1) ds else some [(i : Int)]
theorem first_none {f : PyData → Bool} : ∀ {ds : List PyData} {k : Nat}, (∀ (j : Nat) (d : PyData), ds[j]? = some d → f d = true) → firstN f k ds = none
  | [], _, _ => rfl
  | d :: ds, k, h => by
    unfold firstN
    rw [if_pos (h 0 d rfl)]
    exact first_none fun j d' e => h (j + 1) d' e
theorem first_at {f : PyData → Bool} : ∀ {ds : List PyData} {k i : Nat} {d : PyData}, (∀ (j : Nat) (d : PyData), j < i → ds[j]? = some d → f d = true) → ds[i]? = some d → f d = false → firstN f k ds = some [((k + i : Nat) : Int)]
  | d :: ds, k, 0, _, _, e, b => by
    cases e
    unfold firstN
    rw [b]; rfl
  | d :: ds, k, i + 1, d', h, e, b => by
    unfold firstN
    rw [if_pos (h 0 d (Nat.succ_pos i) rfl), first_at (k := k + 1) (i := i) (fun j x hj q => h (j + 1) x (Nat.succ_lt_succ hj) q) e b]
    rw [show k + 1 + i = k + (i + 1) by omega]
def wrongA (n : Nat) (d : PyData) : Option (List Int) := match d with
  | .tuple ds => if ds.length = n then firstN isIntD 0 ds else some []
  | _ => some []
def wrongP (n : Nat) (d : PyData) : Option (List Int) := if seqB d = true then (if (itemsD d).length = n then firstN isNumD 0 (itemsD d) else some []) else some []
def spIntD : Sp := fun vs H Q _ => ∃ (v : V) (d : PyData), vs = [v] ∧ Dq H v d ∧ Q (.bl (isIntD d)) H
def spNumD : Sp := fun vs H Q _ => ∃ (v : V) (d : PyData), vs = [v] ∧ Dq H v d ∧ Q (.bl (isNumD d)) H
/-- an error with a path is made -/
def spInP (C : Addr) : Sp := fun vs H Q _ => ∃ (a t : Addr) (ys : List V), vs = [.ref a, .ref t] ∧ H a = some (exo a C none) ∧ H t = some (.tup ys) ∧
  ∀ dx, H dx = none → dx ≠ a → Q .non (L2.upd (L2.upd H dx (exd dx [("path", .ref t)])) a (exo a C (some dx)))
/-- an error with this path is raised -/
def Path (C : Addr) (H : Hp) (ks : List Int) (E : XK) : Prop := ∀ (dx t : Addr) (H' : Hp), Same H H' → H' dx = some (.xd [("path", .ref t)]) → H' t = some (.tup (ks.map V.int)) → E (.ref C) (some dx) H'
def spCheck (wr : Nat → PyData → Option (List Int)) (C Ce : Addr) : Sp := fun vs H Q E => ∃ (x : Addr) (gs : List Str) (bs : List Br) (v : V) (d : PyData), vs = [.ref x, v] ∧ BookH C H x gs bs ∧ bs.length ≤ 100 ∧ Vw H v d ∧
  (wr bs.length d = none → ∀ H', Same H H' → Q .non H') ∧ (∀ ks, wr bs.length d = some ks → Path Ce H ks E)
theorem mk_fin {M : Hp} {a dx C : Addr} {fs : List (Str × V)} (ha : M a = none) (h1 : L2.upd M a (exo a C none) dx = none) (h2 : dx ≠ a) :
    Same M (L2.upd (del (L2.upd (L2.upd (L2.upd M a (exo a C none)) dx (exd dx fs)) a (exo a C (some dx))) a) dx (.xd fs)) := fun y u hy => by
  rw [upd_ne h2] at h1
  have n1 : y ≠ a := ne_of_none hy ha
  have n2 : y ≠ dx := ne_of_none hy h1
  rw [upd_ne n2, del_ne n1, upd_ne n1, upd_ne n2, upd_ne n1]
  exact hy
/-- the end of «raise C(path)» -/
theorem raise_fin {C : Addr} {M : Hp} {t : Addr} {ks : List Int} {E : XK} (ht : M t = some (.tup (ks.map V.int))) (k : Path C M ks E) : ∀ a, M a = none → spInP C [.ref a, .ref t] (L2.upd M a (exo a C none))
    (fun v H2 => v = .non ∧ ∃ (d : Addr) (fs : List (Str × V)), H2 a = some (exo a C (some d)) ∧ H2 d = some (exd d fs) ∧ M d = none ∧ E (.ref C) (some d) (L2.upd (del H2 a) d (.xd fs))) (fun _ _ _ => False) := fun a ha => by
  refine ⟨a, t, _, rfl, upd_same, same_new ha _ _ _ ht, fun dx h1 h2 => ⟨rfl, dx, [("path", .ref t)], upd_same, ?_, ?_, ?_⟩⟩
  · rw [upd_ne h2]; exact upd_same
  · rw [upd_ne h2] at h1; exact h1
  · have s := mk_fin (fs := [("path", .ref t)]) (C := C) ha h1 h2
    exact k dx t _ s upd_same (s _ _ ht)
theorem Path.same {C : Addr} {H H1 : Hp} {ks : List Int} {E : XK} (e : Same H H1) (h : Path C H ks E) : Path C H1 ks E := fun dx t H' s h1 h2 => h dx t H' (e.trans s) h1 h2
section
variable {P : Program} {w : World} {K : PySem.W.Frag} {mg : Str → Option Value} {base : Heap}
theorem ok_isint (T : Tx K mg) : FnOk P w K mg base CX0 1 T.a_is_integer T.fd_is_integer ["value"] spIntD := by
  refine T.F_is_integer.ok sc_is_integer (fun vs H Q E h => ?_) (fun cdv A outer st H vs Q E hr h => ?_)
  · obtain ⟨v, d, rfl, _⟩ := h
    rfl
  obtain ⟨v, d, rfl, dq, k⟩ := h
  refine ⟨_, ((pss_one (ps_ret (pe_and (pe_callB (show CallR _ (.builtin "isinstance") (rIsi K) from call_isi) (by rfl) T.n_isinstance (by decide +kernel) (pa_cons (pv 0) (pa_cons (pe_bltn (v := .ty "int") (by rfl) T.n_int (by decide +kernel) rfl) pa_nil))) (pe_one (pe_not (pe_callB (show CallR _ (.builtin "isinstance") (rIsi K) from call_isi) (by rfl) T.n_isinstance (by decide +kernel) (pa_cons (pv 0) (pa_cons (pe_bltn (v := .ty "bool") (by rfl) T.n_bool (by decide +kernel) rfl) pa_nil))))))))), ?_⟩
  refine ⟨_, rfl, v, .ty "int", .type (tyD d), .type "int", _, rfl, .ty _, dq.ty, is_int d, ?_⟩
  have two : ∀ R : VK, R (.bl (!decide (tyD d = "bool"))) H → tNotV (tCB (rIsi K) (tCons (tVar 0) (tCons (tC (.ty "bool")) tNil))) (L2.start ["value"] [v]) H R := fun R r => ⟨_, rfl, v, .ty "bool", .type (tyD d), .type "bool", _, rfl, .ty _, dq.ty, is_bool d, ⟨_, rfl, r⟩⟩
  cases d with
  | int i => exact ⟨_, rfl, iteT (two _ k)⟩
  | bool b => exact ⟨_, rfl, iteT (two _ k)⟩
  | none => exact ⟨_, rfl, iteF k⟩
  | str _ => exact ⟨_, rfl, iteF k⟩
  | list _ => exact ⟨_, rfl, iteF k⟩
  | tuple _ => exact ⟨_, rfl, iteF k⟩
  | dict _ => exact ⟨_, rfl, iteF k⟩
end
end My

namespace My
open PySem PySem.Spec PyProof.Rows L2
/-! ### scripts of any data -/
def hasD (bs : List Br) (d : PyData) : Bool := match d with
  | .str x => decide (x ∈ bs.map (·.1))
  | _ => false
def deedQ (bs : List Br) (d : PyData) : Option (Br × Int) := match d with
  | .tuple [.str n, .int i] => if i = 1 ∨ i = -1 then (bs.find? fun b => decide (b.1 = n)).map fun b => (b, i) else none
  | _ => none
def behD (bs : List Br) (st : List Int) (d : PyData) : Option (List Int) := match deedQ bs d with
  | some z => if okP st z = true then some (combR 1 st z.2 z.1.2) else none
  | none => none
def wayF (bs : List Br) : List Int → List PyData → Option (List Int)
  | st, [] => some st
  | st, d :: ds => match behD bs st d with
    | some r => wayF bs r ds
    | none => none
def alongD (bs : List Br) : List Int → List PyData → List (List Int)
  | st, [] => [st]
  | st, d :: ds => st :: (match behD bs st d with
    | some r => alongD bs r ds
    | none => [])
theorem way_snoc {bs : List Br} {d : PyData} : ∀ {ds : List PyData} {st r : List Int}, wayF bs st ds = some r → wayF bs st (ds ++ [d]) = behD bs r d
  | [], st, r, h => by
    cases h
    show (match behD bs st d with | some r => some r | none => none) = _
    cases behD bs st d <;> rfl
  | e :: ds, st, r, h => by
    show (match behD bs st e with | some r => wayF bs r (ds ++ [d]) | none => none) = _
    have h : (match behD bs st e with | some r => wayF bs r ds | none => none) = some r := h
    cases q : behD bs st e with
    | none => rw [q] at h; try cases h
    | some r' => rw [q] at h; exact way_snoc h
theorem beh_none {bs : List Br} {st : List Int} {d : PyData} (h : deedQ bs d = none) : behD bs st d = none := by
  unfold behD
  rw [h]
theorem dq_len {bs : List Br} {ds : List PyData} (h : ds.length ≠ 2) : deedQ bs (.tuple ds) = none := by
  match ds, h with
  | [], _ => rfl
  | [x], _ => cases x <;> rfl
  | [x, y], h => exact absurd rfl h
  | x :: y :: z :: r, _ => cases x <;> cases y <;> rfl
theorem dq_has {bs : List Br} {d1 d2 : PyData} (h : hasD bs d1 = false) : deedQ bs (.tuple [d1, d2]) = none := by
  cases d1 with
  | str n =>
    cases d2 with
    | int i =>
      show (if i = 1 ∨ i = -1 then (bs.find? fun b => decide (b.1 = n)).map fun b => (b, i) else none) = none
      have e : bs.find? (fun b => decide (b.1 = n)) = none := by
        rw [List.find?_eq_none]
        intro b hb z
        exact of_decide_eq_false h (List.mem_map.mpr ⟨b, hb, of_decide_eq_true z⟩)
      rw [e]
      split <;> rfl
    | _ => rfl
  | _ => cases d2 <;> rfl
theorem dq_int {bs : List Br} {d1 d2 : PyData} (h : isIntD d2 = false) : deedQ bs (.tuple [d1, d2]) = none := by
  cases d2 with
  | int i => cases h
  | _ => cases d1 <;> rfl
theorem dq_way {bs : List Br} {n : Str} {i : Int} (h : ¬ (i = 1 ∨ i = -1)) : deedQ bs (.tuple [.str n, .int i]) = none := by
  show (if i = 1 ∨ i = -1 then (bs.find? fun b => decide (b.1 = n)).map fun b => (b, i) else none) = none
  rw [if_neg h]
theorem along_snoc {bs : List Br} {d : PyData} : ∀ {ds : List PyData} {st r r2 : List Int}, wayF bs st ds = some r → behD bs r d = some r2 → alongD bs st (ds ++ [d]) = alongD bs st ds ++ [r2]
  | [], st, r, r2, h, g => by
    cases h
    show st :: (match behD bs st d with | some r => [r] | none => []) = _
    rw [g, alongD]; rfl
  | e :: ds, st, r, r2, h, g => by
    show st :: (match behD bs st e with | some r => alongD bs r (ds ++ [d]) | none => []) = (st :: (match behD bs st e with | some r => alongD bs r ds | none => [])) ++ [r2]
    have h : (match behD bs st e with | some r => wayF bs r ds | none => none) = some r := h
    cases q : behD bs st e with
    | none => rw [q] at h; try cases h
    | some r' =>
      rw [q] at h
      show st :: alongD bs r' (ds ++ [d]) = (st :: alongD bs r' ds) ++ [r2]
      rw [along_snoc h g, List.cons_append]
theorem along_stop {bs : List Br} {d : PyData} {es : List PyData} : ∀ {ds : List PyData} {st r : List Int}, wayF bs st ds = some r → behD bs r d = none → alongD bs st (ds ++ d :: es) = alongD bs st ds
  | [], st, r, h, g => by
    cases h
    show st :: (match behD bs st d with | some r => alongD bs r es | none => []) = _
    rw [g]; rfl
  | e :: ds, st, r, h, g => by
    show st :: (match behD bs st e with | some r => alongD bs r (ds ++ d :: es) | none => []) = (st :: (match behD bs st e with | some r => alongD bs r ds | none => []))
    have h : (match behD bs st e with | some r => wayF bs r ds | none => none) = some r := h
    cases q : behD bs st e with
    | none => rw [q] at h; try cases h
    | some r' =>
      rw [q] at h
      show st :: alongD bs r' (ds ++ d :: es) = (st :: alongD bs r' ds)
      rw [along_stop h g]
theorem way_len {bs : List Br} : ∀ {ds : List PyData} {st r : List Int}, wayF bs st ds = some r → (alongD bs st ds).length = ds.length + 1 ∧ (alongD bs st ds).getLast? = some r
  | [], st, r, h => by cases h; exact ⟨rfl, rfl⟩
  | e :: ds, st, r, h => by
    have h : (match behD bs st e with | some r => wayF bs r ds | none => none) = some r := h
    show (st :: (match behD bs st e with | some r => alongD bs r ds | none => [])).length = _ ∧ (st :: (match behD bs st e with | some r => alongD bs r ds | none => [])).getLast? = _
    cases q : behD bs st e with
    | none => rw [q] at h; try cases h
    | some r' =>
      rw [q] at h
      have ih := way_len h
      refine ⟨congrArg (· + 1) ih.1, ?_⟩
      show (st :: alongD bs r' ds).getLast? = some r
      cases z : alongD bs r' ds with
      | nil => rw [z] at ih; cases ih.1
      | cons u t => rw [z] at ih; rw [List.getLast?_cons_cons]; exact ih.2
theorem way_none {bs : List Br} : ∀ {ds : List PyData} {st : List Int}, wayF bs st ds = none → (alongD bs st ds).length ≤ ds.length
  | [], st, h => by cases h
  | e :: ds, st, h => by
    have h : (match behD bs st e with | some r => wayF bs r ds | none => none) = none := h
    show (st :: (match behD bs st e with | some r => alongD bs r ds | none => [])).length ≤ _
    cases q : behD bs st e with
    | none => show 1 ≤ ds.length + 1; omega
    | some r' =>
      rw [q] at h
      exact Nat.succ_le_succ (way_none h)
theorem along_pos (bs : List Br) (st : List Int) (ds : List PyData) : 1 ≤ (alongD bs st ds).length := by
  cases ds <;> simp [alongD]
theorem beh_len {bs : List Br} {st r : List Int} {d : PyData} (bw : ∀ b ∈ bs, b.2.length = st.length) (h : behD bs st d = some r) : r.length = st.length := by
  unfold behD at h
  cases q : deedQ bs d with
  | none => rw [q] at h; cases h
  | some z =>
    rw [q] at h
    have h : (if okP st z = true then some (combR 1 st z.2 z.1.2) else none) = some r := h
    split at h
    · cases h
      have m : z.1 ∈ bs := by
        unfold deedQ at q
        split at q
        · split at q
          · rename_i n i _
            cases f : bs.find? fun b => decide (b.1 = n) with
            | none => rw [f] at q; cases q
            | some b => rw [f] at q; cases q; exact List.mem_of_find?_eq_some f
          · cases q
        · cases q
      have := bw _ m
      unfold combR
      rw [List.length_zipWith]; omega
    · cases h
theorem way_rows {bs : List Br} : ∀ {ds : List PyData} {st r : List Int}, (∀ b ∈ bs, b.2.length = st.length) → wayF bs st ds = some r → r.length = st.length
  | [], _, _, _, h => by cases h; rfl
  | e :: ds, st, r, bw, h => by
    have h : (match behD bs st e with | some r => wayF bs r ds | none => none) = some r := h
    cases q : behD bs st e with
    | none => rw [q] at h; try cases h
    | some r' =>
      rw [q] at h
      have l := beh_len bw q
      rw [way_rows (fun b m => by rw [l]; exact bw b m) h, l]
theorem find_br {bs : List Br} {b : Br} (nd : (bs.map (·.1)).Nodup) (h : b ∈ bs) : bs.find? (fun c => decide (c.1 = b.1)) = some b := by
  induction bs with
  | nil => cases h
  | cons c cs ih =>
    rw [List.map_cons, List.nodup_cons] at nd
    rcases List.mem_cons.mp h with rfl | h
    · rw [List.find?_cons]; simp
    · have n : ¬ c.1 = b.1 := fun e => nd.1 (by rw [e]; exact List.mem_map.mpr ⟨b, h, rfl⟩)
      rw [List.find?_cons, decide_eq_false n]
      exact ih nd.2 h
theorem deed_of {bs : List Br} {z : Br × Int} (nd : (bs.map (·.1)).Nodup) (h : z.1 ∈ bs) (w : z.2 = 1 ∨ z.2 = -1) : deedQ bs (dD (ddP z)) = some z := by
  show (if z.2 = 1 ∨ z.2 = -1 then (bs.find? fun b => decide (b.1 = z.1.1)).map fun b => (b, z.2) else none) = _
  rw [if_pos w, find_br nd h]; rfl
theorem beh_of {bs : List Br} {z : Br × Int} {st : List Int} (nd : (bs.map (·.1)).Nodup) (h : z.1 ∈ bs) (w : z.2 = 1 ∨ z.2 = -1) : behD bs st (dD (ddP z)) = if okP st z = true then some (combR 1 st z.2 z.1.2) else none := by
  unfold behD
  rw [deed_of nd h w]
def StkAt (H : Hp) (p : Addr) (r : List Int) : Prop := H p = some (.tup (rowV r))
def NumE (Ce : Addr) (H : Hp) (n : Int) (E : XK) : Prop := ∀ (dx : Addr) (H' : Hp), Same H H' → H' dx = some (.xd [("number", .int n)]) → E (.ref Ce) (some dx) H'
def EitherA (H : Hp) (a : Addr) (xs : List V) : Prop := H a = some (.lst xs) ∨ H a = some (.tup xs)
theorem EitherA.same {H H' : Hp} {a : Addr} {xs : List V} (h : EitherA H a xs) (e : Same H H') : EitherA H' a xs := h.imp (e _ _) (e _ _)
def spHasD (C : Addr) : Sp := fun vs H Q _ => ∃ (x : Addr) (gs : List Str) (bs : List Br) (v : V) (d : PyData), vs = [.ref x, v] ∧ BookH C H x gs bs ∧ (bs.map (·.1)).Nodup ∧ Dq H v d ∧ Q (.bl (hasD bs d)) H
def spBehD (C : Addr) : Sp := fun vs H Q _ => ∃ (x a : Addr) (v : V) (d : PyData) (gs : List Str) (bs : List Br) (st : List Int), vs = [.ref x, .ref a, v] ∧ BookH C H x gs bs ∧ (bs.map (·.1)).Nodup ∧ H a = some (.tup (rowV st)) ∧ st.length ≤ 100 ∧ (∀ b ∈ bs, b.2.length = st.length) ∧ Dq H v d ∧
  (∀ r, behD bs st d = some r → ∀ (p : Addr) (H' : Hp), Same H H' → H' p = some (.tup (rowV r)) → Q (.ref p) H') ∧ (behD bs st d = none → ∀ H', Same H H' → Q .non H')
/-- a book, a stock and a script of data -/
structure ScrAt (C : Addr) (H : Hp) (vs : List V) (gs : List Str) (bs : List Br) (st : List Int) (ds : List PyData) (x a m : Addr) (xs : List V) : Prop where
  ev : vs = [.ref x, .ref a, .ref m]
  hB : BookH C H x gs bs
  nd : (bs.map (·.1)).Nodup
  ha : H a = some (.tup (rowV st))
  sl : st.length ≤ 100
  bw : ∀ b ∈ bs, b.2.length = st.length
  hm : EitherA H m xs
  dq : DqAll H xs ds
  lz : ds.length ≤ 100
def spSoFar (C : Addr) : Sp := fun vs H Q _ => ∃ (gs : List Str) (bs : List Br) (st : List Int) (ds : List PyData) (x a m : Addr) (xs : List V), ScrAt C H vs gs bs st ds x a m xs ∧
  ∀ (D : Addr) (ss : List Addr) (H' : Hp), Same H H' → H D = none → H' D = some (.lst (ss.map V.ref)) → AllAt (StkAt H') ss (alongD bs st ds) → Q (.ref D) H'
section
variable {P : Program} {w : World} {K : PySem.W.Frag} {mg : Str → Option Value} {base : Heap}
theorem ok_hasD (T : Tx K mg) : FnOk P w K mg base CX0 1 T.a_Book_has_barter T.fd_Book_has_barter ["self", "value"] (spHasD T.C_Book) := by
  refine T.F_Book_has_barter.ok sc_Book_has_barter (fun vs H Q E h => ?_) (fun cdv A outer st H vs Q E hr h => ?_)
  · obtain ⟨x, gs, bs, v, d, rfl, _⟩ := h
    rfl
  obtain ⟨x, gs, bs, v, d, rfl, ⟨dx, tg, tb, dg, db, ps, h1, h2, h3, h4, h5, h6⟩, nd, dq, k⟩ := h
  have hu := hu_of hr
  refine ⟨_, ((pss_one (ps_ret (pe_and (pe_callB (show CallR _ (.builtin "isinstance") (rIsi K) from call_isi) (by rfl) T.n_isinstance (by decide +kernel) (pa_cons (pv 1) (pa_cons (pe_bltn (v := .ty "str") (by rfl) T.n_str (by decide +kernel) rfl) pa_nil))) (pe_one (pe_cmp (pc_din hu (pv 1) (pe_fld (pv 0) rfl)) rfl)))))), ?_⟩
  refine ⟨_, rfl, v, .ty "str", .type (tyD d), .type "str", _, rfl, .ty _, dq.ty, is_str d, ?_⟩
  cases dq with
  | str y =>
    refine ⟨_, rfl, iteT ?_⟩
    by_cases hy : y ∈ bs.map (·.1)
    · obtain ⟨i, hi, e⟩ := List.getElem_of_mem hy
      have g : DGet H db (.str y) (some (.int (i : Nat))) := by rw [← get_kvN nd (by rw [List.getElem?_eq_getElem hi, e])]; exact DGet.k (k := Sum.inr y) h6
      have kk : Q (.bl true) H := by rw [show hasD bs (.str y) = true from decide_eq_true hy] at k; exact k
      exact ⟨_, rfl, _, rfl, x, _, _, _, _, rfl, h1, T.cl_Book, T.na_Book_barter_numbers, rfl, db, _, rfl, g, kk⟩
    · have g : DGet H db (.str y) none := by rw [← no_kvN hy]; exact DGet.k (k := Sum.inr y) h6
      have kk : Q (.bl false) H := by rw [show hasD bs (.str y) = false from decide_eq_false hy] at k; exact k
      exact ⟨_, rfl, _, rfl, x, _, _, _, _, rfl, h1, T.cl_Book, T.na_Book_barter_numbers, rfl, db, _, rfl, g, kk⟩
  | _ => exact ⟨_, rfl, iteF k⟩
theorem inW (i : Int) : inV (.int i) [.int 1, .int (-1)] = decide (i = 1 ∨ i = -1) := by
  unfold inV
  by_cases h1 : i = 1
  · subst h1; decide +kernel
  · by_cases h2 : i = -1
    · subst h2; decide +kernel
    · have e1 : ¬ (V.int 1 = V.int i) := fun z => h1 (V.int.inj z).symm
      have e2 : ¬ (V.int (-1) = V.int i) := fun z => h2 (V.int.inj z).symm
      have e3 : ¬ (V.int i = V.int 1) := fun z => h1 (V.int.inj z)
      have e4 : ¬ (V.int i = V.int (-1)) := fun z => h2 (V.int.inj z)
      rw [decide_eq_false (fun z => z.elim h1 h2)]
      simp [eqV, e1, e2, e3, e4, h1, h2]
      try exact ⟨fun z => h1 z.symm, fun z => h2 z.symm⟩
theorem ok_behD (T : Tx K mg) : FnOk P w K mg base CX0 4 T.a_stock_behind T.fd_stock_behind ["book", "stock", "value"] (spBehD T.C_Book) := by
  refine T.F_stock_behind.ok sc_stock_behind (fun vs H Q E h => ?_) (fun cdv A outer st H vs Q E hr h => ?_)
  · obtain ⟨x, a, v, d, gs, bs, stk, rfl, _⟩ := h
    rfl
  obtain ⟨x, a, v, d, gs, bs, stk, rfl, hB, nd, ha, sl, bw, dq, k1, k0⟩ := h
  have G_Book_has_barter : FnOk P w K mg base CX0 1 T.a_Book_has_barter T.fd_Book_has_barter ["self", "value"] (spHasD T.C_Book) := ok_hasD T
  have hr_Book_has_barter : Room 1 _ := hr.mono (by omega)
  have G_Book_row : FnOk P w K mg base CX0 3 T.a_Book_row T.fd_Book_row ["self", "name"] (spRow T.C_Book) := ok_row T
  have hr_Book_row : Room 3 _ := hr
  have G_is_integer : FnOk P w K mg base CX0 1 T.a_is_integer T.fd_is_integer ["value"] spIntD := ok_isint T
  have hr_is_integer : Room 1 _ := hr.mono (by omega)
  have G_combined : FnOk P w K mg base CX0 1 T.a_combined T.fd_combined ["a", "row", "b", "other"] spComb := ok_combined T
  have hr_combined : Room 1 _ := hr.mono (by omega)
  have G_is_enough : FnOk P w K mg base CX0 1 T.a_is_enough T.fd_is_enough ["row"] (spRowB enoughB) := ok_is_enough T
  have hr_is_enough : Room 1 _ := hr.mono (by omega)
  refine ⟨_, ((pss_cons (ps_if (PW.pt (pw_or (pt_not (pt_val (pe_callB (show CallR _ (.builtin "isinstance") (rIsi K) from call_isi) (by rfl) T.n_isinstance (by decide +kernel) (pa_cons (pv 2) (pa_cons (pe_bltn (v := .ty "tuple") (by rfl) T.n_tuple (by decide +kernel) rfl) pa_nil))))) (pw_or1 (pt_cmpR op_ne (pe_callB call_len_seq (by rfl) T.n_len (by decide +kernel) (pa_cons (pv 2) pa_nil)) pe_int (nomark _)))))
        (pss_one (ps_ret pe_non))
        pss_nil)
      (pss_cons (ps_asg (pv 2) (pg_tup rfl (pgs_cons (pg_name (i := 3) sc_stock_behind.nd rfl (Or.inl rfl)) (pgs_cons (pg_name (i := 4) sc_stock_behind.nd rfl (Or.inl rfl)) pgs_nil))))
      (pss_cons (ps_if (PW.pt (pw_or (pt_not (pt_val (pe_meth (pv 0) T.cl_Book T.me_Book_has_barter G_Book_has_barter hr_Book_has_barter T.b_Book_has_barter .nil pass0 (pa_cons (pv 3) pa_nil)))) (pw_or (pt_not (pt_val (pe_call G_is_integer hr_is_integer rfl T.m_is_integer T.F_is_integer.kp T.b_is_integer .nil pass0 (pa_cons (pv 4) pa_nil)))) (pw_or1 (pt_cmpR op_notIn_seq (pv 4) (pe_glob (v := .ref T.w_WAYS) rfl T.c_WAYS rfl) (by rfl))))))
        (pss_one (ps_ret pe_non))
        pss_nil)
      (pss_cons (ps_set (i := 5) sc_stock_behind.nd rfl (Or.inl rfl) (pe_call G_combined hr_combined rfl T.m_combined T.F_combined.kp T.b_combined .nil pass0 (pa_cons pe_int (pa_cons (pv 1) (pa_cons (pv 4) (pa_cons (pe_meth (pv 0) T.cl_Book T.me_Book_row G_Book_row hr_Book_row T.b_Book_row .nil pass0 (pa_cons (pv 3) pa_nil)) pa_nil))))))
      (pss_one (ps_ret (pe_ifExp (pt_val (pe_call G_is_enough hr_is_enough rfl T.m_is_enough T.F_is_enough.kp T.b_is_enough .nil pass0 (pa_cons (pv 5) pa_nil))) (pv 5) pe_non)))))))), ?_⟩
  have S0 : Same H H := fun _ _ e => e
  refine ⟨_, rfl, v, .ty "tuple", .type (tyD d), .type "tuple", _, rfl, .ty _, dq.ty, is_tup d, ?_⟩
  cases dq with
  | @tup t xs ds hd hs =>
    refine ⟨_, rfl, iteF ?_⟩
    refine ⟨_, rfl, _, _, rfl, .inr (SqT.of hd), rfl, _, rfl, ?_⟩
    refine iteN (fun ne => k0 ?_ _ S0) (fun e2 => ?_)
    · exact beh_none (dq_len fun z => ne (by rw [hs.length, z]; rfl))
    have l2 : ds.length = 2 := by
      have := V.int.inj e2
      rw [hs.length] at this
      omega
    obtain ⟨d1, d2, rfl⟩ : ∃ d1 d2, ds = [d1, d2] := match ds, l2 with
      | [d1, d2], _ => ⟨d1, d2, rfl⟩
    obtain ⟨v1, v2, rfl, q1, q2⟩ : ∃ v1 v2, xs = [v1, v2] ∧ Dq H v1 d1 ∧ Dq H v2 d2 := by
      cases hs with
      | cons q1 r => cases r with
        | cons q2 r => cases r; exact ⟨_, _, rfl, q1, q2⟩
    refine ⟨_, rfl, t, _, rfl, SqT.of hd, rfl, _, _, rfl, _, _, rfl, rfl, ?_⟩
    obtain ⟨dx, tg, tb, dg, db, ps, h1, h2, h3, h4, h5, h6⟩ := id hB
    refine ⟨_, rfl, x, _, _, rfl, h1, rfl, _, rfl, x, gs, bs, v1, d1, rfl, hB, nd, q1, _, rfl, ?_⟩
    cases hh : hasD bs d1 with
    | false =>
      exact iteT (k0 (beh_none (dq_has hh)) _ S0)
    | true =>
      refine iteF ?_
      obtain ⟨n, rfl, hn⟩ : ∃ n, d1 = .str n ∧ n ∈ bs.map (·.1) := by
        cases d1 with
        | str n => exact ⟨n, rfl, of_decide_eq_true hh⟩
        | _ => cases hh
      cases q1
      refine ⟨_, rfl, v2, d2, rfl, q2, _, rfl, ?_⟩
      cases hi : isIntD d2 with
      | false => exact iteT (k0 (beh_none (dq_int hi)) _ S0)
      | true =>
        refine iteF ?_
        obtain ⟨i, rfl⟩ : ∃ i, d2 = .int i := by
          cases d2 with
          | int i => exact ⟨i, rfl⟩
          | _ => cases hi
        cases q2
        refine ⟨_, rfl, T.w_WAYS, _, rfl, .inr (T.t_WAYS _), rfl, rfl, ?_⟩
        rw [inW]
        by_cases hw : i = 1 ∨ i = -1
        · rw [decide_eq_true hw]
          refine ⟨_, rfl, iteF ?_⟩
          obtain ⟨b, hb, rfl⟩ := List.mem_map.mp hn
          obtain ⟨j, hj, ej⟩ := List.getElem_of_mem hb
          have hbj : bs[j]? = some b := by rw [List.getElem?_eq_getElem hj, ej]
          have bh : behD bs stk (.tuple [.str b.1, .int i]) = if okP stk (b, i) = true then some (combR 1 stk i b.2) else none := beh_of (z := (b, i)) nd hb hw
          rw [bh] at k1 k0
          refine ⟨_, rfl, _, rfl, _, rfl, x, _, _, rfl, h1, rfl, _, rfl, x, gs, bs, j, b, rfl, hB, hbj, nd, fun ra hra => ?_⟩
          refine ⟨a, ra, 1, i, stk, b.2, rfl, ha, hra, (bw b hb).symm, by omega, rfl, hw, fun p M s0 hp ep => ?_⟩
          refine ⟨_, rfl, p, _, rfl, ep, ?_, fun M2 s2 => ⟨_, rfl, ?_⟩⟩
          · have := bw b hb
            unfold combR; rw [List.length_zipWith]; omega
          have eo : okP stk (b, i) = enoughB (combR 1 stk i b.2) := rfl
          rw [eo] at k1 k0
          cases hen : enoughB (combR 1 stk i b.2) with
          | true =>
            rw [hen] at k1
            exact iteT ⟨_, rfl, k1 _ rfl p M2 (s0.trans s2) (s2 _ _ ep)⟩
          | false =>
            rw [hen] at k0
            exact iteF (k0 rfl _ (s0.trans s2))
        · rw [decide_eq_false hw]
          exact ⟨_, rfl, iteT (k0 (beh_none (dq_way hw)) _ S0)⟩
  | _ => exact ⟨_, rfl, iteT (k0 rfl _ S0)⟩
theorem dq_at {H : Hp} {xs : List V} {ds : List PyData} {j : Nat} {y : V} (h : DqAll H xs ds) (e : xs[j]? = some y) : ∃ d, ds[j]? = some d ∧ Dq H y d := by
  have l : j < ds.length := by rw [← h.length]; exact (List.getElem?_eq_some_iff.mp e).1
  obtain ⟨v, e2, q⟩ := h.get (List.getElem?_eq_getElem l)
  rw [e] at e2
  cases e2
  exact ⟨_, List.getElem?_eq_getElem l, q⟩
theorem ok_soFar (T : Tx K mg) : FnOk P w K mg base CX0 5 T.a_stocks_so_far T.fd_stocks_so_far ["book", "stock", "members"] (spSoFar T.C_Book) := by
  refine T.F_stocks_so_far.ok sc_stocks_so_far (fun vs H Q E h => ?_) (fun cdv A outer st H vs Q E hr h => ?_)
  · obtain ⟨gs, bs, st, ds, x, a, m, xs, h, _⟩ := h
    rw [h.ev]
    rfl
  obtain ⟨gs, bs, stk, ds, x, a, m, xs, ⟨rfl, hB, nd, ha, sl, bw, hm, hdq, lz⟩, k⟩ := h
  have G_stock_behind : FnOk P w K mg base CX0 4 T.a_stock_behind T.fd_stock_behind ["book", "stock", "value"] (spBehD T.C_Book) := ok_behD T
  have hr_stock_behind : Room 4 _ := hr
  refine ⟨_, ((pss_cons (ps_set (i := 3) sc_stocks_so_far.nd rfl (Or.inl rfl) (pe_lst (pa_cons (pv 1) pa_nil)))
      (pss_cons (ps_for PassesOwn.never rfl (pi_or (pi_list (pv 2)) (pi_tup (pv 2))) (pg_name (i := 4) sc_stocks_so_far.nd rfl (Or.inl rfl))
        (pss_cons (ps_set (i := 1) sc_stocks_so_far.nd rfl (Or.inl rfl) (pe_call G_stock_behind hr_stock_behind rfl T.m_stock_behind T.F_stock_behind.kp T.b_stock_behind .nil pass0 (pa_cons (pv 0) (pa_cons (pv 1) (pa_cons (pv 4) pa_nil)))))
      (pss_cons (ps_if (pt_cmpR op_isN (pv 1) pe_non (nomark _))
        (pss_one (ps_ret (pv 3)))
        pss_nil)
      (pss_one (ps_expr (pe_bm PySem.F.plainAttrs_list PySem.F.slot_list_append PySem.F.type_list_append mt_append (pv 3) (pa_cons (pv 1) pa_nil)))))))
      (pss_one (ps_ret (pv 3)))))), ?_⟩
  refine ⟨_, rfl, (by show 1 ≤ sizeLine; decide), fun D hD => ?_⟩
  have sD := same_new hD (.lst [.ref a])
  rcases hm with hm | hm
  · refine .inl ⟨_, rfl, m, rfl, ⟨_, SqL.of (sD _ _ hm)⟩, for_list (K := K) (a := m) (xs := xs) (fun j σ M => ∃ (pa : Addr) (v4 : Option V) (ss : List Addr) (r : List Int), σ = [some (.ref x), some (.ref pa), some (.ref m), some (.ref D), v4] ∧ Same H M ∧ M D = some (.lst (ss.map V.ref)) ∧ wayF bs stk (ds.take j) = some r ∧ M pa = some (.tup (rowV r)) ∧ AllAt (StkAt M) ss (alongD bs stk (ds.take j)))
      ⟨a, none, [a], stk, rfl, sD, upd_same, rfl, sD _ _ ha, (AllAt.nil.snoc (sD _ _ ha) : AllAt (StkAt _) ([] ++ [a]) ([] ++ [stk]))⟩ (fun j σ M _ ⟨_, _, _, _, _, z, _⟩ => SqL.of (z _ _ hm)) (fun j y σ M hy z => ?_) (fun σ M z => ?_)⟩
    · obtain ⟨pa, v4, ss, r, rfl, sM, eD, ew, epa, aS⟩ := z
      obtain ⟨d, hd, dy⟩ := dq_at hdq hy
      have lr : r.length = stk.length := way_rows bw ew
      have lal := way_len ew
      have ls : ss.length = (alongD bs stk (ds.take j)).length := aS.1
      have tj : ds.take (j + 1) = ds.take j ++ [d] := by rw [← take_snoc hd]
      refine ⟨_, rfl, _, rfl, _, rfl, x, pa, y, d, gs, bs, r, rfl, hB.same sM, nd, epa, by omega, fun b m => by rw [lr]; exact bw b m, dy.same sM, fun r2 e2 p M2 s2 ep => ?_, fun e0 M2 s2 => ?_⟩
      · refine ⟨_, rfl, rfl, _, rfl, iteF ?_⟩
        have eD2 := s2 _ _ eD
        have jl : j < ds.length := (List.getElem?_eq_some_iff.mp hd).1
        have l3 := lal.1
        rw [List.length_take] at l3
        refine ⟨_, rfl, .inl ⟨rfl, _, SqL.of eD2⟩, _, rfl, D, _, _, rfl, rfl, eD2, by rw [List.length_map, ls]; exact small1000 (by omega), ?_⟩
        have npD : p ≠ D := fun z => by rw [z, eD2] at ep; cases ep
        have kD := KT.upd (o := .lst (ss.map V.ref ++ [.ref p])) eD2
        refine ⟨p, _, ss ++ [p], r2, rfl, same_put hD (sM.trans s2), by rw [upd_same, List.map_append]; rfl, by rw [tj, way_snoc ew]; exact e2, kD _ _ ep, ?_⟩
        rw [tj, along_snoc ew e2]
        exact (aS.imp fun p x h => kD _ _ (s2 _ _ h) : AllAt (StkAt _) ss _).snoc (kD _ _ ep)
      · refine ⟨_, rfl, rfl, _, rfl, iteT ⟨_, rfl, k D ss M2 (sM.trans s2) hD (s2 _ _ eD) ?_⟩⟩
        have e : alongD bs stk ds = alongD bs stk (ds.take j) := by
          have q := along_stop (es := ds.drop (j + 1)) ew e0
          have dd : ds.take j ++ d :: ds.drop (j + 1) = ds := by
            have jl : j < ds.length := (List.getElem?_eq_some_iff.mp hd).1
            have hg : ds[j] = d := (List.getElem?_eq_some_iff.mp hd).2
            rw [← hg, List.getElem_cons_drop, List.take_append_drop]
          rw [dd] at q
          exact q
        rw [e]
        exact aS.imp fun p x h => s2 _ _ h
    · obtain ⟨pa, v4, ss, r, rfl, sM, eD, ew, epa, aS⟩ := z
      rw [hdq.length, List.take_length] at aS
      exact ⟨_, rfl, k D ss M sM hD eD aS⟩
  · refine .inr ⟨_, rfl, m, rfl, ⟨_, SqT.of (sD _ _ hm)⟩, for_tup (K := K) (a := m) (xs := xs) (fun j σ M => ∃ (pa : Addr) (v4 : Option V) (ss : List Addr) (r : List Int), σ = [some (.ref x), some (.ref pa), some (.ref m), some (.ref D), v4] ∧ Same H M ∧ M D = some (.lst (ss.map V.ref)) ∧ wayF bs stk (ds.take j) = some r ∧ M pa = some (.tup (rowV r)) ∧ AllAt (StkAt M) ss (alongD bs stk (ds.take j)))
      ⟨a, none, [a], stk, rfl, sD, upd_same, rfl, sD _ _ ha, (AllAt.nil.snoc (sD _ _ ha) : AllAt (StkAt _) ([] ++ [a]) ([] ++ [stk]))⟩ (fun j σ M _ ⟨_, _, _, _, _, z, _⟩ => SqT.of (z _ _ hm)) (fun j y σ M hy z => ?_) (fun σ M z => ?_)⟩
    · obtain ⟨pa, v4, ss, r, rfl, sM, eD, ew, epa, aS⟩ := z
      obtain ⟨d, hd, dy⟩ := dq_at hdq hy
      have lr : r.length = stk.length := way_rows bw ew
      have lal := way_len ew
      have ls : ss.length = (alongD bs stk (ds.take j)).length := aS.1
      have tj : ds.take (j + 1) = ds.take j ++ [d] := by rw [← take_snoc hd]
      refine ⟨_, rfl, _, rfl, _, rfl, x, pa, y, d, gs, bs, r, rfl, hB.same sM, nd, epa, by omega, fun b m => by rw [lr]; exact bw b m, dy.same sM, fun r2 e2 p M2 s2 ep => ?_, fun e0 M2 s2 => ?_⟩
      · refine ⟨_, rfl, rfl, _, rfl, iteF ?_⟩
        have eD2 := s2 _ _ eD
        have jl : j < ds.length := (List.getElem?_eq_some_iff.mp hd).1
        have l3 := lal.1
        rw [List.length_take] at l3
        refine ⟨_, rfl, .inl ⟨rfl, _, SqL.of eD2⟩, _, rfl, D, _, _, rfl, rfl, eD2, by rw [List.length_map, ls]; exact small1000 (by omega), ?_⟩
        have npD : p ≠ D := fun z => by rw [z, eD2] at ep; cases ep
        have kD := KT.upd (o := .lst (ss.map V.ref ++ [.ref p])) eD2
        refine ⟨p, _, ss ++ [p], r2, rfl, same_put hD (sM.trans s2), by rw [upd_same, List.map_append]; rfl, by rw [tj, way_snoc ew]; exact e2, kD _ _ ep, ?_⟩
        rw [tj, along_snoc ew e2]
        exact (aS.imp fun p x h => kD _ _ (s2 _ _ h) : AllAt (StkAt _) ss _).snoc (kD _ _ ep)
      · refine ⟨_, rfl, rfl, _, rfl, iteT ⟨_, rfl, k D ss M2 (sM.trans s2) hD (s2 _ _ eD) ?_⟩⟩
        have e : alongD bs stk ds = alongD bs stk (ds.take j) := by
          have q := along_stop (es := ds.drop (j + 1)) ew e0
          have dd : ds.take j ++ d :: ds.drop (j + 1) = ds := by
            have jl : j < ds.length := (List.getElem?_eq_some_iff.mp hd).1
            have hg : ds[j] = d := (List.getElem?_eq_some_iff.mp hd).2
            rw [← hg, List.getElem_cons_drop, List.take_append_drop]
          rw [dd] at q
          exact q
        rw [e]
        exact aS.imp fun p x h => s2 _ _ h
    · obtain ⟨pa, v4, ss, r, rfl, sM, eD, ew, epa, aS⟩ := z
      rw [hdq.length, List.take_length] at aS
      exact ⟨_, rfl, k D ss M sM hD eD aS⟩
end
end My

namespace My
open PySem PySem.Spec PyProof.Rows L2
theorem walk_revT {K : PySem.W.Frag} {a : Addr} {xs : List V} : Walk (RT.ItvT K a xs.length) xs.length (fun H => SqT K H a xs) (fun i H x H' => H' = H ∧ xs[xs.length - 1 - i]? = some x) :=
  ⟨fun i _ hi q => ⟨hi, xs, xs[xs.length - 1 - i]'(by omega), q, by simp [show xs.length - 1 - i < xs.length by omega]⟩, fun _ _ => Nat.le_refl _, fun _ _ _ _ _ q y => ⟨y.1, y.2 xs q⟩⟩
theorem at_end (xs : List V) (x : V) : atI (xs ++ [x]) (-1) = some x := by
  have e : ixN (xs ++ [x]).length (-1) = some xs.length := by
    unfold ixN
    rw [if_neg (by decide), if_pos (by rw [List.length_append]; simp; omega), List.length_append]
    congr 1
    simp
    omega
  unfold atI
  rw [e]
  show (xs ++ [x])[xs.length]? = some x
  rw [List.getElem?_append_right (Nat.le_refl _), Nat.sub_self]
  rfl
theorem all_last {α : Type} {R : Addr → α → Prop} {ps : List Addr} {xs : List α} {x : α} (h : AllAt R ps xs) (e : xs.getLast? = some x) : ∃ (qs : List Addr) (p : Addr), ps = qs ++ [p] ∧ R p x := by
  have hl : 0 < xs.length := by
    cases xs with
    | nil => cases e
    | cons _ _ => exact Nat.succ_pos _
  have e' : xs[xs.length - 1]? = some x := by rw [← List.getLast?_eq_getElem?]; exact e
  have l2 : ps.length - 1 < ps.length := by have := h.1; omega
  have g : ps[xs.length - 1]? = some (ps[ps.length - 1]) := by rw [← h.1]; exact List.getElem?_eq_getElem l2
  have ne : ps ≠ [] := fun z => by rw [z] at l2; cases l2
  refine ⟨ps.dropLast, ps[ps.length - 1], ?_, h.2 _ _ _ g e'⟩
  have := List.dropLast_concat_getLast ne
  rw [List.getLast_eq_getElem] at this
  exact this.symm
def turnQ (d : PyData) : Dd := match d with
  | .tuple [.str n, .int i] => (n, -i)
  | _ => ("", 0)
def backQ (ds : List PyData) : List Dd := ds.reverse.map turnQ
theorem beh_form {bs : List Br} {st r : List Int} {d : PyData} (h : behD bs st d = some r) : ∃ n i, d = .tuple [.str n, .int i] := by
  unfold behD at h
  cases q : deedQ bs d with
  | none => rw [q] at h; cases h
  | some z =>
    unfold deedQ at q
    split at q
    · exact ⟨_, _, rfl⟩
    · cases q
theorem way_form {bs : List Br} : ∀ {ds : List PyData} {st r : List Int}, wayF bs st ds = some r → ∀ d ∈ ds, ∃ n i, d = .tuple [.str n, .int i]
  | [], _, _, _, _, m => nomatch m
  | e :: ds, st, r, h, d, m => by
    have h : (match behD bs st e with | some r => wayF bs r ds | none => none) = some r := h
    cases q : behD bs st e with
    | none => rw [q] at h; try cases h
    | some r' =>
      rw [q] at h
      rcases List.mem_cons.mp m with rfl | m
      · exact beh_form q
      · exact way_form h d m
theorem dq_deed {H : Hp} {v : V} {n : Str} {i : Int} (h : Dq H v (.tuple [.str n, .int i])) : ∃ t, v = .ref t ∧ H t = some (.tup [.str n, .int i]) := by
  cases h with
  | tup e hs =>
    cases hs with
    | cons a r => cases r with
      | cons b r =>
        cases r
        cases a
        cases b
        exact ⟨_, rfl, e⟩
def spAlongD (C Ce : Addr) : Sp := fun vs H Q E => ∃ (gs : List Str) (bs : List Br) (st : List Int) (ds : List PyData) (x a m : Addr) (xs : List V), ScrAt C H vs gs bs st ds x a m xs ∧
  (∀ r, wayF bs st ds = some r → ∀ (D : Addr) (ss : List Addr) (H' : Hp), Same H H' → H D = none → H' D = some (.lst (ss.map V.ref)) → AllAt (StkAt H') ss (alongD bs st ds) → Q (.ref D) H') ∧ (wayF bs st ds = none → NumE Ce H (((alongD bs st ds).length : Nat) - 1 : Int) E)
def spWalked (C Ce : Addr) : Sp := fun vs H Q E => ∃ (gs : List Str) (bs : List Br) (st : List Int) (ds : List PyData) (x a m : Addr) (xs : List V), ScrAt C H vs gs bs st ds x a m xs ∧
  (∀ r, wayF bs st ds = some r → ∀ (p : Addr) (H' : Hp), Same H H' → H' p = some (.tup (rowV r)) → Q (.ref p) H') ∧ (wayF bs st ds = none → NumE Ce H (((alongD bs st ds).length : Nat) - 1 : Int) E)
def spBackS (C Ce : Addr) : Sp := fun vs H Q E => ∃ (gs : List Str) (bs : List Br) (st : List Int) (ds : List PyData) (x a m : Addr) (xs : List V), ScrAt C H vs gs bs st ds x a m xs ∧
  (∀ r, wayF bs st ds = some r → ∀ (D : Addr) (es : List Addr) (H' : Hp), Same H H' → H D = none → H' D = some (.lst (es.map V.ref)) → AllAt (DeedAt H') es (backQ ds) → Q (.ref D) H') ∧ (wayF bs st ds = none → NumE Ce H (((alongD bs st ds).length : Nat) - 1 : Int) E)
def spFirst (K : PySem.W.Frag) (C : Addr) : Sp := fun vs H Q _ => (∃ (gs : List Str) (bs : List Br) (st : List Int) (ds : List PyData) (x a m : Addr) (xs : List V), ScrAt C H vs gs bs st ds x a m xs ∧
    (∀ r, wayF bs st ds = some r → ∀ H', Same H H' → Q .non H') ∧ (wayF bs st ds = none → ∀ H', Same H H' → Q (.int (((alongD bs st ds).length : Nat) - 1 : Int)) H')) ∨
  (∃ (x a : Addr) (v : V) (t : Value), vs = [.ref x, .ref a, v] ∧ (∀ H', Same H H' → TyX K H' v t) ∧ PySem.W.kitAny K t [.type "list", .type "tuple"] = some false ∧ ∀ H', Same H H' → Q (.int 0) H')
section
variable {P : Program} {w : World} {K : PySem.W.Frag} {mg : Str → Option Value} {base : Heap}
theorem oki_BadDeed (T : Tx K mg) : FnOk P w K mg base CX0 1 T.e_BadDeed.fI T.e_BadDeed.fd ["self", "number"] (spInit T.e_BadDeed.C "number") := by
  refine T.e_BadDeed.F.ok sc_BadDeed (fun vs H Q E h => ?_) (fun cdv A outer st H vs Q E hr h => ?_)
  · obtain ⟨a, v, rfl, _⟩ := h
    rfl
  obtain ⟨a, v, rfl, ha, k⟩ := h
  refine ⟨_, pss_one (ps_ost (pv 0) (pv 1)), ?_⟩
  exact ⟨_, rfl, _, rfl, a, _, rfl, T.e_BadDeed.oex, T.e_BadDeed.noF, .inl ⟨ha, fun dx h1 h2 => k dx h1 h2⟩⟩
theorem ok_alongD (T : Tx K mg) : FnOk P w K mg base (L2.CX P w) 6 T.a_stocks_along T.fd_stocks_along ["book", "stock", "script"] (spAlongD T.C_Book T.e_BadDeed.C) := by
  refine T.F_stocks_along.okX sc_stocks_along (fun vs H Q E h => ?_) (fun cdv A outer st H vs Q E hr h => ?_)
  · obtain ⟨gs, bs, st, ds, x, a, m, xs, h, _⟩ := h
    rw [h.ev]
    rfl
  obtain ⟨gs, bs, stk, ds, x, a, m, xs, S, kN, kE⟩ := h
  obtain rfl := S.ev
  have G_stocks_so_far : FnOk P w K mg base CX0 5 T.a_stocks_so_far T.fd_stocks_so_far ["book", "stock", "members"] (spSoFar T.C_Book) := ok_soFar T
  have hr_stocks_so_far : Room 5 _ := hr
  have hrE : Room 2 _ := hr.mono (by omega)
  refine ⟨_, ((pss_cons (ps_set (i := 3) sc_stocks_along.nd rfl (Or.inl rfl) (pe_call G_stocks_so_far hr_stocks_so_far rfl T.m_stocks_so_far T.F_stocks_so_far.kp T.b_stocks_so_far .nil pass0 (pa_cons (pv 0) (pa_cons (pv 1) (pa_cons (pv 2) pa_nil)))))
      (pss_cons (ps_if (pt_cmpR op_le (pe_callB call_len_seq (by rfl) T.n_len (by decide +kernel) (pa_cons (pv 3) pa_nil)) (pe_callB call_len_seq (by rfl) T.n_len (by decide +kernel) (pa_cons (pv 2) pa_nil)) (nomark _))
        (pss_one (ps_raise rfl (takes_of rfl rfl rfl rfl) (pmk_oex T.e_BadDeed.oex T.e_BadDeed.iC T.e_BadDeed.tI (oki_BadDeed T) hrE T.e_BadDeed.b .nil pass0 rfl T.e_BadDeed.m (pa_cons (pe_op op_sub (pe_callB call_len_seq (by rfl) T.n_len (by decide +kernel) (pa_cons (pv 3) pa_nil)) pe_int) pa_nil))))
        pss_nil)
      (pss_one (ps_ret (pv 3)))))), ?_⟩
  refine ⟨_, rfl, _, rfl, _, rfl, gs, bs, stk, ds, x, a, m, xs, S, fun D ss M s0 hD eD aS => ?_⟩
  have ls : ss.length = (alongD bs stk ds).length := aS.1
  have lx := S.dq.length
  have hm : SqL K M m xs ∨ SqT K M m xs := (S.hm.same s0).imp (fun h => SqL.of h) (fun h => SqT.of h)
  refine ⟨_, rfl, D, _, rfl, .inl (SqL.of eD), _, rfl, m, _, rfl, hm, _, _, rfl, rfl, _, rfl, ?_⟩
  cases e : wayF bs stk ds with
  | some r =>
    have l2 := (way_len e).1
    refine iteD (fun h => ?_) (fun _ => ⟨_, rfl, kN r e D ss M s0 hD eD aS⟩)
    rw [List.length_map] at h
    omega
  | none =>
    have l2 := way_none e
    refine iteD (fun _ => ?_) (fun h => ?_)
    · refine ⟨_, rfl, D, _, rfl, .inl (SqL.of eD), _, _, rfl, rfl, (by show 1 ≤ 1000; decide), fun a2 ha2 => ?_⟩
      rw [List.length_map, ls]
      refine ⟨a2, _, rfl, upd_same, fun ex e1 e2 => ⟨rfl, ex, [("number", .int (((alongD bs stk ds).length : Nat) - 1 : Int))], upd_same, ?_, ?_, ?_⟩⟩
      · rw [upd_ne e2]; exact upd_same
      · rw [upd_ne e2] at e1; exact e1
      · rw [upd_ne e2] at e1
        refine kE e ex _ (fun y u hy => ?_) upd_same
        have hy := s0 _ _ hy
        have n1 : y ≠ a2 := ne_of_none hy ha2
        have n2 : y ≠ ex := ne_of_none hy e1
        rw [upd_ne n2, del_ne n1, upd_ne n1, upd_ne n2, upd_ne n1]
        exact hy
    · rw [List.length_map] at h
      omega
theorem ok_walked (T : Tx K mg) : FnOk P w K mg base (L2.CX P w) 7 T.a_walked T.fd_walked ["book", "stock", "script"] (spWalked T.C_Book T.e_BadDeed.C) := by
  refine T.F_walked.okX sc_walked (fun vs H Q E h => ?_) (fun cdv A outer st H vs Q E hr h => ?_)
  · obtain ⟨gs, bs, st, ds, x, a, m, xs, h, _⟩ := h
    rw [h.ev]
    rfl
  obtain ⟨gs, bs, stk, ds, x, a, m, xs, S, kN, kE⟩ := h
  obtain rfl := S.ev
  have G_stocks_along : FnOk P w K mg base (L2.CX P w) 6 T.a_stocks_along T.fd_stocks_along ["book", "stock", "script"] (spAlongD T.C_Book T.e_BadDeed.C) := ok_alongD T
  have hr_stocks_along : Room 6 _ := hr
  refine ⟨_, ((pss_one (ps_ret (pe_ix (show IxR _ (rIxL K) from ix_list) (pe_call G_stocks_along hr_stocks_along rfl T.m_stocks_along T.F_stocks_along.kp T.b_stocks_along .nil (passes_call (takes_of rfl rfl rfl rfl) (fun _ _ _ _ z => z)) (pa_cons (pv 0) (pa_cons (pv 1) (pa_cons (pv 2) pa_nil)))) (pe_un un_neg pe_int) (fun _ _ => rfl))))), ?_⟩
  refine ⟨_, rfl, _, rfl, _, rfl, gs, bs, stk, ds, x, a, m, xs, S, fun r e D ss M s0 hD eD aS => ?_, fun e => ?_⟩
  · obtain ⟨qs, p, rfl, hp⟩ := all_last aS (way_len e).2
    rw [List.map_append] at eD
    refine ⟨1, rfl, D, _, _, _, rfl, rfl, SqL.of eD, at_end _ _, kN r e p M s0 hp⟩
  · exact kE e
theorem ok_backS (T : Tx K mg) : FnOk P w K mg base (L2.CX P w) 7 T.a_script_back T.fd_script_back ["book", "stock", "script"] (spBackS T.C_Book T.e_BadDeed.C) := by
  refine T.F_script_back.okX sc_script_back (fun vs H Q E h => ?_) (fun cdv A outer st H vs Q E hr h => ?_)
  · obtain ⟨gs, bs, st, ds, x, a, m, xs, h, _⟩ := h
    rw [h.ev]
    rfl
  obtain ⟨gs, bs, stk, ds, x, a, m, xs, S, kN, kE⟩ := h
  obtain rfl := S.ev
  have G_stocks_along : FnOk P w K mg base (L2.CX P w) 6 T.a_stocks_along T.fd_stocks_along ["book", "stock", "script"] (spAlongD T.C_Book T.e_BadDeed.C) := ok_alongD T
  have hr_stocks_along : Room 6 _ := hr
  have G_turned_deed : FnOk P w K mg base CX0 1 T.a_turned_deed T.fd_turned_deed ["deed"] spTurned := ok_turned T
  have hr_turned_deed : Room 1 _ := hr.mono (by omega)
  refine ⟨_, ((pss_cons (ps_expr (pe_call G_stocks_along hr_stocks_along rfl T.m_stocks_along T.F_stocks_along.kp T.b_stocks_along .nil (passes_call (takes_of rfl rfl rfl rfl) (fun _ _ _ _ z => z)) (pa_cons (pv 0) (pa_cons (pv 1) (pa_cons (pv 2) pa_nil)))))
      (pss_one (ps_ret (pe_lc (own := [("deed", 3)]) (by rfl) sc_script_back.nd (RT.pi_revA (by rfl) T.n_reversed (pv 2)) (blkOk_by (own := [("deed", 3)]) (N := ["book", "stock", "script", "deed"]) (sc := defScope s_script_back) (by decide +kernel)) (fun _ _ _ _ _ => pg_name (i := 3) sc_script_back.nd rfl (Or.inl rfl)) (fun _ _ _ _ _ => pts_nil) (fun _ _ _ _ _ => (pe_call G_turned_deed hr_turned_deed rfl T.m_turned_deed T.F_turned_deed.kp T.b_turned_deed .nil pass0 (pa_cons (pv 3) pa_nil)))))))), ?_⟩
  refine ⟨_, rfl, _, rfl, _, rfl, gs, bs, stk, ds, x, a, m, xs, S, fun r e D0 ss M s0 hD0 eD0 aS => ?_, fun e => kE e⟩
  have lx := S.dq.length
  have lz := S.lz
  rcases S.hm.same s0 with hm0 | hm0
  · refine ⟨_, rfl, m, _, rfl, .inl ⟨SqL.of hm0, fun D hD => ?_⟩⟩
    refine lc_it walk_rev (fun j N => ∃ es : List Addr, Same M N ∧ N D = some (.lst (es.map V.ref)) ∧ AllAt (DeedAt N) es ((ds.reverse.take j).map turnQ)) ⟨[], same_new hD _, upd_same, AllAt.nil⟩ (fun j N _ ⟨_, z, _⟩ => SqL.of (z _ _ hm0)) (fun j y N N' hj z hy => ?_) (fun N z => ?_)
    · obtain ⟨rfl, hy⟩ := hy
      obtain ⟨es, sN, eN, aN⟩ := z
      obtain ⟨d, hd, dy⟩ := dq_at S.dq hy
      rw [lx] at hj hd
      obtain ⟨n, i, rfl⟩ := way_form e d (List.mem_of_getElem? hd)
      obtain ⟨t, rfl, ht⟩ := dq_deed dy
      have hr' : ds.reverse[j]? = some (.tuple [.str n, .int i]) := by rw [List.getElem?_reverse hj]; exact hd
      have les : es.length ≤ ds.length := by rw [aN.1, List.length_map, List.length_take, List.length_reverse]; omega
      refine ⟨rfl, _, rfl, t, n, i, rfl, sN _ _ (s0 _ _ ht), fun p N2 s2 ep => ?_⟩
      have kD := KT.upd (o := .lst (es.map V.ref ++ [.ref p])) (s2 _ _ eN)
      refine ⟨_, s2 _ _ eN, by rw [List.length_map]; exact small1000 (by omega), es ++ [p], same_put hD (sN.trans s2), by rw [upd_same, List.map_append]; rfl, ?_⟩
      rw [← take_snoc hr', List.map_append]
      have a0 : AllAt (DeedAt (L2.upd N2 D (.lst (es.map V.ref ++ [.ref p])))) es ((ds.reverse.take j).map turnQ) := aN.imp fun p x h => kD _ _ (s2 _ _ h)
      exact a0.snoc (p := p) (x := (n, -i)) (kD _ _ ep)
    · obtain ⟨es, sN, eN, aN⟩ := z
      rw [lx, ← List.length_reverse, List.take_length] at aN
      exact kN r e D es N (s0.trans sN) (s0.free hD) eN aN
  · refine ⟨_, rfl, m, _, rfl, .inr ⟨SqT.of hm0, fun D hD => ?_⟩⟩
    refine lc_it walk_revT (fun j N => ∃ es : List Addr, Same M N ∧ N D = some (.lst (es.map V.ref)) ∧ AllAt (DeedAt N) es ((ds.reverse.take j).map turnQ)) ⟨[], same_new hD _, upd_same, AllAt.nil⟩ (fun j N _ ⟨_, z, _⟩ => SqT.of (z _ _ hm0)) (fun j y N N' hj z hy => ?_) (fun N z => ?_)
    · obtain ⟨rfl, hy⟩ := hy
      obtain ⟨es, sN, eN, aN⟩ := z
      obtain ⟨d, hd, dy⟩ := dq_at S.dq hy
      rw [lx] at hj hd
      obtain ⟨n, i, rfl⟩ := way_form e d (List.mem_of_getElem? hd)
      obtain ⟨t, rfl, ht⟩ := dq_deed dy
      have hr' : ds.reverse[j]? = some (.tuple [.str n, .int i]) := by rw [List.getElem?_reverse hj]; exact hd
      have les : es.length ≤ ds.length := by rw [aN.1, List.length_map, List.length_take, List.length_reverse]; omega
      refine ⟨rfl, _, rfl, t, n, i, rfl, sN _ _ (s0 _ _ ht), fun p N2 s2 ep => ?_⟩
      have kD := KT.upd (o := .lst (es.map V.ref ++ [.ref p])) (s2 _ _ eN)
      refine ⟨_, s2 _ _ eN, by rw [List.length_map]; exact small1000 (by omega), es ++ [p], same_put hD (sN.trans s2), by rw [upd_same, List.map_append]; rfl, ?_⟩
      rw [← take_snoc hr', List.map_append]
      have a0 : AllAt (DeedAt (L2.upd N2 D (.lst (es.map V.ref ++ [.ref p])))) es ((ds.reverse.take j).map turnQ) := aN.imp fun p x h => kD _ _ (s2 _ _ h)
      exact a0.snoc (p := p) (x := (n, -i)) (kD _ _ ep)
    · obtain ⟨es, sN, eN, aN⟩ := z
      rw [lx, ← List.length_reverse, List.take_length] at aN
      exact kN r e D es N (s0.trans sN) (s0.free hD) eN aN
theorem ok_first (T : Tx K mg) : FnOk P w K mg base CX0 6 T.a_first_bad T.fd_first_bad ["book", "stock", "value"] (spFirst K T.C_Book) := by
  refine T.F_first_bad.ok sc_first_bad (fun vs H Q E h => ?_) (fun cdv A outer st H vs Q E hr h => ?_)
  · rcases h with ⟨gs, bs, st, ds, x, a, m, xs, h, _⟩ | ⟨x, a, v, t, rfl, _⟩
    · rw [h.ev]
      rfl
    · rfl
  have G_stocks_so_far : FnOk P w K mg base CX0 5 T.a_stocks_so_far T.fd_stocks_so_far ["book", "stock", "members"] (spSoFar T.C_Book) := ok_soFar T
  have hr_stocks_so_far : Room 5 _ := hr
  refine ⟨_, ((pss_cons (ps_if (pt_not (pt_val (pe_callB call_isiT (by rfl) T.n_isinstance (by decide +kernel) (pa_cons (pv 2) (pa_cons (pe_tup (pa_cons (pe_bltn (v := .ty "list") (by rfl) T.n_list (by decide +kernel) rfl) (pa_cons (pe_bltn (v := .ty "tuple") (by rfl) T.n_tuple (by decide +kernel) rfl) pa_nil))) pa_nil)))))
        (pss_one (ps_ret pe_int))
        pss_nil)
      (pss_cons (ps_set (i := 3) sc_first_bad.nd rfl (Or.inl rfl) (pe_call G_stocks_so_far hr_stocks_so_far rfl T.m_stocks_so_far T.F_stocks_so_far.kp T.b_stocks_so_far .nil pass0 (pa_cons (pv 0) (pa_cons (pv 1) (pa_cons (pv 2) pa_nil)))))
      (pss_one (ps_ret (pe_ifExp (pt_cmpR op_gt (pe_callB call_len_seq (by rfl) T.n_len (by decide +kernel) (pa_cons (pv 3) pa_nil)) (pe_callB call_len_seq (by rfl) T.n_len (by decide +kernel) (pa_cons (pv 2) pa_nil)) (nomark _)) pe_non (pe_op op_sub (pe_callB call_len_seq (by rfl) T.n_len (by decide +kernel) (pa_cons (pv 3) pa_nil)) pe_int))))))), ?_⟩
  rcases h with ⟨gs, bs, stk, ds, x, a, m, xs, S, kN, kI⟩ | ⟨x, a, v, t, rfl, ty, kt, k⟩
  · obtain rfl := S.ev
    refine ⟨_, rfl, (by show 2 ≤ sizeLine; decide), fun t0 ht0 => ?_⟩
    have s0 := same_new ht0 (.tup [.ty "list", .ty "tuple"])
    have e0 := upd_same (H := H) (a := t0) (o := .tup [.ty "list", .ty "tuple"])
    have S1 : ScrAt T.C_Book (L2.upd H t0 (.tup [.ty "list", .ty "tuple"])) [.ref x, .ref a, .ref m] gs bs stk ds x a m xs := ⟨rfl, S.hB.same s0, S.nd, s0 _ _ S.ha, S.sl, S.bw, S.hm.same s0, S.dq.same s0, S.lz⟩
    generalize L2.upd H t0 (.tup [.ty "list", .ty "tuple"]) = H1 at s0 e0 S1 ⊢
    have two : ∃ t, TyX K H1 (.ref m) t ∧ PySem.W.kitAny K t [.type "list", .type "tuple"] = some true := by
      rcases S1.hm with h | h
      · exact ⟨.type "list", .base (.lst h), is_seq (.list [])⟩
      · exact ⟨.type "tuple", .base (.tup h), is_seq (.tuple [])⟩
    obtain ⟨ty, hty, kty⟩ := two
    refine ⟨.ref m, t0, [.ty "list", .ty "tuple"], ty, [.type "list", .type "tuple"], _, rfl, e0, .cons (.ty _) (.cons (.ty _) .nil), hty, kty, ⟨_, rfl, iteF ?_⟩⟩
    refine ⟨_, rfl, _, rfl, _, rfl, gs, bs, stk, ds, x, a, m, xs, S1, fun D ss M s1 hD eD aS => ?_⟩
    have ls : ss.length = (alongD bs stk ds).length := aS.1
    have lx := S.dq.length
    have hm : SqL K M m xs ∨ SqT K M m xs := (S1.hm.same s1).imp (fun h => SqL.of h) (fun h => SqT.of h)
    refine ⟨_, rfl, D, _, rfl, .inl (SqL.of eD), _, rfl, m, _, rfl, hm, _, _, rfl, rfl, _, rfl, ?_⟩
    cases e : wayF bs stk ds with
    | some r =>
      have l2 := (way_len e).1
      refine iteD (fun _ => ?_) (fun h => ?_)
      · exact kN r e M (s0.trans s1)
      · rw [List.length_map] at h
        omega
    | none =>
      have l2 := way_none e
      refine iteD (fun h => ?_) (fun _ => ?_)
      · rw [List.length_map] at h
        omega
      · refine ⟨_, rfl, D, _, rfl, .inl (SqL.of eD), _, _, rfl, rfl, ?_⟩
        rw [List.length_map, ls]
        exact kI e M (s0.trans s1)
  · refine ⟨_, rfl, (by show 2 ≤ sizeLine; decide), fun t0 ht0 => ?_⟩
    have s0 := same_new ht0 (.tup [.ty "list", .ty "tuple"])
    refine ⟨v, t0, [.ty "list", .ty "tuple"], t, [.type "list", .type "tuple"], _, rfl, upd_same, .cons (.ty _) (.cons (.ty _) .nil), ty _ s0, kt, ⟨_, rfl, iteT (k _ s0)⟩⟩
end
end My

namespace My
open PySem PySem.Spec PyProof.Rows L2
def spIsDeedD : Sp := fun vs H Q _ => ∃ (wd a l : Addr) (v : V) (d : PyData) (ps : List Addr) (n : Nat) (bs : List Br) (st : List Int), vs = [.ref wd, .ref a, v] ∧ WldR H wd l ps n bs ∧ H a = some (.tup (rowV st)) ∧ st.length = n ∧ n ≤ 100 ∧ Dq H v d ∧
  ∀ H', Same H H' → Q (.bl (behD bs st d).isSome) H'
theorem in_strs {n : Str} {ns : List Str} : inV (.str n) (ns.map V.str) = decide (n ∈ ns) := by
  unfold inV
  induction ns with
  | nil => rfl
  | cons m ms ih =>
    rw [List.map_cons, List.any_cons, ih]
    show ((m == n) || _) = _
    by_cases e : n = m
    · subst e; simp
    · have e' : ¬ m = n := fun z => e z.symm
      have b : (m == n) = false := beq_eq_false_iff_ne.mpr e'
      rw [b, Bool.false_or]
      simp [e]
theorem flat_names (ns : List Str) : (ns.map V.str).all flatV = true := by
  rw [List.all_map]
  exact List.all_eq_true.mpr fun _ _ => rfl
section
variable {P : Program} {w : World} {K : PySem.W.Frag} {mg : Str → Option Value} {base : Heap}
theorem ok_is_deedD (T : Tx K mg) : FnOk P w K mg base CX0 3 T.a_law_is_deed T.fd_law_is_deed ["_law_world", "_law_stock_here", "_law_value"] spIsDeedD := by
  refine T.F_law_is_deed.ok sc_law_is_deed (fun vs H Q E h => ?_) (fun cdv A outer st H vs Q E hr h => ?_)
  · obtain ⟨wd, a, l, v, d, ps, n, bs, st, rfl, _⟩ := h
    rfl
  obtain ⟨wd, a, l, v, d, ps, n', bs, stk, rfl, W, ha, ln, n100, dq, k⟩ := h
  have hu := hu_of hr
  have G_law_done : FnOk P w K mg base CX0 2 T.a_law_done T.fd_law_done ["_law_world", "_law_stock_here", "_law_deed"] spLDone := ok_ldone T
  have hr_law_done : Room 2 _ := hr
  refine ⟨_, ((pss_cons (ps_if (PW.pt (pw_or (pt_not (pt_val (pe_callB (show CallR _ (.builtin "isinstance") (rIsi K) from call_isi) (by rfl) T.n_isinstance (by decide +kernel) (pa_cons (pv 2) (pa_cons (pe_bltn (v := .ty "tuple") (by rfl) T.n_tuple (by decide +kernel) rfl) pa_nil))))) (pw_or (pt_cmpR op_ne (pe_callB call_len_seq (by rfl) T.n_len (by decide +kernel) (pa_cons (pv 2) pa_nil)) pe_int (nomark _)) (pw_or1 (pt_not (pt_val (pe_callB (show CallR _ (.builtin "isinstance") (rIsi K) from call_isi) (by rfl) T.n_isinstance (by decide +kernel) (pa_cons (pe_ix (show IxR _ (rIxT K) from ix_tup) (pv 2) pe_int (fun _ _ => rfl)) (pa_cons (pe_bltn (v := .ty "str") (by rfl) T.n_str (by decide +kernel) rfl) pa_nil)))))))))
        (pss_one (ps_ret pe_bl))
        pss_nil)
      (pss_cons (ps_if (PW.pt (pw_or (pt_not (pt_val (pe_callB (show CallR _ (.builtin "isinstance") (rIsi K) from call_isi) (by rfl) T.n_isinstance (by decide +kernel) (pa_cons (pe_ix (show IxR _ (rIxT K) from ix_tup) (pv 2) pe_int (fun _ _ => rfl)) (pa_cons (pe_bltn (v := .ty "int") (by rfl) T.n_int (by decide +kernel) rfl) pa_nil))))) (pw_or (pt_val (pe_callB (show CallR _ (.builtin "isinstance") (rIsi K) from call_isi) (by rfl) T.n_isinstance (by decide +kernel) (pa_cons (pe_ix (show IxR _ (rIxT K) from ix_tup) (pv 2) pe_int (fun _ _ => rfl)) (pa_cons (pe_bltn (v := .ty "bool") (by rfl) T.n_bool (by decide +kernel) rfl) pa_nil)))) (pw_or1 (pt_cmpR op_notIn_seq (pe_ix (show IxR _ (rIxT K) from ix_tup) (pv 2) pe_int (fun _ _ => rfl)) (pe_tup (pa_cons pe_int (pa_cons (pe_un un_neg pe_int) pa_nil))) (by rfl))))))
        (pss_one (ps_ret pe_bl))
        pss_nil)
      (pss_one (ps_ret (pe_and (pe_cmpR op_in_seq (pe_ix (show IxR _ (rIxT K) from ix_tup) (pv 2) pe_int (fun _ _ => rfl)) (pe_lc (own := [("_law_pair", 3)]) (by rfl) sc_law_is_deed.nd (pi_list (pe_dget hu (pv 0) pe_str (fun _ _ => rfl))) (blkOk_by (own := [("_law_pair", 3)]) (N := ["_law_world", "_law_stock_here", "_law_value", "_law_pair"]) (sc := defScope s_law_is_deed) (by decide +kernel)) (fun _ _ _ _ _ => pg_name (i := 3) sc_law_is_deed.nd rfl (Or.inl rfl)) (fun _ _ _ _ _ => pts_nil) (fun _ _ _ _ _ => (pe_ix (show IxR _ (rIxT K) from ix_tup) (pv 3) pe_int (fun _ _ => rfl)))) (by rfl)) (pe_one (pe_cmpR op_notN (pe_call G_law_done hr_law_done rfl T.m_law_done T.F_law_done.kp T.b_law_done .nil pass0 (pa_cons (pv 0) (pa_cons (pv 1) (pa_cons (pv 2) pa_nil)))) pe_non (nomark _))))))))), ?_⟩
  have S0 : Same H H := fun _ _ e => e
  have kF : behD bs stk d = none → ∀ H', Same H H' → Q (.bl false) H' := fun e H' s => by
    have := k H' s
    rw [e] at this
    exact this
  have kT : ∀ r, behD bs stk d = some r → ∀ H', Same H H' → Q (.bl true) H' := fun r e H' s => by
    have := k H' s
    rw [e] at this
    exact this
  refine ⟨_, rfl, v, .ty "tuple", .type (tyD d), .type "tuple", _, rfl, .ty _, dq.ty, is_tup d, ?_⟩
  cases dq with
  | @tup t xs ds hd hs =>
    refine ⟨_, rfl, iteF ?_⟩
    refine ⟨_, rfl, _, _, rfl, .inr (SqT.of hd), rfl, _, rfl, ?_⟩
    refine iteN (fun ne => kF (beh_none (dq_len fun z => ne (by rw [hs.length, z]; rfl))) _ S0) (fun e2 => ?_)
    have l2 : ds.length = 2 := by
      have := V.int.inj e2
      rw [hs.length] at this
      omega
    obtain ⟨d1, d2, rfl⟩ : ∃ d1 d2, ds = [d1, d2] := match ds, l2 with
      | [d1, d2], _ => ⟨d1, d2, rfl⟩
    obtain ⟨v1, v2, rfl, q1, q2⟩ : ∃ v1 v2, xs = [v1, v2] ∧ Dq H v1 d1 ∧ Dq H v2 d2 := by
      cases hs with
      | cons q1 r => cases r with
        | cons q2 r => cases r; exact ⟨_, _, rfl, q1, q2⟩
    refine ⟨_, rfl, t, _, _, v1, rfl, rfl, SqT.of hd, rfl, v1, .ty "str", .type (tyD d1), .type "str", _, rfl, .ty _, q1.ty, is_str d1, ?_⟩
    have nostr : (∀ x, d1 ≠ .str x) → behD bs stk (.tuple [d1, d2]) = none := fun e => beh_none (dq_has (by
      cases d1 with
      | str x => exact absurd rfl (e x)
      | _ => rfl))
    cases q1 with
    | str n =>
      refine ⟨_, rfl, iteF ?_⟩
      refine ⟨_, rfl, t, _, _, v2, rfl, rfl, SqT.of hd, rfl, v2, .ty "int", .type (tyD d2), .type "int", _, rfl, .ty _, q2.ty, is_int d2, ?_⟩
      have noint : isIntD d2 = false → behD bs stk (.tuple [.str n, d2]) = none := fun e => beh_none (dq_int e)
      cases q2 with
      | int i =>
        refine ⟨_, rfl, iteF ?_⟩
        refine ⟨_, rfl, t, _, _, _, rfl, rfl, SqT.of hd, rfl, _, .ty "bool", .type (tyD (.int i)), .type "bool", _, rfl, .ty _, .base (.int i), is_bool (.int i), ?_⟩
        refine ⟨_, rfl, iteF ?_⟩
        refine ⟨_, rfl, t, _, _, _, rfl, rfl, SqT.of hd, rfl, ?_⟩
        refine ⟨1, rfl, (by show 2 ≤ sizeLine; decide), fun p hp => ⟨p, _, rfl, .inr (SqT.of upd_same), rfl, rfl, _, rfl, ?_⟩⟩
        have sp := same_new hp (.tup [.int 1, .int (-1)])
        rw [show inV (.int i) [.int 1, .int (-1)] = decide (i = 1 ∨ i = -1) from inW i]
        by_cases hw : i = 1 ∨ i = -1
        · rw [decide_eq_true hw]
          refine iteF ?_
          have W1 := W.same sp
          have hd1 := sp _ _ hd
          have ha1 := sp _ _ ha
          generalize L2.upd H p (.tup [.int 1, .int (-1)]) = H1 at sp W1 hd1 ha1 ⊢
          refine ⟨_, rfl, t, _, _, _, rfl, rfl, SqT.of hd1, rfl, _, rfl, wd, _, rfl, W1.at_, l, rfl, ⟨_, SqL.of W1.hl⟩, fun D hD => ?_⟩
          refine lc_list (xs := ps.map V.ref) (Lc H1 D ((bs.map (·.1)).map V.str)) (Lc.zero hD) (fun j N _ z => SqL.of (z.1 _ _ W1.hl)) (fun j y N hy z => ?_) (fun N z => ?_)
          · obtain ⟨q, hq, rfl⟩ := getM hy
            obtain ⟨b, hbi, ra, e1, e2⟩ := (W1.hb.same z.1).get hq
            refine ⟨rfl, _, rfl, q, _, _, _, rfl, rfl, SqT.of e1, atI_nat (j := 0) rfl, ?_⟩
            exact Lc.lay hD z (mapM (mapM hbi)) (by rw [List.length_map, List.length_map]; have := W.bl; omega)
          obtain ⟨sN, eN⟩ := z.all (by rw [List.length_map, List.length_map, List.length_map, W.hb.1])
          refine ⟨D, _, rfl, .inl (SqL.of eN), rfl, flat_names _, ?_⟩
          rw [if_neg Bool.false_ne_true, in_strs]
          by_cases hn : n ∈ bs.map (·.1)
          · rw [decide_eq_true hn]
            refine ⟨_, rfl, iteT ?_⟩
            obtain ⟨b, hb, rfl⟩ := List.mem_map.mp hn
            obtain ⟨j, hj, ej⟩ := List.getElem_of_mem hb
            have hbj : bs[j]? = some b := by rw [List.getElem?_eq_getElem hj, ej]
            have bh : behD bs stk (.tuple [.str b.1, .int i]) = if okP stk (b, i) = true then some (combR 1 stk i b.2) else none := beh_of (z := (b, i)) W.nd hb hw
            refine ⟨_, rfl, _, rfl, _, rfl, wd, a, t, l, ps, n', bs, j, b, stk, i, rfl, W1.same sN, hbj, sN _ _ ha1, ln, n100, sN _ _ hd1, hw, fun u M s2 eu pu => ?_⟩
            refine ⟨rfl, ?_⟩
            show Q (.bl (!decide (u = .non))) M
            rw [eu, Bool.not_not]
            have q := k M (sp.trans (sN.trans s2))
            rw [bh] at q
            have eo : okP stk (b, i) = enoughB (combR 1 stk i b.2) := rfl
            rw [eo] at q
            cases hen : enoughB (combR 1 stk i b.2) with
            | true => rw [hen] at q; exact q
            | false => rw [hen] at q; exact q
          · rw [decide_eq_false hn]
            exact ⟨_, rfl, iteF (kF (beh_none (dq_has (decide_eq_false hn))) _ (sp.trans sN))⟩
        · rw [decide_eq_false hw]
          exact iteT (kF (beh_none (dq_way hw)) _ sp)
      | bl b =>
        refine ⟨_, rfl, iteF ?_⟩
        refine ⟨_, rfl, t, _, _, _, rfl, rfl, SqT.of hd, rfl, _, .ty "bool", .type (tyD (.bool b)), .type "bool", _, rfl, .ty _, .base (.bl b), is_bool (.bool b), ?_⟩
        exact ⟨_, rfl, iteT (kF (noint rfl) _ S0)⟩
      | _ => exact ⟨_, rfl, iteT (kF (noint rfl) _ S0)⟩
    | _ => exact ⟨_, rfl, iteT (kF (nostr fun _ z => nomatch z) _ S0)⟩
  | _ => exact ⟨_, rfl, iteT (kF rfl _ S0)⟩
end
end My

namespace My
open PySem PySem.Spec PyProof.Rows L2
/-- data -/
def NewD (s c : Addr) (M : Hp) (v : V) : Prop := ∃ d, Dq (cutH s c M) v d
theorem NewD.same {s c : Addr} {M M' : Hp} {v : V} (h : NewD s c M v) (e : Same M M') : NewD s c M' v := by
  obtain ⟨d, q⟩ := h
  exact ⟨d, q.same (cut_of e)⟩
theorem NewD.go {s c : Addr} {M M' : Hp} {v : V} (h : NewD s c M v) (g : Go s c M M') : NewD s c M' v := by
  obtain ⟨d, q⟩ := h
  exact ⟨d, q.same (cut_go g)⟩
def flD : V → PyData
  | .bl b => .bool b
  | .int i => .int i
  | .str x => .str x
  | _ => .none
theorem dq_flat {H : Hp} : ∀ {xs : List V}, xs.all flatV = true → DqAll H xs (xs.map flD)
  | [], _ => .nil
  | x :: xs, h => by
    rw [List.all_cons, Bool.and_eq_true] at h
    refine .cons ?_ (dq_flat h.2)
    cases x with
    | non => exact .non
    | bl b => exact .bl b
    | int i => exact .int i
    | str x => exact .str x
    | _ => cases h.1
theorem NewD.flat {s c p : Addr} {M : Hp} {xs : List V} (S : Src M s c) (hp : M p = none) (h : xs.all flatV = true) : NewD s c (L2.upd M p (.tup xs)) (.ref p) :=
  ⟨_, .tup (cut_in (S.ne_none hp) upd_same) (dq_flat h)⟩
theorem NewD.flatL {s c p : Addr} {M : Hp} {xs : List V} (S : Src M s c) (hp : M p = none) (big : sysModules < p) (h : xs.all flatV = true) : NewD s c (L2.upd M p (.lst xs)) (.ref p) :=
  ⟨_, .lst (cut_in (S.ne_none hp) upd_same) big (dq_flat h)⟩
theorem NewD.dct {s c p : Addr} {M : Hp} (S : Src M s c) (hp : M p = none) : NewD s c (L2.upd M p (.dK [])) (.ref p) :=
  ⟨_, .dct (cut_in (S.ne_none hp) upd_same) .none⟩
theorem NewD.fl {s c : Addr} {M : Hp} {v : V} (h : flatV v = true) : NewD s c M v := by
  have q := dq_flat (H := cutH s c M) (xs := [v]) (by rw [List.all_cons, h]; rfl)
  cases q with
  | cons a _ => exact ⟨_, a⟩
theorem NewD.tup1 {s c p : Addr} {M : Hp} {x y : V} (S : Src M s c) (hp : M p = none) (hx : NewD s c M x) (hy : NewD s c M y) : NewD s c (L2.upd M p (.tup [x, y])) (.ref p) := by
  obtain ⟨d1, q1⟩ := hx
  obtain ⟨d2, q2⟩ := hy
  have e := cut_of (s := s) (c := c) (same_new hp (.tup [x, y]))
  exact ⟨_, .tup (cut_in (S.ne_none hp) upd_same) (.cons (q1.same e) (.cons (q2.same e) .nil))⟩
/-- data, the list at L being put together -/
def NrL (s c L : Addr) (N : Hp) (v : V) : Prop := ∃ d, Dq (cutH L L (cutH s c N)) v d
theorem cut_up {s c L : Addr} {B N : Hp} (g : Go s c B N) (hL : B L = none) : Same (cutH s c B) (cutH L L (cutH s c N)) := fun b u h => by
  have ⟨n1, n2, e⟩ := cut_at' h
  have nL : b ≠ L := ne_of_none e hL
  exact cut_in ⟨nL, nL⟩ (cut_in ⟨n1, n2⟩ (g.keep _ _ n1 n2 e))
theorem cut_mut {s c L : Addr} {N : Hp} {o : HO} : cutH L L (cutH s c (L2.upd N L o)) = cutH L L (cutH s c N) := by
  funext b
  show (if b = L ∨ b = L then none else cutH s c (L2.upd N L o) b) = (if b = L ∨ b = L then none else cutH s c N b)
  by_cases h : b = L
  · rw [if_pos (.inl h), if_pos (.inl h)]
  · rw [if_neg (fun z => h (z.elim id id)), if_neg (fun z => h (z.elim id id))]
    unfold cutH
    rw [upd_ne h]
theorem NrL.up {s c L : Addr} {B N : Hp} {v : V} (h : NewD s c B v) (g : Go s c B N) (hL : B L = none) : NrL s c L N v := by
  obtain ⟨d, q⟩ := h
  exact ⟨d, q.same (cut_up g hL)⟩
theorem NrL.down {s c L : Addr} {N : Hp} {v : V} (h : NrL s c L N v) : NewD s c N v := by
  obtain ⟨d, q⟩ := h
  exact ⟨d, q.same fun b u e => (cut_at' e).2.2⟩
theorem NrL.mut {s c L : Addr} {N : Hp} {o : HO} {v : V} (h : NrL s c L N v) : NrL s c L (L2.upd N L o) v := by
  obtain ⟨d, q⟩ := h
  exact ⟨d, by rw [cut_mut]; exact q⟩
theorem NrL.go {s c L : Addr} {N N' : Hp} {v : V} (h : NrL s c L N v) (g : Go s c N N') : NrL s c L N' v := by
  obtain ⟨d, q⟩ := h
  exact ⟨d, q.same fun b u e => by
    have ⟨n1, n2, e1⟩ := cut_at' e
    exact cut_in ⟨n1, n2⟩ (cut_go g _ _ e1)⟩
theorem all_cons {α : Type} {p : α → Prop} {x : α} {xs : List α} (h : p x) (t : ∀ y ∈ xs, p y) : ∀ y ∈ x :: xs, p y := List.forall_mem_cons.mpr ⟨h, t⟩
theorem all_nil {α : Type} {p : α → Prop} : ∀ y ∈ ([] : List α), p y := List.forall_mem_nil _
theorem go_mutN {s c D : Addr} {H M : Hp} {o : HO} (g : Go s c H M) (h : H D = none) (n : D ≠ s ∧ D ≠ c) : Go s c H (L2.upd M D o) :=
  ⟨fun b u n1 n2 e => by rw [upd_ne (ne_of_none e h)]; exact g.keep _ _ n1 n2 e, g.src.upd6 n⟩
theorem iteV {R : V → Prop} {b : Bool} {i : Int} (h : R (.int (if b = true then i else 0))) : if b = true then R (.int i) else R (.int 0) := by
  cases b with
  | true => exact h
  | false => exact h
theorem dp_strs {K : PySem.W.Frag} {H : Hp} : ∀ ns : List Str, DpAll K H (ns.map V.str) (ns.map PyData.str)
  | [] => .nil
  | n :: ns => .cons (.str n) (dp_strs ns)
def spNearD (C : Addr) : Sp := fun vs H Q _ => ∃ (s c wd a : Addr) (gs : List Str) (bs : List Br) (st : List Int), vs = [.ref s, .ref wd, .ref a] ∧ Src H s c ∧ WorldH C s c H wd gs bs ∧ gs.length ≤ 100 ∧ bs.length ≤ 100 ∧ H a = some (.tup (rowV st)) ∧ st.length = gs.length ∧
  ∀ (v : V) (H' : Hp), Go s c H H' → NewD s c H' v → Q v H'
section
variable {P : Program} {w : World} {K : PySem.W.Frag} {mg : Str → Option Value} {base : Heap}
theorem ok_near_deed (T : Tx K mg) : FnOk P w K mg base CX0 4 T.a_law_near_deed T.fd_law_near_deed ["_law_source_here", "_law_world", "_law_stock_here"] (spNearD T.C_Book) := by
  refine T.F_law_near_deed.ok sc_law_near_deed (fun vs H Q E h => ?_) (fun cdv A outer st H vs Q E hr h => ?_)
  · obtain ⟨s, c, wd, a, gs, bs, stk, rfl, _⟩ := h
    rfl
  obtain ⟨s, c, wd, a, gs, bs, stk, rfl, hS, W, g100, b100, ha, ln, k⟩ := h
  have hu := hu_of hr
  have G_law_deeds : FnOk P w K mg base CX0 3 T.a_law_deeds T.fd_law_deeds ["_law_world", "_law_stock_here"] spLDeeds := ok_ldeeds T
  have hr_law_deeds : Room 3 _ := hr
  have G_law_of : FnOk P w K mg base CX0 2 T.a_law_of T.fd_law_of ["_law_source_here", "_law_some"] (spOf K) := ok_of T
  have hr_law_of : Room 2 _ := hr.mono (by omega)
  have G_law_odd : FnOk P w K mg base CX0 3 T.a_law_odd T.fd_law_odd ["_law_source_here"] spOddQ := ok_odd T
  have hr_law_odd : Room 3 _ := hr
  refine ⟨_, ((pss_cons (ps_par (i := 3) (j := 4) (by rfl) sc_law_near_deed.nd rfl rfl (by decide) rfl rfl (pa_cons (pe_call G_law_deeds hr_law_deeds rfl T.m_law_deeds T.F_law_deeds.kp T.b_law_deeds .nil pass0 (pa_cons (pv 1) (pa_cons (pv 2) pa_nil))) (pa_cons (pe_lc (own := [("_law_pair", 8)]) (by rfl) sc_law_near_deed.nd (pi_list (pe_dget hu (pv 1) pe_str (fun _ _ => rfl))) (blkOk_by (own := [("_law_pair", 8)]) (N := ["_law_source_here", "_law_world", "_law_stock_here", "_law_deeds_here", "_law_names_here", "_law_some", "_law_lap", "_law_name", "_law_pair"]) (sc := defScope s_law_near_deed) (by decide +kernel)) (fun _ _ _ _ _ => pg_name (i := 8) sc_law_near_deed.nd rfl (Or.inl rfl)) (fun _ _ _ _ _ => pts_nil) (fun _ _ _ _ _ => (pe_ix (show IxR _ (rIxT K) from ix_tup) (pv 8) pe_int (fun _ _ => rfl)))) pa_nil)) (by rfl))
      (pss_cons (ps_set (i := 5) sc_law_near_deed.nd rfl (Or.inl rfl) (pe_lstN (pa_cons (pe_call G_law_odd hr_law_odd rfl T.m_law_odd T.F_law_odd.kp T.b_law_odd .nil pass0 (pa_cons (pv 0) pa_nil)) (pa_cons pe_non (pa_cons (pe_tup pa_nil) (pa_cons (pe_lstN pa_nil) (pa_cons pe_dnewK (pa_cons pe_str (pa_cons (pe_tup (pa_cons pe_str (pa_cons pe_int pa_nil))) (pa_cons (pe_tup (pa_cons pe_non (pa_cons pe_int pa_nil))) (pa_cons (pe_tup (pa_cons (pe_lstN pa_nil) (pa_cons pe_dnewK pa_nil))) (pa_cons (pe_tup (pa_cons pe_int (pa_cons pe_int pa_nil))) (pa_cons (pe_tup (pa_cons pe_dnewK (pa_cons (pe_un un_neg pe_int) pa_nil))) pa_nil)))))))))))))
      (pss_cons (ps_for PassesOwn.never rfl (pi_range1 rfl T.n_range (pa_cons (pe_ifExp (pt_cmpR (op_neD hr.units) (pv 4) (pe_lstN pa_nil) (nomark _)) pe_int pe_int) pa_nil)) (pg_name (i := 6) sc_law_near_deed.nd rfl (Or.inl rfl))
        (pss_cons (ps_set (i := 7) sc_law_near_deed.nd rfl (Or.inl rfl) (pe_call G_law_of hr_law_of rfl T.m_law_of T.F_law_of.kp T.b_law_of .nil pass0 (pa_cons (pv 0) (pa_cons (pv 4) pa_nil))))
      (pss_cons (ps_set (i := 5) sc_law_near_deed.nd rfl (Or.inl rfl) (pe_op op_cat (pv 5) (pe_lstN (pa_cons (pe_tup (pa_cons (pv 7) (pa_cons pe_int pa_nil))) (pa_cons (pe_tup (pa_cons (pv 7) (pa_cons (pe_un un_neg pe_int) pa_nil))) (pa_cons (pe_lstN (pa_cons (pv 7) (pa_cons pe_int pa_nil))) (pa_cons (pe_tup (pa_cons pe_int (pa_cons (pv 7) pa_nil))) (pa_cons (pe_tup (pa_cons (pv 7) pa_nil)) (pa_cons (pe_tup (pa_cons (pv 7) (pa_cons pe_int (pa_cons pe_int pa_nil)))) (pa_cons (pe_tup (pa_cons (pv 7) (pa_cons pe_int pa_nil))) (pa_cons (pe_tup (pa_cons (pv 7) (pa_cons pe_bl pa_nil))) pa_nil)))))))))))
      (pss_one (ps_set (i := 5) sc_law_near_deed.nd rfl (Or.inl rfl) (pe_op op_cat (pv 5) (pe_lstN (pa_cons (pe_tup (pa_cons (pv 7) (pa_cons pe_int pa_nil))) (pa_cons (pe_tup (pa_cons (pv 7) (pa_cons (pe_un un_neg pe_int) pa_nil))) (pa_cons (pe_tup (pa_cons (pv 7) (pa_cons pe_str pa_nil))) (pa_cons (pe_tup (pa_cons (pv 7) (pa_cons pe_non pa_nil))) (pa_cons (pe_tup (pa_cons (pv 7) (pa_cons (pe_lstN (pa_cons pe_int pa_nil)) pa_nil))) (pa_cons (pv 7) (pa_cons (pe_tup (pa_cons (pv 7) (pa_cons pe_bl pa_nil))) (pa_cons (pe_tup (pa_cons (pv 7) (pa_cons (pe_tup (pa_cons pe_int pa_nil)) pa_nil))) pa_nil)))))))))))))))
      (pss_cons (ps_for PassesOwn.never rfl (pi_range1 rfl T.n_range (pa_cons (pe_ifExp (pt_cmpR (op_neD hr.units) (pv 3) (pe_lstN pa_nil) (nomark _)) pe_int pe_int) pa_nil)) (pg_name (i := 6) sc_law_near_deed.nd rfl (Or.inl rfl))
        (pss_one (ps_expr (pe_bm PySem.F.plainAttrs_list PySem.F.slot_list_append PySem.F.type_list_append mt_append (pv 5) (pa_cons (pe_call G_law_of hr_law_of rfl T.m_law_of T.F_law_of.kp T.b_law_of .nil pass0 (pa_cons (pv 0) (pa_cons (pv 3) pa_nil))) pa_nil)))))
      (pss_one (ps_ret (pe_call G_law_of hr_law_of rfl T.m_law_of T.F_law_of.kp T.b_law_of .nil pass0 (pa_cons (pv 0) (pa_cons (pv 5) pa_nil)))))))))), ?_⟩
  obtain ⟨g, l, x, ps, ex, WX⟩ := id W
  have lrow : ∀ b ∈ bs, b.2.length = gs.length ∧ mixedB b.2 = true := fun b hb => (WX.G.bw b hb).2
  have WR : ∀ {N : Hp}, Go s c H N → WldR N wd l ps gs.length bs := fun {N} gg => by
    have c5 := cut_go gg
    exact ⟨⟨g, x, ex, (cut_at' (c5 _ _ WX.hw)).2.2⟩, (cut_at' (c5 _ _ WX.hl)).2.2, (WX.hb.same c5).same cut_same, WX.G.bn, lrow, b100⟩
  have g00 : Go s c H H := Go.of hS fun _ _ e => e
  refine ⟨_, rfl, _, rfl, wd, a, l, ps, gs.length, bs, stk, rfl, WR g00, ha, ln, g100, fun D dd M0 s0 hD eD aDd => ?_⟩
  have W0 := (WR g00).same s0
  refine ⟨_, rfl, wd, _, rfl, W0.at_, l, rfl, ⟨_, SqL.of W0.hl⟩, fun D2 hD2 => ?_⟩
  refine lc_list (xs := ps.map V.ref) (Lc M0 D2 ((bs.map (·.1)).map V.str)) (Lc.zero hD2) (fun j N _ z => SqL.of (z.1 _ _ W0.hl)) (fun j y N hy z => ?_) (fun N z => ?_)
  · obtain ⟨q, hq, rfl⟩ := getM hy
    obtain ⟨b, hbi, ra, e1, e2⟩ := (W0.hb.same z.1).get hq
    refine ⟨rfl, _, rfl, q, _, _, _, rfl, rfl, SqT.of e1, atI_nat (j := 0) rfl, ?_⟩
    exact Lc.lay hD2 z (mapM (mapM hbi)) (by rw [List.length_map, List.length_map]; omega)
  obtain ⟨sN, eN⟩ := z.all (by rw [List.length_map, List.length_map, List.length_map, W0.hb.1])
  have g1 : Go s c H N := Go.of hS (s0.trans sN)
  have eDN := sN _ _ eD
  have aDN : AllAt (DeedAt N) dd (dueL stk bs) := aDd.imp fun p q h => sN _ _ h
  have nD := hS.ne_none hD
  have nD2 := (hS.same s0).ne_none hD2
  clear z
  refine ⟨_, _, rfl, ?_⟩
  refine ⟨_, rfl, s, c, rfl, g1.src, fun v0 N0 od g2 => ⟨Nat.zero_le _, fun p1 h1 => ⟨Nat.zero_le _, fun p2 h2 b2 => fun p3 h3 => ⟨(by show 2 ≤ sizeLine; decide), fun p4 h4 => ⟨(by show 2 ≤ sizeLine; decide), fun p5 h5 => ⟨Nat.zero_le _, fun p6 h6 b6 => fun p7 h7 => ⟨(by show 2 ≤ sizeLine; decide), fun p8 h8 => ⟨(by show 2 ≤ sizeLine; decide), fun p9 h9 => fun p10 h10 => ?_⟩⟩⟩⟩⟩⟩⟩⟩
  refine ⟨1, rfl, (by show 2 ≤ sizeLine; decide), fun p11 h11 => ⟨(by show 11 ≤ sizeLine; decide), fun L hL bL => ?_⟩⟩
  have g12 := g1.trans g2
  have o0 : NewD s c N0 v0 := by
    obtain ⟨d, q, _⟩ := od
    exact ⟨d, q⟩
  have t1 := same_new h1 (.tup [])
  have S1 := g12.src.same t1
  have o1 := NewD.flat (xs := []) g12.src h1 rfl
  have t2 := same_new h2 (.lst [])
  have S2 := S1.same t2
  have o2 := NewD.flatL (xs := []) S1 h2 b2 rfl
  have t3 := same_new h3 (.dK [])
  have S3 := S2.same t3
  have o3 := NewD.dct S2 h3
  have t4 := same_new h4 (.tup [.str "zq7", .int 1])
  have S4 := S3.same t4
  have o4 := NewD.flat (xs := [.str "zq7", .int 1]) S3 h4 rfl
  have t5 := same_new h5 (.tup [.non, .int 1])
  have S5 := S4.same t5
  have o5 := NewD.flat (xs := [.non, .int 1]) S4 h5 rfl
  have t6 := same_new h6 (.lst [])
  have S6 := S5.same t6
  have o6 := NewD.flatL (xs := []) S5 h6 b6 rfl
  have t7 := same_new h7 (.dK [])
  have S7 := S6.same t7
  have o7 := NewD.dct S6 h7
  have t8 := same_new h8 (.tup [.ref p6, .ref p7])
  have S8 := S7.same t8
  have o8 := NewD.tup1 S7 h8 (o6.same t7) o7
  have t9 := same_new h9 (.tup [.int 1, .int 1])
  have S9 := S8.same t9
  have o9 := NewD.flat (xs := [.int 1, .int 1]) S8 h9 rfl
  have t10 := same_new h10 (.dK [])
  have S10 := S9.same t10
  have o10 := NewD.dct S9 h10
  have t11 := same_new h11 (.tup [.ref p10, .int (-1)])
  have S11 := S10.same t11
  have o11 := NewD.tup1 S10 h11 o10 (NewD.fl (v := .int (-1)) rfl)
  have u10 := t10.trans t11
  have u9 := t9.trans u10
  have u8 := t8.trans u9
  have u6 := (t6.trans t7).trans u8
  have u5 := t5.trans u6
  have u4 := t4.trans u5
  have u3 := t3.trans u4
  have u2 := t2.trans u3
  have u1 := t1.trans u2
  have tL := same_new hL (.lst [v0, .non, .ref p1, .ref p2, .ref p3, .str "ab", .ref p4, .ref p5, .ref p8, .ref p9, .ref p11])
  have nL := S11.ne_none hL
  have all : ∀ y ∈ ([v0, .non, .ref p1, .ref p2, .ref p3, .str "ab", .ref p4, .ref p5, .ref p8, .ref p9, .ref p11] : List V), NrL s c L _ y :=
    let up := fun {y : V} (h : NewD s c _ y) => NrL.up h (Go.of S11 tL) hL
    all_cons (up (o0.same u1)) (all_cons (up (NewD.fl rfl)) (all_cons (up (o1.same u2)) (all_cons (up (o2.same u3)) (all_cons (up (o3.same u4)) (all_cons (up (NewD.fl rfl)) (all_cons (up (o4.same u5)) (all_cons (up (o5.same u6)) (all_cons (up (o8.same u9)) (all_cons (up (o9.same u10)) (all_cons (up o11) all_nil))))))))))
  have eL := upd_same (H := L2.upd (L2.upd (L2.upd (L2.upd (L2.upd (L2.upd (L2.upd (L2.upd (L2.upd (L2.upd (L2.upd N0 p1 (.tup [])) p2 (.lst [])) p3 (.dK [])) p4 (.tup [.str "zq7", .int 1])) p5 (.tup [.non, .int 1])) p6 (.lst [])) p7 (.dK [])) p8 (.tup [.ref p6, .ref p7])) p9 (.tup [.int 1, .int 1])) p10 (.dK [])) p11 (.tup [.ref p10, .int (-1)])) (a := L) (o := .lst [v0, .non, .ref p1, .ref p2, .ref p3, .str "ab", .ref p4, .ref p5, .ref p8, .ref p9, .ref p11])
  have gL := g12.then (u1.trans tL)
  have gX := g2.then (u1.trans tL)
  have hLH : H L = none := g12.free (u1.free hL)
  generalize L2.upd (L2.upd (L2.upd (L2.upd (L2.upd (L2.upd (L2.upd (L2.upd (L2.upd (L2.upd (L2.upd (L2.upd N0 p1 (.tup [])) p2 (.lst [])) p3 (.dK [])) p4 (.tup [.str "zq7", .int 1])) p5 (.tup [.non, .int 1])) p6 (.lst [])) p7 (.dK [])) p8 (.tup [.ref p6, .ref p7])) p9 (.tup [.int 1, .int 1])) p10 (.dK [])) p11 (.tup [.ref p10, .int (-1)])) L (.lst [v0, .non, .ref p1, .ref p2, .ref p3, .str "ab", .ref p4, .ref p5, .ref p8, .ref p9, .ref p11]) = M1 at all eL gL gX ⊢
  have eDM : M1 D = some (.lst (dd.map V.ref)) := gX.lst g1.src eDN nD.2
  have eSM : M1 D2 = some (.lst ((bs.map (·.1)).map V.str)) := gX.lst g1.src eN nD2.2
  have aDM : AllAt (DeedAt M1) dd (dueL stk bs) := aDN.imp fun p q h => gX.tup g1.src h
  refine ⟨_, rfl, Nat.zero_le _, fun e0 he0 _ => ?_⟩
  have se := same_new he0 (.lst [])
  have wds : SeqAt.shaped (.list ((bs.map (·.1)).map PyData.str)) = true := (lay_list (k := 0) fun q hq => lay_str (by obtain ⟨b, hb, e⟩ := List.mem_map.mp hq; rw [← e]; exact (WX.G.bw b hb).1)).shaped (by decide)
  refine ⟨_, _, .lst (SqL.of (se _ _ eSM)) (dp_strs _), .lst (SqL.of upd_same) .nil, wds, rfl, _, rfl, ?_⟩
  rw [eqv_nil]
  refine iteV (R := fun v => tC v _ _ _) ?_
  have cnt : ∀ (b : Bool) (i : Nat), ∃ m : Nat, (if b = true then (i : Int) else 0) = (m : Nat) ∧ m ≤ i ∧ (0 < m → b = true) := fun b i => by
    cases b with
    | true => exact ⟨i, rfl, Nat.le_refl _, fun _ => rfl⟩
    | false => exact ⟨0, rfl, Nat.zero_le _, fun z => absurd z (Nat.lt_irrefl _)⟩
  obtain ⟨m, em, m2, mp⟩ := cnt (!decide (List.map PyData.str (List.map (fun x => x.fst) bs) = [])) 2
  rw [show (if (!decide (List.map PyData.str (List.map (fun x => x.fst) bs) = [])) = true then (2 : Int) else 0) = (m : Nat) from em]
  have g0 := gL.then se
  have eD0 := se _ _ eDM
  have eS0 := se _ _ eSM
  have eL0 := se _ _ eL
  have nLD : L ≠ D := fun z => by
    rw [z] at hL
    rw [(g2.then u1).lst g1.src eDN nD.2] at hL
    cases hL
  have aD0 : AllAt (DeedAt (L2.upd M1 e0 (.lst []))) dd (dueL stk bs) := aDM.imp fun p q h => se _ _ h
  have al0 : ∀ y ∈ ([v0, .non, .ref p1, .ref p2, .ref p3, .str "ab", .ref p4, .ref p5, .ref p8, .ref p9, .ref p11] : List V), NrL s c L (L2.upd M1 e0 (.lst [])) y := fun y hy => (all y hy).go (Go.of gL.src se)
  refine ⟨_, rfl, by omega, by omega, ?_⟩
  refine for_range (lo := 0) (n := m) (fun j σ M => ∃ (v6 v7 v8 : Option V) (L : Addr) (vs : List V), σ = [some (.ref s), some (.ref wd), some (.ref a), some (.ref D), some (.ref D2), some (.ref L), v6, v7, v8] ∧ Go s c H M ∧ (L ≠ s ∧ L ≠ c) ∧ H L = none ∧ L ≠ D ∧ M D = some (.lst (dd.map V.ref)) ∧ M D2 = some (.lst ((bs.map (·.1)).map V.str)) ∧ AllAt (DeedAt M) dd (dueL stk bs) ∧ M L = some (.lst vs) ∧ vs.length ≤ 11 + 16 * j ∧ 1 ≤ vs.length ∧ ∀ y ∈ vs, NrL s c L M y) ?_ (fun j σ M hj z => ?_) (fun σ M z => ?_)
  · exact ⟨none, none, none, L, _, rfl, g0, nL, hLH, nLD, eD0, eS0, aD0, eL0, Nat.le_refl _, Nat.succ_pos _, al0⟩
  · obtain ⟨v6, v7, v8, L, vs, rfl, gM, nL, hLH, nLD, eD1, eS1, aD1, eL1, lv, lv1, al1⟩ := z
    have l1 : 1 ≤ (bs.map (·.1)).length := by
      have := mp (by omega)
      cases e : bs with
      | nil => rw [e] at this; exact absurd this (by decide)
      | cons _ _ => simp
    refine ⟨_, rfl, _, rfl, s, c, D2, _, rfl, gM.src, eS1, nD2.2, by rw [List.length_map]; exact l1, by rw [List.length_map, List.length_map]; omega, fun i xx M4 hx g4 => ?_⟩
    obtain ⟨n, hn, rfl⟩ := getM hx
    have gB := gM.trans g4
    refine ⟨_, rfl, ?_⟩
    refine ⟨_, rfl, (by show 2 ≤ sizeLine; decide), fun q1 hq1 => ⟨_, rfl, 1, rfl, (by show 2 ≤ sizeLine; decide), fun q2 hq2 => ⟨_, rfl, (by show 2 ≤ sizeLine; decide), fun q3 hq3 bq3 => ⟨_, rfl, (by show 2 ≤ sizeLine; decide), fun q4 hq4 => ⟨_, rfl, (by show 1 ≤ sizeLine; decide), fun q5 hq5 => ⟨_, rfl, (by show 3 ≤ sizeLine; decide), fun q6 hq6 => ⟨_, rfl, (by show 2 ≤ sizeLine; decide), fun q7 hq7 => ⟨_, rfl, (by show 2 ≤ sizeLine; decide), fun q8 hq8 => ⟨(by show 8 ≤ sizeLine; decide), fun La hLa bLa => ?_⟩⟩⟩⟩⟩⟩⟩⟩⟩
    have tq1 := same_new hq1 (.tup [.str n, .int 1])
    have Sq1 := (gB.src).same tq1
    have oq1 := NewD.flat (xs := [.str n, .int 1]) (gB.src) hq1 rfl
    have tq2 := same_new hq2 (.tup [.str n, .int (-1)])
    have Sq2 := (Sq1).same tq2
    have oq2 := NewD.flat (xs := [.str n, .int (-1)]) (Sq1) hq2 rfl
    have tq3 := same_new hq3 (.lst [.str n, .int 1])
    have Sq3 := (Sq2).same tq3
    have oq3 := NewD.flatL (xs := [.str n, .int 1]) (Sq2) hq3 bq3 rfl
    have tq4 := same_new hq4 (.tup [.int 1, .str n])
    have Sq4 := (Sq3).same tq4
    have oq4 := NewD.flat (xs := [.int 1, .str n]) (Sq3) hq4 rfl
    have tq5 := same_new hq5 (.tup [.str n])
    have Sq5 := (Sq4).same tq5
    have oq5 := NewD.flat (xs := [.str n]) (Sq4) hq5 rfl
    have tq6 := same_new hq6 (.tup [.str n, .int 1, .int 1])
    have Sq6 := (Sq5).same tq6
    have oq6 := NewD.flat (xs := [.str n, .int 1, .int 1]) (Sq5) hq6 rfl
    have tq7 := same_new hq7 (.tup [.str n, .int 0])
    have Sq7 := (Sq6).same tq7
    have oq7 := NewD.flat (xs := [.str n, .int 0]) (Sq6) hq7 rfl
    have tq8 := same_new hq8 (.tup [.str n, .bl true])
    have Sq8 := (Sq7).same tq8
    have oq8 := NewD.flat (xs := [.str n, .bl true]) (Sq7) hq8 rfl
    have uq7 := tq8
    have uq6 := tq7.trans uq7
    have uq5 := tq6.trans uq6
    have uq4 := tq5.trans uq5
    have uq3 := tq4.trans uq4
    have uq2 := tq3.trans uq3
    have uq1 := tq2.trans uq2
    have uAq := tq1.trans uq1
    have tLq := same_new hLa (.lst [.ref q1, .ref q2, .ref q3, .ref q4, .ref q5, .ref q6, .ref q7, .ref q8])
    have allq : ∀ y ∈ ([.ref q1, .ref q2, .ref q3, .ref q4, .ref q5, .ref q6, .ref q7, .ref q8] : List V), NewD s c (L2.upd (L2.upd (L2.upd (L2.upd (L2.upd (L2.upd (L2.upd (L2.upd (M4) q1 (.tup [.str n, .int 1])) q2 (.tup [.str n, .int (-1)])) q3 (.lst [.str n, .int 1])) q4 (.tup [.int 1, .str n])) q5 (.tup [.str n])) q6 (.tup [.str n, .int 1, .int 1])) q7 (.tup [.str n, .int 0])) q8 (.tup [.str n, .bl true])) y := (all_cons (oq1.same uq1) (all_cons (oq2.same uq2) (all_cons (oq3.same uq3) (all_cons (oq4.same uq4) (all_cons (oq5.same uq5) (all_cons (oq6.same uq6) (all_cons (oq7.same uq7) (all_cons (oq8) all_nil))))))))
    have eLa := upd_same (H := L2.upd (L2.upd (L2.upd (L2.upd (L2.upd (L2.upd (L2.upd (L2.upd (M4) q1 (.tup [.str n, .int 1])) q2 (.tup [.str n, .int (-1)])) q3 (.lst [.str n, .int 1])) q4 (.tup [.int 1, .str n])) q5 (.tup [.str n])) q6 (.tup [.str n, .int 1, .int 1])) q7 (.tup [.str n, .int 0])) q8 (.tup [.str n, .bl true])) (a := La) (o := .lst [.ref q1, .ref q2, .ref q3, .ref q4, .ref q5, .ref q6, .ref q7, .ref q8])
    have gq := gB.then (uAq.trans tLq)
    have aLq : ∀ y ∈ ([.ref q1, .ref q2, .ref q3, .ref q4, .ref q5, .ref q6, .ref q7, .ref q8] : List V), NewD s c (L2.upd (L2.upd (L2.upd (L2.upd (L2.upd (L2.upd (L2.upd (L2.upd (L2.upd (M4) q1 (.tup [.str n, .int 1])) q2 (.tup [.str n, .int (-1)])) q3 (.lst [.str n, .int 1])) q4 (.tup [.int 1, .str n])) q5 (.tup [.str n])) q6 (.tup [.str n, .int 1, .int 1])) q7 (.tup [.str n, .int 0])) q8 (.tup [.str n, .bl true])) La (.lst [.ref q1, .ref q2, .ref q3, .ref q4, .ref q5, .ref q6, .ref q7, .ref q8])) y := fun y hy => (allq y hy).same tLq
    have sq := uAq.trans tLq
    have eL4 := sq _ _ (g4.lst gM.src eL1 nL.2)
    refine ⟨L, La, _, _, rfl, rfl, eL4, eLa, by show vs.length + 8 ≤ sizeLine; exact small (by omega), fun Lc hLc => ?_⟩
    have tC := same_new hLc (.lst (vs ++ [.ref q1, .ref q2, .ref q3, .ref q4, .ref q5, .ref q6, .ref q7, .ref q8]))
    have sC := sq.trans tC
    have gC := gB.then sC
    have nC : ∀ y ∈ vs ++ [.ref q1, .ref q2, .ref q3, .ref q4, .ref q5, .ref q6, .ref q7, .ref q8], NewD s c _ y := fun y hy => (List.mem_append.mp hy).elim (fun h => (((al1 y h).down.go g4).same sC)) (fun h => (aLq y h).same tC)
    have eC := upd_same (H := L2.upd (L2.upd (L2.upd (L2.upd (L2.upd (L2.upd (L2.upd (L2.upd (L2.upd (M4) q1 (.tup [.str n, .int 1])) q2 (.tup [.str n, .int (-1)])) q3 (.lst [.str n, .int 1])) q4 (.tup [.int 1, .str n])) q5 (.tup [.str n])) q6 (.tup [.str n, .int 1, .int 1])) q7 (.tup [.str n, .int 0])) q8 (.tup [.str n, .bl true])) La (.lst [.ref q1, .ref q2, .ref q3, .ref q4, .ref q5, .ref q6, .ref q7, .ref q8])) (a := Lc) (o := .lst (vs ++ [.ref q1, .ref q2, .ref q3, .ref q4, .ref q5, .ref q6, .ref q7, .ref q8]))
    have eDC := sC _ _ (g4.lst gM.src eD1 nD.2)
    have eSC := sC _ _ (g4.lst gM.src eS1 nD2.2)
    have aDC : AllAt (DeedAt _) dd (dueL stk bs) := aD1.imp fun p q h => sC _ _ (g4.tup gM.src h)
    generalize L2.upd (L2.upd (L2.upd (L2.upd (L2.upd (L2.upd (L2.upd (L2.upd (L2.upd (L2.upd (M4) q1 (.tup [.str n, .int 1])) q2 (.tup [.str n, .int (-1)])) q3 (.lst [.str n, .int 1])) q4 (.tup [.int 1, .str n])) q5 (.tup [.str n])) q6 (.tup [.str n, .int 1, .int 1])) q7 (.tup [.str n, .int 0])) q8 (.tup [.str n, .bl true])) La (.lst [.ref q1, .ref q2, .ref q3, .ref q4, .ref q5, .ref q6, .ref q7, .ref q8])) Lc (.lst (vs ++ [.ref q1, .ref q2, .ref q3, .ref q4, .ref q5, .ref q6, .ref q7, .ref q8])) = M5 at gC nC eC eDC eSC aDC ⊢
    refine ⟨_, rfl, ?_⟩
    refine ⟨_, rfl, (by show 2 ≤ sizeLine; decide), fun r1 hr1 => ⟨_, rfl, 2, rfl, (by show 2 ≤ sizeLine; decide), fun r2 hr2 => ⟨_, rfl, (by show 2 ≤ sizeLine; decide), fun r3 hr3 => ⟨_, rfl, (by show 2 ≤ sizeLine; decide), fun r4 hr4 => ⟨_, rfl, (by show 1 ≤ sizeLine; decide), fun r5 hr5 br5 => ⟨(by show 2 ≤ sizeLine; decide), fun r6 hr6 => ⟨_, rfl, _, rfl, (by show 2 ≤ sizeLine; decide), fun r7 hr7 => ⟨_, rfl, (by show 1 ≤ sizeLine; decide), fun r8 hr8 => ⟨(by show 2 ≤ sizeLine; decide), fun r9 hr9 => ⟨(by show 8 ≤ sizeLine; decide), fun Lb hLb bLb => ?_⟩⟩⟩⟩⟩⟩⟩⟩⟩⟩
    have tr1 := same_new hr1 (.tup [.str n, .int 2])
    have Sr1 := (gC.src).same tr1
    have or1 := NewD.flat (xs := [.str n, .int 2]) (gC.src) hr1 rfl
    have tr2 := same_new hr2 (.tup [.str n, .int (-2)])
    have Sr2 := (Sr1).same tr2
    have or2 := NewD.flat (xs := [.str n, .int (-2)]) (Sr1) hr2 rfl
    have tr3 := same_new hr3 (.tup [.str n, .str "1"])
    have Sr3 := (Sr2).same tr3
    have or3 := NewD.flat (xs := [.str n, .str "1"]) (Sr2) hr3 rfl
    have tr4 := same_new hr4 (.tup [.str n, .non])
    have Sr4 := (Sr3).same tr4
    have or4 := NewD.flat (xs := [.str n, .non]) (Sr3) hr4 rfl
    have tr5 := same_new hr5 (.lst [.int 1])
    have Sr5 := (Sr4).same tr5
    have or5 := NewD.flatL (xs := [.int 1]) (Sr4) hr5 br5 rfl
    have tr6 := same_new hr6 (.tup [.str n, .ref r5])
    have Sr6 := (Sr5).same tr6
    have or6 := NewD.tup1 (Sr5) hr6 (NewD.fl (v := .str n) rfl) (or5.same (fun _ _ e => e))
    have tr7 := same_new hr7 (.tup [.str n, .bl false])
    have Sr7 := (Sr6).same tr7
    have or7 := NewD.flat (xs := [.str n, .bl false]) (Sr6) hr7 rfl
    have tr8 := same_new hr8 (.tup [.int 1])
    have Sr8 := (Sr7).same tr8
    have or8 := NewD.flat (xs := [.int 1]) (Sr7) hr8 rfl
    have tr9 := same_new hr9 (.tup [.str n, .ref r8])
    have Sr9 := (Sr8).same tr9
    have or9 := NewD.tup1 (Sr8) hr9 (NewD.fl (v := .str n) rfl) (or8.same (fun _ _ e => e))
    have ur8 := tr9
    have ur7 := tr8.trans ur8
    have ur6 := tr7.trans ur7
    have ur5 := tr6.trans ur6
    have ur4 := tr5.trans ur5
    have ur3 := tr4.trans ur4
    have ur2 := tr3.trans ur3
    have ur1 := tr2.trans ur2
    have uAr := tr1.trans ur1
    have tLr := same_new hLb (.lst [.ref r1, .ref r2, .ref r3, .ref r4, .ref r6, .str n, .ref r7, .ref r9])
    have allr : ∀ y ∈ ([.ref r1, .ref r2, .ref r3, .ref r4, .ref r6, .str n, .ref r7, .ref r9] : List V), NewD s c (L2.upd (L2.upd (L2.upd (L2.upd (L2.upd (L2.upd (L2.upd (L2.upd (L2.upd (M5) r1 (.tup [.str n, .int 2])) r2 (.tup [.str n, .int (-2)])) r3 (.tup [.str n, .str "1"])) r4 (.tup [.str n, .non])) r5 (.lst [.int 1])) r6 (.tup [.str n, .ref r5])) r7 (.tup [.str n, .bl false])) r8 (.tup [.int 1])) r9 (.tup [.str n, .ref r8])) y := (all_cons (or1.same ur1) (all_cons (or2.same ur2) (all_cons (or3.same ur3) (all_cons (or4.same ur4) (all_cons (or6.same ur6) (all_cons (NewD.fl rfl) (all_cons (or7.same ur7) (all_cons (or9) all_nil))))))))
    have eLb := upd_same (H := L2.upd (L2.upd (L2.upd (L2.upd (L2.upd (L2.upd (L2.upd (L2.upd (L2.upd (M5) r1 (.tup [.str n, .int 2])) r2 (.tup [.str n, .int (-2)])) r3 (.tup [.str n, .str "1"])) r4 (.tup [.str n, .non])) r5 (.lst [.int 1])) r6 (.tup [.str n, .ref r5])) r7 (.tup [.str n, .bl false])) r8 (.tup [.int 1])) r9 (.tup [.str n, .ref r8])) (a := Lb) (o := .lst [.ref r1, .ref r2, .ref r3, .ref r4, .ref r6, .str n, .ref r7, .ref r9])
    have gr := gC.then (uAr.trans tLr)
    have aLr : ∀ y ∈ ([.ref r1, .ref r2, .ref r3, .ref r4, .ref r6, .str n, .ref r7, .ref r9] : List V), NewD s c (L2.upd (L2.upd (L2.upd (L2.upd (L2.upd (L2.upd (L2.upd (L2.upd (L2.upd (L2.upd (M5) r1 (.tup [.str n, .int 2])) r2 (.tup [.str n, .int (-2)])) r3 (.tup [.str n, .str "1"])) r4 (.tup [.str n, .non])) r5 (.lst [.int 1])) r6 (.tup [.str n, .ref r5])) r7 (.tup [.str n, .bl false])) r8 (.tup [.int 1])) r9 (.tup [.str n, .ref r8])) Lb (.lst [.ref r1, .ref r2, .ref r3, .ref r4, .ref r6, .str n, .ref r7, .ref r9])) y := fun y hy => (allr y hy).same tLr
    have sr := uAr.trans tLr
    refine ⟨Lc, Lb, _, _, rfl, rfl, sr _ _ eC, eLb, by rw [List.length_append]; show vs.length + 8 + 8 ≤ sizeLine; exact small (by omega), fun Ld hLd => ?_⟩
    have tD := same_new hLd (.lst ((vs ++ [.ref q1, .ref q2, .ref q3, .ref q4, .ref q5, .ref q6, .ref q7, .ref q8]) ++ [.ref r1, .ref r2, .ref r3, .ref r4, .ref r6, .str n, .ref r7, .ref r9]))
    have sD := sr.trans tD
    have gD := gC.then sD
    refine ⟨_, _, _, Ld, _, rfl, gD, (gr.src.ne_none hLd), (gC.then sr).free hLd, ?_, sD _ _ eDC, sD _ _ eSC, aDC.imp fun p q h => sD _ _ h, upd_same, ?_, ?_, fun y hy => ?_⟩
    · intro z
      rw [z, sr _ _ eDC] at hLd
      cases hLd
    · rw [List.length_append, List.length_append]
      show vs.length + 8 + 8 ≤ _
      omega
    · rw [List.length_append, List.length_append]
      omega
    · exact (List.mem_append.mp hy).elim (fun h => NrL.up ((nC y h).same sr) (Go.of gr.src tD) hLd) (fun h => NrL.up (aLr y h) (Go.of gr.src tD) hLd)
  · obtain ⟨v6, v7, v8, L, vs, rfl, gM, nL, hLH, nLD, eD1, eS1, aD1, eL1, lv, lv1, al1⟩ := z
    refine ⟨_, rfl, Nat.zero_le _, fun e1 he1 _ => ?_⟩
    have se1 := same_new he1 (.lst [])
    have wdd : SeqAt.shaped (.list ((dueL stk bs).map dD)) = true := (lay_list (k := 1) fun q hq => lay_dd (by obtain ⟨⟨b, hb, e⟩, _⟩ := due_mem hq; rw [e]; exact (WX.G.bw b hb).1)).shaped (by decide)
    refine ⟨_, _, .lst (SqL.of (se1 _ _ eD1)) (dpAll_of (R := DeedAt _) (f := dD) (fun p q h => dp_deed h) (aD1.imp fun p q h => se1 _ _ h)), .lst (SqL.of upd_same) .nil, wdd, rfl, _, rfl, ?_⟩
    rw [eqv_nil]
    refine iteV (R := fun v => tC v _ _ _) ?_
    obtain ⟨m', em', m2', mp'⟩ := cnt (!decide (List.map dD (dueL stk bs) = [])) 10
    rw [show (if (!decide (List.map dD (dueL stk bs) = [])) = true then (10 : Int) else 0) = (m' : Nat) from em']
    refine ⟨_, rfl, by omega, by omega, ?_⟩
    have eDx := se1 _ _ eD1
    have eLx := se1 _ _ eL1
    have aDx : AllAt (DeedAt (L2.upd M e1 (.lst []))) dd (dueL stk bs) := aD1.imp fun p q h => se1 _ _ h
    refine for_range (lo := 0) (n := m') (fun j σ M => ∃ (v6 : Option V) (vs : List V), σ = [some (.ref s), some (.ref wd), some (.ref a), some (.ref D), some (.ref D2), some (.ref L), v6, v7, v8] ∧ Go s c H M ∧ M D = some (.lst (dd.map V.ref)) ∧ AllAt (DeedAt M) dd (dueL stk bs) ∧ M L = some (.lst vs) ∧ vs.length ≤ 43 + j ∧ 1 ≤ vs.length ∧ ∀ y ∈ vs, NrL s c L M y) ?_ (fun j σ M hj z => ?_) (fun σ M z => ?_)
    · exact ⟨v6, vs, rfl, gM.then se1, eDx, aDx, eLx, by omega, lv1, fun y hy => (al1 y hy).go (Go.of gM.src se1)⟩
    · obtain ⟨v6, vs, rfl, gM, eD1, aD1, eL1, lv, lv1, al1⟩ := z
      have l1 : 1 ≤ dd.length := by
        have := mp' (by omega)
        rw [aD1.1]
        cases e : dueL stk bs with
        | nil => rw [e] at this; exact absurd this (by decide)
        | cons _ _ => rw [List.length_cons]; omega
      have l2 := dueL_len stk bs
      have l3 := aD1.1
      refine ⟨_, rfl, .inl ⟨rfl, _, SqL.of eL1⟩, _, rfl, _, rfl, s, c, D, _, rfl, gM.src, eD1, nD.2, by rw [List.length_map]; exact l1, by rw [List.length_map]; omega, fun i xx M4 hx g4 => ?_⟩
      obtain ⟨d, hd, rfl⟩ := getM hx
      obtain ⟨q, hq, dq⟩ := aD1.get hd
      have eL4 := g4.lst gM.src eL1 nL.2
      have dq4 : M4 d = some (.tup [.str q.1, .int q.2]) := g4.tup gM.src dq
      refine ⟨L, _, _, rfl, rfl, eL4, small1000 (by omega), ?_⟩
      have kD := KT.upd (o := .lst (vs ++ [.ref d])) eL4
      have ndL : d ≠ L := fun z => by rw [z, eL4] at dq4; cases dq4
      have nds : d ≠ s ∧ d ≠ c := by
        obtain ⟨_, _, _, _, Sx⟩ := g4.src
        exact ⟨ne_of dq4 Sx.hs (by intro z; cases z), ne_of dq4 Sx.hc (by intro z; cases z)⟩
      refine ⟨_, vs ++ [.ref d], rfl, go_mutN (gM.trans g4) hLH nL, by rw [upd_ne (Ne.symm nLD)]; exact g4.lst gM.src eD1 nD.2, aD1.imp fun p q h => kD _ _ (g4.tup gM.src h), upd_same, by rw [List.length_append, List.length_singleton]; omega, by rw [List.length_append]; omega, fun y hy => ?_⟩
      rcases List.mem_append.mp hy with h | h
      · exact ((al1 y h).go g4).mut
      · rw [List.mem_singleton.mp h]
        exact NrL.mut ⟨_, .tup (cut_in ⟨ndL, ndL⟩ (cut_in nds dq4)) (.cons (.str _) (.cons (.int _) .nil))⟩
    · obtain ⟨v6, vs, rfl, gM, eD1, aD1, eL1, lv, lv1, al1⟩ := z
      refine ⟨_, rfl, _, rfl, s, c, L, _, rfl, gM.src, eL1, nL.2, lv1, by omega, fun i xx M4 hx g4 => ?_⟩
      exact k xx M4 (gM.trans g4) ((al1 xx (List.mem_of_getElem? hx)).down.go g4)
end
end My

namespace My
open PySem PySem.Spec PyProof.Rows L2
def inBk (bs : List Br) (n : Nat) (zs : List (Br × Int)) : Prop := ∀ z ∈ zs, z.1 ∈ bs ∧ (z.2 = 1 ∨ z.2 = -1) ∧ z.1.2.length = n
abbrev dZ (z : Br × Int) : PyData := dD (ddP z)
def spLScrD (C : Addr) : Sp := fun vs H Q _ => ∃ (s c wd a : Addr) (n : Nat) (gs : List Str) (bs : List Br) (st : List Int), vs = [.ref s, .ref wd, .ref a, .int (n : Nat)] ∧ Src H s c ∧ WorldH C s c H wd gs bs ∧ gs.length ≤ 100 ∧ bs.length ≤ 100 ∧ H a = some (.tup (rowV st)) ∧ st.length = gs.length ∧ n ≤ 60 ∧
  ∀ (p ml sl : Addr) (ds ss : List Addr) (zs : List (Br × Int)) (r : List Int) (H' : Hp), Go s c H H' → H' p = some (.lst [.ref ml, .ref sl]) → ml ≠ c → sl ≠ c → H' ml = some (.lst (ds.map V.ref)) → H' sl = some (.lst (ss.map V.ref)) → AllAt (DeedAt H') ds (zs.map ddP) → inBk bs gs.length zs → zs.length ≤ n → wayF bs st (zs.map dZ) = some r → AllAt (StkAt H') ss (alongD bs st (zs.map dZ)) → Q (.ref p) H'
theorem atLast (xs : List V) (x : V) : atI (xs ++ [x]) (-1) = some x := at_end xs x
theorem inBk_snoc {bs : List Br} {n : Nat} {zs : List (Br × Int)} {z : Br × Int} (h : inBk bs n zs) (hz : z.1 ∈ bs ∧ (z.2 = 1 ∨ z.2 = -1) ∧ z.1.2.length = n) : inBk bs n (zs ++ [z]) := fun y hy => by
  rcases List.mem_append.mp hy with q | q
  · exact h y q
  · rw [List.mem_singleton.mp q]; exact hz
section
variable {P : Program} {w : World} {K : PySem.W.Frag} {mg : Str → Option Value} {base : Heap}
theorem ok_lscript (T : Tx K mg) : FnOk P w K mg base CX0 4 T.a_law_script T.fd_law_script ["_law_source_here", "_law_world", "_law_stock_here", "_law_many"] (spLScrD T.C_Book) := by
  refine T.F_law_script.ok sc_law_script (fun vs H Q E h => ?_) (fun cdv A outer st H vs Q E hr h => ?_)
  · obtain ⟨s, c, wd, a, n, gs, bs, stk, rfl, _⟩ := h
    rfl
  obtain ⟨s, c, wd, a, n, gs, bs, stk, rfl, hS, W, g100, b100, ha, ln, n60, k⟩ := h
  have G_law_deeds : FnOk P w K mg base CX0 3 T.a_law_deeds T.fd_law_deeds ["_law_world", "_law_stock_here"] spLDeeds := ok_ldeeds T
  have hr_law_deeds : Room 3 _ := hr
  have G_law_of : FnOk P w K mg base CX0 2 T.a_law_of T.fd_law_of ["_law_source_here", "_law_some"] (spOf K) := ok_of T
  have hr_law_of : Room 2 _ := hr.mono (by omega)
  have G_law_done : FnOk P w K mg base CX0 2 T.a_law_done T.fd_law_done ["_law_world", "_law_stock_here", "_law_deed"] spLDone := ok_ldone T
  have hr_law_done : Room 2 _ := hr.mono (by omega)
  refine ⟨_, ((pss_cons (ps_par (i := 4) (j := 5) (by rfl) sc_law_script.nd rfl rfl (by decide) rfl rfl (pa_cons (pe_lst pa_nil) (pa_cons (pe_lst (pa_cons (pv 2) pa_nil)) pa_nil)) (by rfl))
      (pss_cons (ps_for PassesOwn.never rfl (pi_range1 rfl T.n_range (pa_cons (pv 3) pa_nil)) (pg_name (i := 6) sc_law_script.nd rfl (Or.inl rfl))
        (pss_cons (ps_set (i := 7) sc_law_script.nd rfl (Or.inl rfl) (pe_call G_law_deeds hr_law_deeds rfl T.m_law_deeds T.F_law_deeds.kp T.b_law_deeds .nil pass0 (pa_cons (pv 1) (pa_cons (pe_ix (show IxR _ (rIxL K) from ix_list) (pv 5) (pe_un un_neg pe_int) (fun _ _ => rfl)) pa_nil))))
      (pss_one (ps_if (pt_cmpR (op_neD hr.units) (pv 7) (pe_lst pa_nil) (nomark _))
        (pss_cons (ps_set (i := 4) sc_law_script.nd rfl (Or.inl rfl) (pe_op op_cat (pv 4) (pe_lst (pa_cons (pe_call G_law_of hr_law_of rfl T.m_law_of T.F_law_of.kp T.b_law_of .nil pass0 (pa_cons (pv 0) (pa_cons (pv 7) pa_nil))) pa_nil))))
      (pss_one (ps_set (i := 5) sc_law_script.nd rfl (Or.inl rfl) (pe_op op_cat (pv 5) (pe_lst (pa_cons (pe_call G_law_done hr_law_done rfl T.m_law_done T.F_law_done.kp T.b_law_done .nil pass0 (pa_cons (pv 1) (pa_cons (pe_ix (show IxR _ (rIxL K) from ix_list) (pv 5) (pe_un un_neg pe_int) (fun _ _ => rfl)) (pa_cons (pe_ix (show IxR _ (rIxL K) from ix_list) (pv 4) (pe_un un_neg pe_int) (fun _ _ => rfl)) pa_nil)))) pa_nil))))))
        pss_nil))))
      (pss_one (ps_ret (pe_lst (pa_cons (pv 4) (pa_cons (pv 5) pa_nil)))))))), ?_⟩
  obtain ⟨g, l, x, ps, ex, WX⟩ := id W
  have lrow : ∀ b ∈ bs, b.2.length = gs.length ∧ mixedB b.2 = true := fun b hb => (WX.G.bw b hb).2
  have WR : ∀ {N : Hp}, Go s c H N → WldR N wd l ps gs.length bs := fun {N} gg => by
    have c5 := cut_go gg
    exact ⟨⟨g, x, ex, (cut_at' (c5 _ _ WX.hw)).2.2⟩, (cut_at' (c5 _ _ WX.hl)).2.2, (WX.hb.same c5).same cut_same, WX.G.bn, lrow, b100⟩
  refine ⟨Nat.zero_le _, fun m0 hm0 => ⟨_, rfl, (by show 1 ≤ sizeLine; decide), fun l0 hl0 => ⟨_, _, rfl, ?_⟩⟩⟩
  have s0 := (same_new hm0 (.lst [])).trans (same_new hl0 (.lst [.ref a]))
  have g0 := Go.of hS s0
  have nm0 := hS.ne_none hm0
  have nl0 := (hS.same (same_new hm0 (.lst []))).ne_none hl0
  have e0 := same_new hl0 (.lst [.ref a]) _ _ (upd_same (H := H) (a := m0) (o := .lst []))
  have el0 := upd_same (H := L2.upd H m0 (.lst [])) (a := l0) (o := .lst [.ref a])
  have ea0 := s0 _ _ ha
  generalize L2.upd (L2.upd H m0 (.lst [])) l0 (.lst [.ref a]) = H0 at g0 e0 el0 ea0 ⊢
  refine ⟨_, rfl, _, rfl, by omega, by omega, ?_⟩
  refine for_range (lo := 0) (n := n) (fun j σ M => ∃ (v6 v7 : Option V) (ml sl pl : Addr) (ds ss : List Addr) (zs : List (Br × Int)) (r : List Int), σ = [some (.ref s), some (.ref wd), some (.ref a), some (.int (n : Nat)), some (.ref ml), some (.ref sl), v6, v7] ∧ Go s c H M ∧ ml ≠ c ∧ sl ≠ c ∧ M ml = some (.lst (ds.map V.ref)) ∧ AllAt (DeedAt M) ds (zs.map ddP) ∧ inBk bs gs.length zs ∧ zs.length ≤ j ∧ wayF bs stk (zs.map dZ) = some r ∧
    M sl = some (.lst (ss.map V.ref ++ [.ref pl])) ∧ ss.length ≤ j ∧ M pl = some (.tup (rowV r)) ∧ AllAt (StkAt M) (ss ++ [pl]) (alongD bs stk (zs.map dZ))) ?_ (fun j σ M hj z => ?_) (fun σ M z => ?_)
  · exact ⟨none, none, m0, l0, a, [], [], [], stk, rfl, g0, nm0.2, nl0.2, e0, AllAt.nil, (fun _ h => nomatch h), Nat.le_refl _, rfl, el0, Nat.le_refl _, ea0, (AllAt.nil.snoc ea0 : AllAt (StkAt _) ([] ++ [a]) ([] ++ [stk]))⟩
  · obtain ⟨v6, v7, ml, sl, pl, ds, ss, zs, r, rfl, gM, nm, nl, em, aD, ib, lz, go, es, lss, ep, aS⟩ := z
    have lst : r.length = gs.length := by rw [way_rows (fun b hb => by rw [ln]; exact (lrow b hb).1) go, ln]
    refine ⟨_, rfl, _, rfl, 1, rfl, sl, _, _, _, rfl, rfl, SqL.of es, atLast _ _, wd, pl, l, ps, gs.length, bs, r, rfl, WR gM, ep, lst, g100, fun D dd M2 s2 hD eD aDd => ?_⟩
    have nD := gM.src.ne_none hD
    refine ⟨_, rfl, Nat.zero_le _, fun e0' he0 => ?_⟩
    have se := same_new he0 (.lst [])
    have wdd : SeqAt.shaped (.list ((dueL r bs).map dD)) = true := (lay_list (k := 1) fun q hq => lay_dd (by obtain ⟨⟨b, hb, e⟩, _⟩ := due_mem hq; rw [e]; exact (WX.G.bw b hb).1)).shaped (by decide)
    refine ⟨_, _, .lst (SqL.of (se _ _ eD)) (dpAll_of (R := DeedAt _) (f := dD) (fun p q h => dp_deed h) (aDd.imp fun p q h => se _ _ h)), .lst (SqL.of upd_same) .nil, wdd, rfl, _, rfl, ?_⟩
    rw [eqv_nil]
    have s3 := s2.trans se
    have eD3 := se _ _ eD
    have aD3 : AllAt (DeedAt (L2.upd M2 e0' (.lst []))) dd (dueL r bs) := aDd.imp fun p q h => se _ _ h
    generalize L2.upd M2 e0' (.lst []) = M3 at s3 eD3 aD3 ⊢
    have g3 := gM.then s3
    refine iteN (fun ne => ?_) (fun _ => ⟨_, _, ml, sl, pl, ds, ss, zs, r, rfl, g3, nm, nl, s3 _ _ em, aD.imp fun p q h => s3 _ _ h, ib, by omega, go, s3 _ _ es, by omega, s3 _ _ ep, aS.imp fun p q h => s3 _ _ h⟩)
    have l1 : 1 ≤ dd.length := by
      rw [aD3.1]
      cases e : dueL r bs with
      | nil => rw [e] at ne; exact absurd rfl ne
      | cons _ _ => rw [List.length_cons]; omega
    have l2 := dueL_len r bs
    have l3 := aD3.1
    refine ⟨_, rfl, _, rfl, _, rfl, s, c, D, _, rfl, g3.src, eD3, nD.2, by rw [List.length_map]; exact l1, by rw [List.length_map]; omega, fun i xx M4 hx g4 => ⟨(by show 1 ≤ sizeLine; decide), fun L hL => ?_⟩⟩
    obtain ⟨d, hd, rfl⟩ := getM hx
    obtain ⟨q, hq, dq⟩ := aD3.get hd
    obtain ⟨i2, b2, w2, hb2, rfl, hw2, en2⟩ := due_mem2 (List.mem_of_getElem? hq)
    have sL := same_new hL (.lst [.ref d])
    have g4' := g4.then sL
    have em5 := g4'.lst g3.src (s3 _ _ em) nm
    have lds : ds.length = zs.length := by rw [aD.1, List.length_map]
    refine ⟨ml, L, _, _, rfl, rfl, em5, upd_same, by rw [List.length_map, lds]; exact small (by show zs.length + 1 ≤ 1000; omega), fun ml' hml' => ?_⟩
    have sm := same_new hml' (.lst (ds.map V.ref ++ [.ref d]))
    have g5 := g4'.then sm
    have nm' := (g4'.src.ne_none hml').2
    have eml := upd_same (H := L2.upd M4 L (.lst [.ref d])) (a := ml') (o := .lst (ds.map V.ref ++ [.ref d]))
    have es5 := g5.lst g3.src (s3 _ _ es) nl
    have ep5 := g5.tup g3.src (s3 _ _ ep)
    have dq5 := g5.tup g3.src dq
    have aD5 : AllAt (DeedAt (L2.upd (L2.upd M4 L (.lst [.ref d])) ml' (.lst (ds.map V.ref ++ [.ref d])))) ds (zs.map ddP) := aD.imp fun p q h => g5.tup g3.src (s3 _ _ h)
    generalize L2.upd (L2.upd M4 L (.lst [.ref d])) ml' (.lst (ds.map V.ref ++ [.ref d])) = M5 at g5 eml es5 ep5 dq5 aD5 ⊢
    have gM5 := g3.trans g5
    refine ⟨_, rfl, _, rfl, _, rfl, 1, rfl, sl, _, _, _, rfl, rfl, SqL.of es5, atLast _ _, _, rfl, 1, rfl, ml', _, _, _, rfl, rfl, SqL.of eml, atLast _ _, wd, pl, d, l, ps, gs.length, bs, i2, b2, r, w2, rfl, WR gM5, hb2, ep5, lst, g100, dq5, hw2, fun v M6 s6 _ vp => ?_⟩
    obtain ⟨pn, rfl, epn⟩ := vp en2
    refine ⟨(by show 1 ≤ sizeLine; decide), fun L2' hL2 => ?_⟩
    have t1 := same_new hL2 (.lst [.ref pn])
    refine ⟨sl, L2', _, _, rfl, rfl, t1 _ _ (s6 _ _ es5), upd_same, by rw [List.length_append, List.length_map]; exact small (by show ss.length + 1 + 1 ≤ 1000; omega), fun sl' hsl' => ?_⟩
    have t2 := same_new hsl' (.lst ((ss.map V.ref ++ [.ref pl]) ++ [.ref pn]))
    have tA := s6.trans (t1.trans t2)
    have gF := gM5.then tA
    have nsl := ((gM5.then (s6.trans t1)).src.ne_none hsl').2
    have lb2 := (lrow b2 (List.mem_of_getElem? hb2)).1
    have bh : behD bs r (dZ (b2, w2)) = some (combR 1 r w2 b2.2) := by
      rw [beh_of (z := (b2, w2)) WX.G.bn (List.mem_of_getElem? hb2) hw2, if_pos (show okP r (b2, w2) = true from en2)]
    have e1 : (zs ++ [(b2, w2)]).map dZ = zs.map dZ ++ [dZ (b2, w2)] := List.map_append
    refine ⟨_, _, ml', sl', pn, ds ++ [d], ss ++ [pl], zs ++ [(b2, w2)], combR 1 r w2 b2.2, rfl, gF, nm', nsl, by rw [List.map_append]; exact tA _ _ eml, ?_, inBk_snoc ib ⟨List.mem_of_getElem? hb2, hw2, lb2⟩, by rw [List.length_append]; exact Nat.succ_le_succ lz, by rw [e1, way_snoc go]; exact bh, by rw [upd_same, List.map_append]; rfl, by rw [List.length_append]; exact Nat.succ_le_succ lss, t2 _ _ (t1 _ _ epn), ?_⟩
    · rw [List.map_append]
      exact (aD5.imp fun p q h => tA _ _ h : AllAt (DeedAt _) ds (zs.map ddP)).snoc (p := d) (x := (b2.1, w2)) (tA _ _ dq5)
    · rw [e1, along_snoc go bh]
      exact (aS.imp fun p q h => tA _ _ (g5.tup g3.src (s3 _ _ h)) : AllAt (StkAt _) (ss ++ [pl]) (alongD bs stk (zs.map dZ))).snoc (t2 _ _ (t1 _ _ epn))
  · obtain ⟨v6, v7, ml, sl, pl, ds, ss, zs, r, rfl, gM, nm, nl, em, aD, ib, lz, go, es, lss, ep, aS⟩ := z
    refine ⟨_, rfl, _, rfl, (by show 2 ≤ sizeLine; decide), fun p hp => ?_⟩
    have sp := same_new hp (.lst [.ref ml, .ref sl])
    exact k p ml sl ds (ss ++ [pl]) zs r _ (gM.then sp) upd_same nm nl (sp _ _ em) (by rw [List.map_append]; exact sp _ _ es) (aD.imp fun p q h => sp _ _ h) ib lz go (aS.imp fun p q h => sp _ _ h)
end
end My

namespace My
open PySem PySem.Spec PyProof.Rows L2
theorem way_take {bs : List Br} : ∀ {ds : List PyData} {st r : List Int} {n : Nat}, wayF bs st ds = some r → n ≤ ds.length → ∃ r', wayF bs st (ds.take n) = some r' ∧ (alongD bs st ds)[n]? = some r'
  | ds, st, r, 0, _, _ => ⟨st, rfl, by cases ds <;> rfl⟩
  | [], _, _, n + 1, _, l => absurd l (by simp)
  | e :: ds, st, r, n + 1, h, l => by
    have h : (match behD bs st e with | some r => wayF bs r ds | none => none) = some r := h
    show ∃ r', (match behD bs st e with | some r => wayF bs r (ds.take n) | none => none) = some r' ∧ (match behD bs st e with | some r => alongD bs r ds | none => [])[n]? = some r'
    cases q : behD bs st e with
    | none => rw [q] at h; cases h
    | some r1 =>
      rw [q] at h
      exact way_take h (by simpa using l)
/-- data that is no deed at a stock -/
def BadV (s c : Addr) (M : Hp) (bs : List Br) (r : List Int) (v : V) : Prop := ∃ d, Dq (cutH s c M) v d ∧ behD bs r d = none
theorem BadV.same {s c : Addr} {M M' : Hp} {bs : List Br} {r : List Int} {v : V} (h : BadV s c M bs r v) (e : Same M M') : BadV s c M' bs r v := by
  obtain ⟨d, q, b⟩ := h
  exact ⟨d, q.same (cut_of e), b⟩
theorem BadV.go {s c : Addr} {M M' : Hp} {bs : List Br} {r : List Int} {v : V} (h : BadV s c M bs r v) (g : Go s c M M') : BadV s c M' bs r v := by
  obtain ⟨d, q, b⟩ := h
  exact ⟨d, q.same (cut_go g), b⟩
theorem BadV.tup {s c p : Addr} {M : Hp} {bs : List Br} {r : List Int} {xs : List V} {ds : List PyData} (S : Src M s c) (hp : M p = none) (h : DqAll (cutH s c M) xs ds) (b : behD bs r (.tuple ds) = none) : BadV s c (L2.upd M p (.tup xs)) bs r (.ref p) :=
  ⟨_, .tup (cut_in (S.ne_none hp) upd_same) (h.same (cut_of (same_new hp _))), b⟩
theorem BadV.lst {s c p : Addr} {M : Hp} {bs : List Br} {r : List Int} {xs : List V} {ds : List PyData} (S : Src M s c) (hp : M p = none) (big : sysModules < p) (h : DqAll (cutH s c M) xs ds) : BadV s c (L2.upd M p (.lst xs)) bs r (.ref p) :=
  ⟨.list ds, .lst (cut_in (S.ne_none hp) upd_same) big (h.same (cut_of (same_new hp _))), rfl⟩
theorem BadV.dct {s c p : Addr} {M : Hp} {bs : List Br} {r : List Int} (S : Src M s c) (hp : M p = none) : BadV s c (L2.upd M p (.dK [])) bs r (.ref p) :=
  ⟨.dict [], .dct (cut_in (S.ne_none hp) upd_same) .none, rfl⟩
theorem dq_deeds {s c : Addr} {H : Hp} (S : Src H s c) : ∀ {ds : List Addr} {zs : List (Br × Int)}, AllAt (DeedAt H) ds (zs.map ddP) → DqAll (cutH s c H) (ds.map V.ref) (zs.map dZ)
  | [], [], _ => .nil
  | [], z :: zs, h => by have := h.1; simp at this
  | d :: ds, [], h => by have := h.1; simp at this
  | d :: ds, z :: zs, h => by
    have h0 : DeedAt H d (ddP z) := h.2 0 d (ddP z) rfl rfl
    have ht : AllAt (DeedAt H) ds (zs.map ddP) := ⟨by have := h.1; simpa using this, fun i p x a b => h.2 (i + 1) p x a b⟩
    exact .cons (.tup (cut_in (S.ne_tup h0) h0) (.cons (.str _) (.cons (.int _) .nil))) (dq_deeds S ht)
theorem dqA_app {H : Hp} : ∀ {xs ys : List V} {ds es : List PyData}, DqAll H xs ds → DqAll H ys es → DqAll H (xs ++ ys) (ds ++ es)
  | _, _, _, _, .nil, h => h
  | _, _, _, _, .cons a t, h => .cons a (dqA_app t h)
theorem dqA_take {H : Hp} : ∀ {xs : List V} {ds : List PyData} (n : Nat), DqAll H xs ds → DqAll H (xs.take n) (ds.take n)
  | _, _, 0, _ => .nil
  | _, _, n + 1, .nil => .nil
  | _, _, n + 1, .cons a t => .cons a (dqA_take n t)
theorem dqA_drop {H : Hp} : ∀ {xs : List V} {ds : List PyData} (n : Nat), DqAll H xs ds → DqAll H (xs.drop n) (ds.drop n)
  | _, _, 0, h => h
  | _, _, n + 1, .nil => .nil
  | _, _, n + 1, .cons _ t => dqA_drop n t
theorem cut_hiG (xs : List V) {n : Nat} (h : n ≤ xs.length) : cutV xs (some (n : Int)) none = xs.drop n := by
  show (xs.drop (HT.sIx xs.length 0 (some (n : Int)))).take (xs.length - HT.sIx xs.length 0 (some (n : Int))) = _
  rw [HT.sIx_nat, Nat.min_eq_left h, List.take_of_length_le]
  rw [List.length_drop]; omega
def spSpoilt (C : Addr) : Sp := fun vs H Q _ => ∃ (s c wd ml sl : Addr) (gs : List Str) (bs : List Br) (st : List Int) (ds ss : List Addr) (zs : List (Br × Int)) (r : List Int), vs = [.ref s, .ref wd, .ref ml, .ref sl] ∧ Src H s c ∧ WorldH C s c H wd gs bs ∧ gs.length ≤ 100 ∧ bs.length ≤ 100 ∧ st.length = gs.length ∧ ml ≠ c ∧ sl ≠ c ∧ H ml = some (.lst (ds.map V.ref)) ∧ H sl = some (.lst (ss.map V.ref)) ∧ AllAt (DeedAt H) ds (zs.map ddP) ∧ zs.length ≤ 60 ∧ wayF bs st (zs.map dZ) = some r ∧ AllAt (StkAt H) ss (alongD bs st (zs.map dZ)) ∧
  ∀ (p bad : Addr) (n : Nat) (xs : List V) (d : PyData) (r' : List Int) (H' : Hp), Go s c H H' → H' p = some (.lst [.ref bad, .int (n : Nat)]) → H' bad = some (.lst xs) → DqAll (cutH s c H') xs ((zs.map dZ).take n ++ d :: (zs.map dZ).drop n) → n ≤ zs.length → wayF bs st ((zs.map dZ).take n) = some r' → behD bs r' d = none → Q (.ref p) H'
section
variable {P : Program} {w : World} {K : PySem.W.Frag} {mg : Str → Option Value} {base : Heap}
theorem ok_spoilt (T : Tx K mg) : FnOk P w K mg base CX0 5 T.a_law_spoilt T.fd_law_spoilt ["_law_source_here", "_law_world", "_law_script_here", "_law_stocks"] (spSpoilt T.C_Book) := by
  refine T.F_law_spoilt.ok sc_law_spoilt (fun vs H Q E h => ?_) (fun cdv A outer st H vs Q E hr h => ?_)
  · obtain ⟨s, c, wd, ml, sl, gs, bs, stk, ds, ss, zs, r, rfl, _⟩ := h
    rfl
  obtain ⟨s, c, wd, ml, sl, gs, bs, stk, ds, ss, zs, r, rfl, hS, W, g100, b100, ln, nm, ns, hm, hs, aD, lz, hw, aS, k⟩ := h
  have hu := hu_of hr
  have G_law_pick : FnOk P w K mg base CX0 1 T.a_law_pick T.fd_law_pick ["_law_source_here", "_law_many"] spPick := ok_pick T
  have hr_law_pick : Room 1 _ := hr.mono (by omega)
  have G_law_is_deed : FnOk P w K mg base CX0 3 T.a_law_is_deed T.fd_law_is_deed ["_law_world", "_law_stock_here", "_law_value"] spIsDeedD := ok_is_deedD T
  have hr_law_is_deed : Room 3 _ := hr.mono (by omega)
  have G_law_near_deed : FnOk P w K mg base CX0 4 T.a_law_near_deed T.fd_law_near_deed ["_law_source_here", "_law_world", "_law_stock_here"] (spNearD T.C_Book) := ok_near_deed T
  have hr_law_near_deed : Room 4 _ := hr
  have G_law_of : FnOk P w K mg base CX0 2 T.a_law_of T.fd_law_of ["_law_source_here", "_law_some"] (spOf K) := ok_of T
  have hr_law_of : Room 2 _ := hr.mono (by omega)
  refine ⟨_, ((pss_cons (ps_set (i := 4) sc_law_spoilt.nd rfl (Or.inr rfl) (pe_call G_law_pick hr_law_pick rfl T.m_law_pick T.F_law_pick.kp T.b_law_pick .nil pass0 (pa_cons (pv 0) (pa_cons (pe_op op_add (pe_callB call_len_seq (by rfl) T.n_len (by decide +kernel) (pa_cons (pv 2) pa_nil)) pe_int) pa_nil))))
      (pss_cons (ps_set (i := 5) sc_law_spoilt.nd rfl (Or.inl rfl) (pe_op op_cat (pe_lc (own := [("_law_one", 7)]) (by rfl) sc_law_spoilt.nd (pi_list (pv 2)) (blkOk_by (own := [("_law_one", 7)]) (N := ["_law_source_here", "_law_world", "_law_script_here", "_law_stocks", "_law_at", "_law_some", "_law_bad", "_law_one"]) (sc := defScope s_law_spoilt) (by decide +kernel)) (fun _ _ _ _ _ => pg_name (i := 7) sc_law_spoilt.nd rfl (Or.inl rfl)) (fun _ _ _ _ _ => (pts_one (pt_not (pt_val (pe_call G_law_is_deed hr_law_is_deed rfl T.m_law_is_deed T.F_law_is_deed.kp T.b_law_is_deed .nil pass0 (pa_cons (pv 1) (pa_cons (pe_ix (show IxR _ (rIxL K) from ix_list) (pv 3) (pv 4) (fun _ _ => rfl)) (pa_cons (pv 7) pa_nil)))))))) (fun _ _ _ _ _ => (pv 7))) (pe_lstN (pa_cons pe_non (pa_cons (pe_tup pa_nil) (pa_cons (pe_tup (pa_cons pe_str pa_nil)) (pa_cons (pe_lstN (pa_cons pe_int pa_nil)) (pa_cons pe_dnewK (pa_cons pe_str (pa_cons pe_int pa_nil))))))))))
      (pss_cons (ps_set (i := 6) sc_law_spoilt.nd rfl (Or.inl rfl) (pe_call G_law_near_deed hr_law_near_deed rfl T.m_law_near_deed T.F_law_near_deed.kp T.b_law_near_deed .nil pass0 (pa_cons (pv 0) (pa_cons (pv 1) (pa_cons (pe_ix (show IxR _ (rIxL K) from ix_list) (pv 3) (pv 4) (fun _ _ => rfl)) pa_nil)))))
      (pss_cons (ps_set (i := 5) sc_law_spoilt.nd rfl (Or.inl rfl) (pe_ifExp (pt_val (pe_call G_law_is_deed hr_law_is_deed rfl T.m_law_is_deed T.F_law_is_deed.kp T.b_law_is_deed .nil pass0 (pa_cons (pv 1) (pa_cons (pe_ix (show IxR _ (rIxL K) from ix_list) (pv 3) (pv 4) (fun _ _ => rfl)) (pa_cons (pv 6) pa_nil))))) (pv 5) (pe_op op_cat (pv 5) (pe_op op_rep (pe_lstN (pa_cons (pv 6) pa_nil)) pe_int))))
      (pss_one (ps_ret (pe_lstN (pa_cons (pe_op op_cat (pe_op op_cat (pe_slice sl_list (pv 2) po_none (po_some (pv 4))) (pe_lstN (pa_cons (pe_call G_law_of hr_law_of rfl T.m_law_of T.F_law_of.kp T.b_law_of .nil pass0 (pa_cons (pv 0) (pa_cons (pv 5) pa_nil))) pa_nil))) (pe_slice sl_list (pv 2) (po_some (pv 4)) po_none)) (pa_cons (pv 4) pa_nil)))))))))), ?_⟩
  obtain ⟨g, l, x, ps, ex, WX⟩ := id W
  have lrow : ∀ b ∈ bs, b.2.length = gs.length ∧ mixedB b.2 = true := fun b hb => (WX.G.bw b hb).2
  have WR : ∀ {N : Hp}, Go s c H N → WldR N wd l ps gs.length bs := fun {N} gg => by
    have c5 := cut_go gg
    exact ⟨⟨g, x, ex, (cut_at' (c5 _ _ WX.hw)).2.2⟩, (cut_at' (c5 _ _ WX.hl)).2.2, (WX.hb.same c5).same cut_same, WX.G.bn, lrow, b100⟩
  have lds : ds.length = zs.length := by rw [aD.1, List.length_map]
  refine ⟨_, rfl, _, rfl, ml, _, rfl, .inl (SqL.of hm), _, _, rfl, rfl, s, c, _, rfl, hS, by rw [List.length_map]; omega, by rw [List.length_map]; omega, fun j N0 j0 j1 g1 => ?_⟩
  obtain ⟨n, rfl⟩ : ∃ n : Nat, j = (n : Nat) := ⟨j.toNat, by omega⟩
  have nl : n ≤ zs.length := by rw [List.length_map] at j1; omega
  obtain ⟨r', hr', hal⟩ := way_take (n := n) hw (by rw [List.length_map]; exact nl)
  have W1 := WR g1
  have hm1 := g1.lst hS hm nm
  have hs1 := g1.lst hS hs ns
  have aD1 : AllAt (DeedAt N0) ds (zs.map ddP) := aD.imp fun p q h => g1.tup hS h
  have aS1 : AllAt (StkAt N0) ss (alongD bs stk (zs.map dZ)) := aS.imp fun p q h => g1.tup hS h
  have dqs := dq_deeds g1.src aD1
  obtain ⟨q0, hq0⟩ : ∃ q0, ss[n]? = some q0 := ⟨_, List.getElem?_eq_getElem (by rw [aS1.1]; exact (List.getElem?_eq_some_iff.mp hal).1)⟩
  have eq0 : N0 q0 = some (.tup (rowV r')) := aS1.2 n q0 r' hq0 hal
  have lr : r'.length = gs.length := by rw [way_rows (fun b hb => by rw [ln]; exact (lrow b hb).1) hr', ln]
  refine ⟨_, rfl, ml, rfl, ⟨_, SqL.of hm1⟩, fun D hD => ?_⟩
  refine lc_list (xs := ds.map V.ref) (fun i M => ∃ vs, Same N0 M ∧ M D = some (.lst vs) ∧ vs.length ≤ i ∧ ∀ y ∈ vs, BadV s c N0 bs r' y) ⟨[], same_new hD _, upd_same, Nat.le_refl _, fun _ h => nomatch h⟩ (fun i M _ ⟨_, z, _⟩ => SqL.of (z _ _ hm1)) (fun i y M hy z => ?_) (fun M z => ?_)
  · obtain ⟨vs, sM, eM, lv, al⟩ := z
    obtain ⟨d, hd, dy⟩ := dq_at dqs hy
    refine ⟨rfl, ?_⟩
    refine ⟨_, rfl, _, rfl, _, rfl, sl, _, _, _, rfl, rfl, SqL.of (sM _ _ hs1), atI_nat (mapM hq0), _, rfl, wd, q0, l, y, d, ps, gs.length, bs, r', rfl, W1.same sM, sM _ _ eq0, lr, g100, (dy.same cut_same).same sM, fun M2 s2 => ⟨_, rfl, ?_⟩⟩
    have li : i < ds.length := by have := (List.getElem?_eq_some_iff.mp hy).1; rw [List.length_map] at this; exact this
    cases hb : behD bs r' d with
    | some r2 => exact iteF ⟨vs, sM.trans s2, s2 _ _ eM, by omega, al⟩
    | none =>
      refine iteT ⟨_, rfl, vs, s2 _ _ eM, small1000 (by omega), vs ++ [y], same_put hD (sM.trans s2), upd_same, by rw [List.length_append, List.length_singleton]; omega, fun z hz => ?_⟩
      rcases List.mem_append.mp hz with h | h
      · exact al z h
      · rw [List.mem_singleton.mp h]
        exact ⟨d, dy, hb⟩
  obtain ⟨vs, sM, eM, lv, al⟩ := z
  rw [List.length_map] at lv
  have nD := g1.src.ne_none hD
  refine ⟨Nat.zero_le _, fun p1 h1 => ⟨(by show 1 ≤ sizeLine; decide), fun p2 h2 => ⟨(by show 1 ≤ sizeLine; decide), fun p3 h3 b3 => fun p4 h4 => ⟨(by show 7 ≤ sizeLine; decide), fun L hL bL => ?_⟩⟩⟩⟩
  have gM := g1.then sM
  have t1 := same_new h1 (.tup [])
  have S1 := gM.src.same t1
  have o1 := BadV.tup (bs := bs) (r := r') gM.src h1 .nil (beh_none (dq_len (by decide)))
  have t2 := same_new h2 (.tup [.str "u"])
  have S2 := S1.same t2
  have o2 := BadV.tup (bs := bs) (r := r') S1 h2 (xs := [.str "u"]) (.cons (.str _) .nil) (beh_none (dq_len (by decide)))
  have t3 := same_new h3 (.lst [.int 1])
  have S3 := S2.same t3
  have o3 := BadV.lst (bs := bs) (r := r') S2 h3 b3 (xs := [.int 1]) (.cons (.int _) .nil)
  have t4 := same_new h4 (.dK [])
  have S4 := S3.same t4
  have o4 := BadV.dct (bs := bs) (r := r') S3 h4
  have tL := same_new hL (.lst [.non, .ref p1, .ref p2, .ref p3, .ref p4, .str "ab", .int 7])
  have u3 := t4
  have u2 := t3.trans u3
  have u1 := t2.trans u2
  have uA := t1.trans u1
  have all : ∀ y ∈ ([.non, .ref p1, .ref p2, .ref p3, .ref p4, .str "ab", .int 7] : List V), BadV s c _ bs r' y :=
    all_cons ⟨.none, .non, rfl⟩ (all_cons (o1.same u1) (all_cons (o2.same u2) (all_cons (o3.same u3) (all_cons o4 (all_cons ⟨.str _, .str _, rfl⟩ (all_cons ⟨.int _, .int _, rfl⟩ all_nil))))))
  have sL := uA.trans tL
  refine ⟨D, L, _, _, rfl, rfl, sL _ _ eM, upd_same, by show vs.length + 7 ≤ sizeLine; exact small (by omega), fun La hLa => ?_⟩
  have tA := same_new hLa (.lst (vs ++ [.non, .ref p1, .ref p2, .ref p3, .ref p4, .str "ab", .int 7]))
  have sA := sM.trans (sL.trans tA)
  have gA := g1.then sA
  have nA := (gM.then sL).src.ne_none hLa
  have alA : ∀ y ∈ vs ++ [.non, .ref p1, .ref p2, .ref p3, .ref p4, .str "ab", .int 7], BadV s c _ bs r' y := fun y hy => (List.mem_append.mp hy).elim (fun h => (al y h).same sA) (fun h => (all y h).same (tL.trans tA))
  have eA := upd_same (H := L2.upd (L2.upd (L2.upd (L2.upd (L2.upd M p1 (.tup [])) p2 (.tup [.str "u"])) p3 (.lst [.int 1])) p4 (.dK [])) L (.lst [.non, .ref p1, .ref p2, .ref p3, .ref p4, .str "ab", .int 7])) (a := La) (o := .lst (vs ++ [.non, .ref p1, .ref p2, .ref p3, .ref p4, .str "ab", .int 7]))
  generalize L2.upd (L2.upd (L2.upd (L2.upd (L2.upd (L2.upd M p1 (.tup [])) p2 (.tup [.str "u"])) p3 (.lst [.int 1])) p4 (.dK [])) L (.lst [.non, .ref p1, .ref p2, .ref p3, .ref p4, .str "ab", .int 7])) La (.lst (vs ++ [.non, .ref p1, .ref p2, .ref p3, .ref p4, .str "ab", .int 7])) = M3 at sA gA alA eA ⊢
  have lA : (vs ++ ([.non, .ref p1, .ref p2, .ref p3, .ref p4, .str "ab", .int 7] : List V)).length ≤ 67 ∧ 7 ≤ (vs ++ ([.non, .ref p1, .ref p2, .ref p3, .ref p4, .str "ab", .int 7] : List V)).length := by
    rw [List.length_append]
    show vs.length + 7 ≤ 67 ∧ 7 ≤ vs.length + 7
    omega
  generalize vs ++ ([.non, .ref p1, .ref p2, .ref p3, .ref p4, .str "ab", .int 7] : List V) = us at alA eA lA
  refine ⟨_, rfl, _, rfl, _, rfl, _, rfl, sl, _, _, _, rfl, rfl, SqL.of (sA _ _ hs1), atI_nat (mapM hq0), s, c, wd, q0, gs, bs, r', rfl, gA.src, W.go gA, g100, b100, sA _ _ eq0, lr, fun v M4 g4 nv => ?_⟩
  have gB := gA.trans g4
  have hsB := g4.lst gA.src (sA _ _ hs1) ns
  have eqB := g4.tup gA.src (sA _ _ eq0)
  have eB := g4.lst gA.src eA nA.2
  have alB : ∀ y ∈ us, BadV s c M4 bs r' y := fun y hy => (alA y hy).go g4
  obtain ⟨dv, qv⟩ := nv
  refine ⟨_, rfl, _, rfl, _, rfl, sl, _, _, _, rfl, rfl, SqL.of hsB, atI_nat (mapM hq0), _, rfl, wd, q0, l, v, dv, ps, gs.length, bs, r', rfl, WR gB, eqB, lr, g100, qv.same cut_same, fun M5 s5 => ⟨_, rfl, ?_⟩⟩
  have gC := gB.then s5
  have hmC : M5 ml = some (.lst (ds.map V.ref)) := s5 _ _ (g4.lst gA.src (sA _ _ hm1) nm)
  have eC := s5 _ _ eB
  cases hb : behD bs r' dv with
  | some r2 =>
    refine iteT ⟨_, rfl, ?_⟩
    have hmZ := hmC
    have eZ := eC
    have gZ := gC
    have nZ := nA
    have alZ : ∀ y ∈ us, BadV s c M5 bs r' y := fun y hy => (alB y hy).same s5
    have lZ := lA
    refine ⟨_, rfl, _, rfl, _, rfl, ml, _, rfl, SqL.of hmZ, fun pa hpa => ?_⟩
    rw [cutV_lo']
    have sa := same_new hpa (.lst ((ds.map V.ref).take n))
    have eLa := sa _ _ eZ
    refine ⟨_, rfl, _, rfl, s, c, La, _, rfl, gZ.src.same sa, eLa, nZ.2, by omega, by omega, fun i y M7 hy g7 => ⟨(by show 1 ≤ sizeLine; decide), fun L1 hL1 bL1 => ?_⟩⟩
    have npa := gZ.src.ne_none hpa
    have g8 := (gZ.then sa).trans g7
    have ea := g7.lst (gZ.src.same sa) (upd_same (a := pa) (o := .lst ((ds.map V.ref).take n))) npa.2
    have hm8 := g7.lst (gZ.src.same sa) (sa _ _ hmZ) nm
    have by8 := ((alZ y (List.mem_of_getElem? hy)).same sa).go g7
    have t1 := same_new hL1 (.lst [y])
    refine ⟨pa, L1, _, _, rfl, rfl, t1 _ _ ea, upd_same, by rw [List.length_take, List.length_map]; show _ + 1 ≤ sizeLine; exact small (by omega), fun L2 hL2 => ?_⟩
    have t2 := same_new hL2 (.lst ((ds.map V.ref).take n ++ [y]))
    refine ⟨_, rfl, _, rfl, _, rfl, ml, _, rfl, SqL.of (t2 _ _ (t1 _ _ hm8)), fun pb hpb => ?_⟩
    rw [cut_hiG _ (by rw [List.length_map, lds]; exact nl)]
    have t3 := same_new hpb (.lst ((ds.map V.ref).drop n))
    refine ⟨L2, pb, _, _, rfl, rfl, t3 _ _ upd_same, upd_same, by rw [List.length_append, List.length_take, List.length_drop, List.length_map]; show _ + 1 + _ ≤ sizeLine; exact small (by omega), fun L3 hL3 => ?_⟩
    have t4 := same_new hL3 (.lst (((ds.map V.ref).take n ++ [y]) ++ (ds.map V.ref).drop n))
    refine ⟨_, rfl, (by show 2 ≤ sizeLine; decide), fun P hP bP => ?_⟩
    have t5 := same_new hP (.lst [.ref L3, .int (n : Nat)])
    have tA := t1.trans (t2.trans (t3.trans (t4.trans t5)))
    have gF := g8.then tA
    obtain ⟨dy, qy, by'⟩ := by8
    have dqF : DqAll (cutH s c _) (ds.map V.ref) (zs.map dZ) := (dq_deeds hS aD).same (cut_go (gF))
    refine k P L3 n _ dy r' _ (gF) upd_same (t5 _ _ upd_same) ?_ nl hr' by'
    have q3 := dqA_app (dqA_app (dqA_take n dqF) (.cons (qy.same (cut_of tA)) .nil)) (dqA_drop n dqF)
    have e3 : (zs.map dZ).take n ++ [dy] ++ (zs.map dZ).drop n = (zs.map dZ).take n ++ dy :: (zs.map dZ).drop n := by rw [List.append_assoc, List.singleton_append]
    rw [← e3]
    exact q3
  | none =>
    refine iteF ⟨_, rfl, _, rfl, (by show 1 ≤ sizeLine; decide), fun L6 h6 b6 => ?_⟩
    have t6 := same_new h6 (.lst [v])
    refine ⟨L6, 6, _, rfl, rfl, upd_same, by decide, by decide, (by show 1 * 6 ≤ sizeLine; decide), fun L7 h7 => ?_⟩
    have e7 : (List.replicate (6 : Int).toNat [v]).flatten = [v, v, v, v, v, v] := rfl
    rw [e7]
    have t7 := same_new h7 (.lst [v, v, v, v, v, v])
    have s67 := t6.trans t7
    refine ⟨La, L7, _, _, rfl, rfl, s67 _ _ eC, upd_same, by show us.length + 6 ≤ sizeLine; exact small (by omega), fun L8 h8 => ?_⟩
    have t8 := same_new h8 (.lst (us ++ [v, v, v, v, v, v]))
    have s68 := s67.trans t8
    have hmZ := s68 _ _ hmC
    have gZ := gC.then s68
    have nZ := (gC.then s67).src.ne_none h8
    have bv : BadV s c M4 bs r' v := ⟨dv, qv, hb⟩
    have alZ : ∀ y ∈ us ++ [v, v, v, v, v, v], BadV s c _ bs r' y := fun y hy => (List.mem_append.mp hy).elim (fun h => ((alB y h).same s5).same s68) (fun h => by
      have e : y = v := by simpa using h
      rw [e]
      exact (bv.same s5).same s68)
    have eZ := upd_same (H := L2.upd (L2.upd M5 L6 (.lst [v])) L7 (.lst [v, v, v, v, v, v])) (a := L8) (o := .lst (us ++ [v, v, v, v, v, v]))
    have lZ : (us ++ [v, v, v, v, v, v]).length ≤ 73 ∧ 7 ≤ (us ++ [v, v, v, v, v, v]).length := by
      rw [List.length_append]
      show us.length + 6 ≤ 73 ∧ 7 ≤ us.length + 6
      omega
    generalize L2.upd (L2.upd (L2.upd M5 L6 (.lst [v])) L7 (.lst [v, v, v, v, v, v])) L8 (.lst (us ++ [v, v, v, v, v, v])) = M9 at hmZ gZ alZ eZ ⊢
    refine ⟨_, rfl, _, rfl, _, rfl, ml, _, rfl, SqL.of hmZ, fun pa hpa => ?_⟩
    rw [cutV_lo']
    have sa := same_new hpa (.lst ((ds.map V.ref).take n))
    have eLa := sa _ _ eZ
    refine ⟨_, rfl, _, rfl, s, c, L8, _, rfl, gZ.src.same sa, eLa, nZ.2, by omega, by omega, fun i y M7 hy g7 => ⟨(by show 1 ≤ sizeLine; decide), fun L1 hL1 bL1 => ?_⟩⟩
    have npa := gZ.src.ne_none hpa
    have g8 := (gZ.then sa).trans g7
    have ea := g7.lst (gZ.src.same sa) (upd_same (a := pa) (o := .lst ((ds.map V.ref).take n))) npa.2
    have hm8 := g7.lst (gZ.src.same sa) (sa _ _ hmZ) nm
    have by8 := ((alZ y (List.mem_of_getElem? hy)).same sa).go g7
    have t1 := same_new hL1 (.lst [y])
    refine ⟨pa, L1, _, _, rfl, rfl, t1 _ _ ea, upd_same, by rw [List.length_take, List.length_map]; show _ + 1 ≤ sizeLine; exact small (by omega), fun L2 hL2 => ?_⟩
    have t2 := same_new hL2 (.lst ((ds.map V.ref).take n ++ [y]))
    refine ⟨_, rfl, _, rfl, _, rfl, ml, _, rfl, SqL.of (t2 _ _ (t1 _ _ hm8)), fun pb hpb => ?_⟩
    rw [cut_hiG _ (by rw [List.length_map, lds]; exact nl)]
    have t3 := same_new hpb (.lst ((ds.map V.ref).drop n))
    refine ⟨L2, pb, _, _, rfl, rfl, t3 _ _ upd_same, upd_same, by rw [List.length_append, List.length_take, List.length_drop, List.length_map]; show _ + 1 + _ ≤ sizeLine; exact small (by omega), fun L3 hL3 => ?_⟩
    have t4 := same_new hL3 (.lst (((ds.map V.ref).take n ++ [y]) ++ (ds.map V.ref).drop n))
    refine ⟨_, rfl, (by show 2 ≤ sizeLine; decide), fun P hP bP => ?_⟩
    have t5 := same_new hP (.lst [.ref L3, .int (n : Nat)])
    have tA := t1.trans (t2.trans (t3.trans (t4.trans t5)))
    have gF := g8.then tA
    obtain ⟨dy, qy, by'⟩ := by8
    have dqF : DqAll (cutH s c _) (ds.map V.ref) (zs.map dZ) := (dq_deeds hS aD).same (cut_go (gF))
    refine k P L3 n _ dy r' _ (gF) upd_same (t5 _ _ upd_same) ?_ nl hr' by'
    have q3 := dqA_app (dqA_app (dqA_take n dqF) (.cons (qy.same (cut_of tA)) .nil)) (dqA_drop n dqF)
    have e3 : (zs.map dZ).take n ++ [dy] ++ (zs.map dZ).drop n = (zs.map dZ).take n ++ dy :: (zs.map dZ).drop n := by rw [List.append_assoc, List.singleton_append]
    rw [← e3]
    exact q3
end
end My

namespace My
open PySem PySem.Spec PyProof.Rows L2
theorem combR_len {r o : List Int} {m n : Int} (l : r.length = o.length) : (combR m r n o).length = r.length := by unfold combR; rw [List.length_zipWith]; omega
theorem comb_get {st r : List Int} {w x y : Int} {k : Nat} (hx : st[k]? = some x) (hy : r[k]? = some y) : (combR 1 st w r)[k]? = some (x + w * y) := by
  unfold combR
  rw [List.getElem?_zipWith, hx, hy]
  show some (1 * x + w * y) = _
  rw [Int.one_mul]
theorem dp_tup {K : PySem.W.Frag} {H : Hp} {p : Addr} {r : List Int} (h : H p = some (.tup (rowV r))) : Dp K H (.ref p) (.tuple (r.map .int)) := .tup (SqT.of h) (dp_row r)
theorem lay_tup (r : List Int) : SeqAt.shaped (.tuple (r.map .int)) = true := (lay_ints r).tuple.shaped (by decide)
theorem comb_back {st r : List Int} {w : Int} (l : st.length = r.length) : combR 1 (combR 1 st w r) (-w) r = st := by
  refine List.ext_getElem? fun k => ?_
  by_cases h : k < r.length
  · have hx : st[k]? = some st[k] := List.getElem?_eq_getElem (by omega)
    have hy : r[k]? = some r[k] := List.getElem?_eq_getElem h
    rw [comb_get (comb_get hx hy) hy, hx, Int.neg_mul]
    congr 1
    omega
  · have la := combR_len (r := st) (o := r) (m := 1) (n := w) l
    have lb := combR_len (r := combR 1 st w r) (o := r) (m := 1) (n := -w) (by omega)
    rw [List.getElem?_eq_none (by omega), List.getElem?_eq_none (by omega)]
theorem sm_int {z : Int} (h0 : 0 ≤ z) (h1 : z < 10 ^ 40) : Sm 0 0 (.int z) := by
  refine ⟨?_, Nat.zero_le _, ?_, Nat.zero_le _⟩
  · show decide (z.natAbs.log2 < 1920) = true
    refine decide_eq_true ?_
    by_cases e : z.natAbs = 0
    · rw [e]; decide +kernel
    · rw [Nat.log2_lt e]
      have q : (10 : Nat) ^ 40 ≤ 2 ^ 1920 := by decide +kernel
      have c : (10 : Int) ^ 40 = ((10 ^ 40 : Nat) : Int) := by decide +kernel
      rw [c] at h1
      generalize (10 : Nat) ^ 40 = t at q h1
      exact Nat.lt_of_lt_of_le (by omega) q
  · show decide ((PyData.int z).shown.length ≤ 40) = true
    rw [PyData.shown_int]
    exact decide_eq_true (toString_length_le h0 (by decide) h1)
theorem sm_ints : ∀ {r : List Int}, (∀ z ∈ r, 0 ≤ z ∧ z < 10 ^ 40) → SmA 0 r.length (r.map .int)
  | [], _ => .nil
  | z :: r, h => by
    have a := h z (List.mem_cons_self ..)
    refine SmA.up (SmA.cons (sm_int a.1 a.2) (sm_ints fun y hy => h y (List.mem_cons_of_mem _ hy))) ?_
    rw [List.length_cons]; omega
theorem enough_posB {st : List Int} (h : ∀ z ∈ st, 0 ≤ z) : enoughB st = true := List.all_eq_true.mpr fun z hz => decide_eq_true (h z hz)
def negZ (z : Br × Int) : Br × Int := (z.1, -z.2)
abbrev stkD (r : List Int) : PyData := .tuple (r.map .int)
theorem back_zs (zs : List (Br × Int)) : backQ (zs.map dZ) = (zs.reverse.map negZ).map ddP := by
  unfold backQ
  rw [← List.map_reverse, List.map_map, List.map_map]
  rfl
theorem neg_in {bs : List Br} {n : Nat} {zs : List (Br × Int)} (h : inBk bs n zs) : inBk bs n (zs.reverse.map negZ) := fun y hy => by
  obtain ⟨z, hz, rfl⟩ := List.mem_map.mp hy
  have q := h z (List.mem_reverse.mp hz)
  refine ⟨q.1, ?_, q.2.2⟩
  show -z.2 = 1 ∨ -z.2 = -1
  rcases q.2.1 with e | e <;> rw [e] <;> simp
theorem beh_some {bs : List Br} {st r : List Int} {z : Br × Int} (nd : (bs.map (·.1)).Nodup) (h : z.1 ∈ bs) (w : z.2 = 1 ∨ z.2 = -1) (e : behD bs st (dZ z) = some r) : r = combR 1 st z.2 z.1.2 ∧ enoughB r = true := by
  have q := beh_of (st := st) nd h w
  rw [show behD bs st (dD (ddP z)) = some r from e] at q
  by_cases o : okP st z = true
  · rw [if_pos o] at q
    cases q
    exact ⟨rfl, o⟩
  · rw [if_neg o] at q
    cases q
theorem way_rev {bs : List Br} (nd : (bs.map (·.1)).Nodup) : ∀ {zs : List (Br × Int)} {st r : List Int}, inBk bs st.length zs → enoughB st = true → wayF bs st (zs.map dZ) = some r →
    wayF bs r ((zs.reverse.map negZ).map dZ) = some st ∧ alongD bs r ((zs.reverse.map negZ).map dZ) = (alongD bs st (zs.map dZ)).reverse
  | [], st, r, _, _, h => by cases h; exact ⟨rfl, rfl⟩
  | z :: zs, st, r, ib, en, h => by
    have h : (match behD bs st (dZ z) with | some r => wayF bs r (zs.map dZ) | none => none) = some r := h
    cases q : behD bs st (dZ z) with
    | none => rw [q] at h; cases h
    | some r1 =>
      rw [q] at h
      have iz := ib z List.mem_cons_self
      obtain ⟨e1, en1⟩ := beh_some nd iz.1 iz.2.1 q
      have l1 : r1.length = st.length := by rw [e1]; exact combR_len iz.2.2.symm
      have ih := way_rev nd (st := r1) (r := r) (fun y hy => by rw [l1]; exact ib y (List.mem_cons_of_mem _ hy)) en1 h
      have e2 : ((z :: zs).reverse.map negZ).map dZ = (zs.reverse.map negZ).map dZ ++ [dZ (negZ z)] := by
        rw [List.reverse_cons, List.map_append, List.map_append]
        rfl
      have e3 : alongD bs st ((z :: zs).map dZ) = st :: alongD bs r1 (zs.map dZ) := by
        show st :: (match behD bs st (dZ z) with | some r => alongD bs r (zs.map dZ) | none => []) = _
        rw [q]
      have b2 : behD bs r1 (dZ (negZ z)) = some st := by
        have w2 : (negZ z).2 = 1 ∨ (negZ z).2 = -1 := (neg_in ib (negZ z) (List.mem_map.mpr ⟨z, List.mem_reverse.mpr List.mem_cons_self, rfl⟩)).2.1
        have cb : combR 1 r1 (-z.2) z.1.2 = st := by rw [e1]; exact comb_back iz.2.2.symm
        rw [show behD bs r1 (dZ (negZ z)) = _ from beh_of (z := negZ z) nd iz.1 w2]
        have o : okP r1 (negZ z) = true := by
          show enoughB (combR 1 r1 (-z.2) z.1.2) = true
          rw [cb]; exact en
        rw [if_pos o]
        show some (combR 1 r1 (-z.2) z.1.2) = _
        rw [cb]
      rw [e2, e3]
      refine ⟨by rw [way_snoc ih.1]; exact b2, ?_⟩
      rw [along_snoc ih.1 b2, ih.2, List.reverse_cons]
theorem comb_bd {st r : List Int} {w B : Int} (l1 : st.length = r.length) (bs : ∀ z ∈ st, z < B) (br : smallR r) (hw : w = 1 ∨ w = -1) : ∀ z ∈ combR 1 st w r, z < B + 4 := by
  intro z hz
  obtain ⟨k, hk, e⟩ := List.getElem_of_mem hz
  have hk' : k < st.length := by rw [← combR_len (m := 1) (n := w) l1]; exact hk
  have hx : st[k]? = some st[k] := List.getElem?_eq_getElem hk'
  have hy : r[k]? = some (r[k]'(by omega)) := List.getElem?_eq_getElem (by omega)
  have q := comb_get (w := w) hx hy
  rw [List.getElem?_eq_getElem hk, e] at q
  have e2 := Option.some.inj q
  have a := bs _ (List.mem_of_getElem? hx)
  have b := br _ (List.mem_of_getElem? hy)
  rcases hw with rfl | rfl <;> omega
theorem along_bd {bs : List Br} (nd : (bs.map (·.1)).Nodup) (sm : ∀ b ∈ bs, smallR b.2) : ∀ {zs : List (Br × Int)} {st : List Int} {B : Int}, inBk bs st.length zs → (∀ z ∈ st, 0 ≤ z ∧ z < B) → ∀ r ∈ alongD bs st (zs.map dZ), r.length = st.length ∧ ∀ z ∈ r, 0 ≤ z ∧ z < B + 4 * (zs.length : Int)
  | [], st, B, _, h, r, hr => by
    have e : r = st := by simpa [alongD] using hr
    rw [e]
    exact ⟨rfl, fun z hz => ⟨(h z hz).1, by have := (h z hz).2; simp; omega⟩⟩
  | y :: zs, st, B, ib, h, r, hr => by
    have hr : r ∈ st :: (match behD bs st (dZ y) with | some r => alongD bs r (zs.map dZ) | none => []) := hr
    rw [List.length_cons]
    rcases List.mem_cons.mp hr with rfl | hr
    · exact ⟨rfl, fun z hz => ⟨(h z hz).1, by have := (h z hz).2; omega⟩⟩
    · cases q : behD bs st (dZ y) with
      | none => rw [q] at hr; cases hr
      | some r1 =>
        rw [q] at hr
        have iy := ib y List.mem_cons_self
        obtain ⟨e1, en1⟩ := beh_some nd iy.1 iy.2.1 q
        have l1 : r1.length = st.length := by rw [e1]; exact combR_len iy.2.2.symm
        have b1 : ∀ z ∈ r1, 0 ≤ z ∧ z < B + 4 := fun z hz => ⟨of_decide_eq_true ((List.all_eq_true.mp en1) z hz), by
          rw [e1] at hz
          exact comb_bd iy.2.2.symm (fun z hz => (h z hz).2) (sm _ iy.1) iy.2.1 z hz⟩
        have ih := along_bd nd sm (zs := zs) (st := r1) (B := B + 4) (fun u hu => by rw [l1]; exact ib u (List.mem_cons_of_mem _ hu)) b1 r hr
        exact ⟨by rw [ih.1, l1], fun z hz => ⟨(ih.2 z hz).1, by have := (ih.2 z hz).2; push_cast; omega⟩⟩
theorem sm_stks {n : Nat} : ∀ {rs : List (List Int)}, (∀ r ∈ rs, r.length ≤ n ∧ ∀ z ∈ r, 0 ≤ z ∧ z < 10 ^ 40) → SmA 1 ((n + 1) * rs.length) (rs.map stkD)
  | [], _ => .nil
  | r :: rs, h => by
    have h0 := h r List.mem_cons_self
    have a : Sm 1 n (stkD r) := ((sm_ints h0.2).tuple).up (Nat.le_refl _) h0.1
    refine SmA.up (SmA.cons a (sm_stks fun y hy => h y (List.mem_cons_of_mem _ hy))) ?_
    rw [List.length_cons, Nat.mul_succ]; omega
end My

namespace My
open PySem PySem.Spec PyProof.Rows L2
/-- a def that shows values, called where nothing is being shown -/
theorem pe_callG {X : Cx} {x : Str} {f : Addr} {k : Nat} {fd : FuncData} {ps : List Str} {sp : Sp} {e : Expr} {es : List Expr} {t : TA} {p pos : Pos} (F : FnG X.prog X.w X.K X.mg X.base k f fd ps sp) (gu : X.A.guards = some []) (hr : Room k X.A) (hg : Gl X x) (hm : X.mg x = some (.ref f)) (hk : PySem.W.keepIn X.K (.ref f) = true) (hb : Binds X.K fd ps []) (hx : Passes CX0 X (fun _ _ _ => False))
    (ha : PA X (e :: es) t) (hdb : (x == ("__debug__" : Str)) = false := by decide) (he : starEach (e :: es) X.env = (false, eval e X.env) :: starEach es X.env := by rfl) (hpl : (backTo pos (starEach es X.env)).any (·.1) = false := by rfl) :
    PE X (.Call (.Name x p) (e :: es) [] pos) (tCall sp [] (fun _ _ _ => False) t) := by
  refine ⟨fun pins s σ H Q I h => ?_⟩
  refine wpAny_Call_Name_kw (ld_glob I hg hm ?_ hdb)
  refine PySem.W.callWith_K (h₀ := X.base) I.ok.mod.kin hk (thn (ha.run pos pins s σ H _ I h) fun us s1 ⟨vs, H1, I1, r, q⟩ => ⟨I1.kIn, (show wpAny _ _ (call (.ref f) us) _ _ _ from ?_)⟩) he hpl
  have q : sp (vs ++ []) H1 Q (fun _ _ _ => False) := q
  rw [List.append_nil] at q
  have hl : us.length = ps.length := by rw [← r.length]; exact F.len _ _ _ _ q
  refine wpAny_call (codeAny_mono (F.run X.A gu hr X.stack s1 H1 I1.env0 ⟨us, []⟩ us (by simpa using hb s1 us I1.kIn (by simpa using hl)) vs r Q (fun _ _ _ => False) q) fun r s' hq => ?_)
  rcases r with er | fl
  · exact hx pins σ H1 s1 er s' I1 hq
  cases fl with
  | ret u => exact I1.after hq
  | _ => exact False.elim hq
theorem passN {X : Cx} : Passes (L2.CX X.prog X.w) X (fun _ _ _ => False) := fun _ _ _ _ _ _ _ h => by
  obtain ⟨_, _, _, _, _, _, _, _, _, _, _, _, z⟩ := h
  exact z.elim
/-- what the law asks of a right script -/
structure RtAt (C : Addr) (H : Hp) (gs : List Str) (bs : List Br) (st : List Int) (ds ss : List Addr) (zs : List (Br × Int)) (r : List Int) (x a ml sl : Addr) : Prop where
  hB : BookH C H x gs bs
  nd : (bs.map (·.1)).Nodup
  wd : ∀ b ∈ bs, wordD (.str b.1) = true
  ha : H a = some (.tup (rowV st))
  sl100 : st.length ≤ 100
  bw : ∀ b ∈ bs, b.2.length = st.length
  sm : ∀ b ∈ bs, smallR b.2
  sb : ∀ z ∈ st, StkB z
  hm : H ml = some (.lst (ds.map V.ref))
  hs : H sl = some (.lst (ss.map V.ref))
  aD : AllAt (DeedAt H) ds (zs.map ddP)
  ib : inBk bs st.length zs
  lz : zs.length ≤ 60
  hw : wayF bs st (zs.map dZ) = some r
  aS : AllAt (StkAt H) ss (alongD bs st (zs.map dZ))
theorem told_sm {rs : List (List Int)} {qs : List Dd} (h1 : ∀ r ∈ rs, r.length ≤ 100 ∧ ∀ z ∈ r, 0 ≤ z ∧ z < 10 ^ 40) (l1 : rs.length ≤ 62) (h2 : ∀ q ∈ qs, wordD (.str q.1) = true ∧ (q.2 = 1 ∨ q.2 = -1)) (l2 : qs.length ≤ 62) :
    Sm 3 20000 (.list [.list (rs.map stkD), .list (qs.map dD)]) := by
  have a : Sm 2 ((100 + 1) * rs.length) (.list (rs.map stkD)) := (sm_stks h1).list
  have b : Sm 2 (61 * qs.length) (.list (qs.map dD)) := (sm_dues h2).list
  exact (SmA.cons a (SmA.cons b (SmA.nil (b := 0)))).list.up (Nat.le_refl _) (by omega)
theorem all_rev {α : Type} {R : Addr → α → Prop} {ps : List Addr} {xs : List α} (h : AllAt R ps xs) : AllAt R ps.reverse xs.reverse := by
  refine ⟨by rw [List.length_reverse, List.length_reverse]; exact h.1, fun i p x e1 e2 => ?_⟩
  have l1 : i < ps.length := by have := (List.getElem?_eq_some_iff.mp e1).1; rw [List.length_reverse] at this; exact this
  rw [List.getElem?_reverse l1] at e1
  rw [List.getElem?_reverse (by rw [← h.1]; exact l1), ← h.1] at e2
  exact h.2 _ _ _ e1 e2
theorem neg_neg (zs : List (Br × Int)) : (zs.reverse.map negZ).reverse.map negZ = zs := by
  rw [← List.map_reverse, List.reverse_reverse, List.map_map]
  have e : negZ ∘ negZ = id := by
    funext z
    show (z.1, - -z.2) = z
    rw [Int.neg_neg]
  rw [e, List.map_id]
def spRight (C : Addr) : Sp := fun vs H Q _ => ∃ (gs : List Str) (bs : List Br) (st : List Int) (ds ss : List Addr) (zs : List (Br × Int)) (r : List Int) (x a ml sl : Addr), vs = [.ref x, .ref a, .ref ml, .ref sl] ∧ RtAt C H gs bs st ds ss zs r x a ml sl ∧ ∀ H', Same H H' → Q (.bl true) H'
theorem dqAll_deeds {H : Hp} : ∀ {ds : List Addr} {zs : List (Br × Int)}, AllAt (DeedAt H) ds (zs.map ddP) → DqAll H (ds.map V.ref) (zs.map dZ)
  | [], [], _ => .nil
  | [], z :: zs, h => by have := h.1; simp at this
  | d :: ds, [], h => by have := h.1; simp at this
  | d :: ds, z :: zs, h => by
    have h0 : DeedAt H d (ddP z) := h.2 0 d (ddP z) rfl rfl
    have ht : AllAt (DeedAt H) ds (zs.map ddP) := ⟨by have := h.1; simpa using this, fun i p x a b => h.2 (i + 1) p x a b⟩
    exact .cons (.tup h0 (.cons (.str _) (.cons (.int _) .nil))) (dqAll_deeds ht)
section
variable {P : Program} {w : World} {K : PySem.W.Frag} {mg : Str → Option Value} {base : Heap}
theorem ok_right (T : Tx K mg) : FnG P w K mg base 8 T.a_law_right T.fd_law_right ["_law_book_here", "_law_stock_here", "_law_script_here", "_law_stocks"] (spRight T.C_Book) := by
  refine FnG.of T.F_law_right sc_law_right (fun vs H Q E h => ?_) (fun cdv A outer st H vs Q E hg hr h => ?_)
  · obtain ⟨gs, bs, stk, ds, ss, zs, r, x, a, ml, sl, rfl, _⟩ := h
    rfl
  obtain ⟨gs, bs, stk, ds, ss, zs, r, x, a, ml, sl, rfl, R, k⟩ := h
  have G_stocks_along : FnOk P w K mg base (L2.CX P w) 6 T.a_stocks_along T.fd_stocks_along ["book", "stock", "script"] (spAlongD T.C_Book T.e_BadDeed.C) := ok_alongD T
  have hr_stocks_along : Room 6 _ := hr.mono (by omega)
  have G_script_back : FnOk P w K mg base (L2.CX P w) 7 T.a_script_back T.fd_script_back ["book", "stock", "script"] (spBackS T.C_Book T.e_BadDeed.C) := ok_backS T
  have hr_script_back : Room 7 _ := hr.mono (by omega)
  have G_walked : FnOk P w K mg base (L2.CX P w) 7 T.a_walked T.fd_walked ["book", "stock", "script"] (spWalked T.C_Book T.e_BadDeed.C) := ok_walked T
  have hr_walked : Room 7 _ := hr.mono (by omega)
  have G_first_bad : FnOk P w K mg base CX0 6 T.a_first_bad T.fd_first_bad ["book", "stock", "value"] (spFirst K T.C_Book) := ok_first T
  have hr_first_bad : Room 6 _ := hr.mono (by omega)
  refine ⟨_, ((pss_cons (ps_setLc (i := 4) (own := [("_law_name", 10), ("_law_way", 11)]) (by rfl) sc_law_right.nd rfl rfl (sw_true rfl rfl rfl (by decide +kernel)) (pi_list (pe_revL (pv 2))) (blkOk_by (own := [("_law_name", 10), ("_law_way", 11)]) (N := ["_law_book_here", "_law_stock_here", "_law_script_here", "_law_stocks", "_law_due", "_law_given", "_law_lap", "_law_told", "_law_some", "_law_last", "_law_name", "_law_way"]) (sc := defScope s_law_right) (by decide +kernel)) (fun _ _ _ _ _ => show PG _ _ (gTup K 2 (gCons (gName 10) (gCons (gName 11) gNil))) from (pg_tup rfl (pgs_cons (pg_name (i := 10) sc_law_right.nd rfl (Or.inl rfl)) (pgs_cons (pg_name (i := 11) sc_law_right.nd rfl (Or.inl rfl)) pgs_nil)))) (fun _ _ _ _ _ => pts_nil) (fun _ _ _ _ _ => (pe_tup (pa_cons (pv 10) (pa_cons (pe_op op_sub pe_int (pv 11)) pa_nil)))))
      (pss_cons (ps_for PassesOwn.never rfl (pi_list (pe_lst (pa_cons (pe_callTy call_list_of (by rfl) T.n_list (by decide +kernel) (pa_cons (pv 2) pa_nil)) (pa_cons (pe_callTy call_tuple_of (by rfl) T.n_tuple (by decide +kernel) (pa_cons (pv 2) pa_nil)) pa_nil)))) (pg_name (i := 5) sc_law_right.nd rfl (Or.inl rfl))
        (pss_cons (ps_for PassesOwn.never rfl (pi_range1 rfl T.n_range (pa_cons pe_int pa_nil)) (pg_name (i := 6) sc_law_right.nd rfl (Or.inl rfl))
        (pss_cons (ps_set (i := 7) sc_law_right.nd rfl (Or.inl rfl) (pe_lst (pa_cons (pe_call G_stocks_along hr_stocks_along rfl T.m_stocks_along T.F_stocks_along.kp T.b_stocks_along .nil passN (pa_cons (pv 0) (pa_cons (pv 1) (pa_cons (pv 5) pa_nil)))) (pa_cons (pe_call G_script_back hr_script_back rfl T.m_script_back T.F_script_back.kp T.b_script_back .nil passN (pa_cons (pv 0) (pa_cons (pv 1) (pa_cons (pv 5) pa_nil)))) pa_nil))))
      (pss_cons (ps_if (pt_cmpR op_ne (pe_callB (call_repr_D hg hr.units) (by rfl) T.n_repr (by decide +kernel) (pa_cons (pv 7) pa_nil)) (pe_callB (call_repr_D hg hr.units) (by rfl) T.n_repr (by decide +kernel) (pa_cons (pe_lst (pa_cons (pv 3) (pa_cons (pv 4) pa_nil))) pa_nil)) (nomark _))
        (pss_one (ps_ret pe_bl))
        pss_nil)
      (pss_one (ps_for PassesOwn.never rfl (pi_list (pv 7)) (pg_name (i := 8) sc_law_right.nd rfl (Or.inl rfl))
        (pss_one (ps_expr (pe_bm PySem.F.plainAttrs_list PySem.F.slot_list_append PySem.F.type_list_append mt_append (pv 8) (pa_cons pe_non pa_nil)))))))))
      (pss_cons (ps_if (PW.pt (pw_or (pt_cmpR (op_neD hr.units) (pe_call G_walked hr_walked rfl T.m_walked T.F_walked.kp T.b_walked .nil passN (pa_cons (pv 0) (pa_cons (pv 1) (pa_cons (pv 5) pa_nil)))) (pe_ix (show IxR _ (rIxL K) from ix_list) (pv 3) (pe_un un_neg pe_int) (fun _ _ => rfl)) (nomark _)) (pw_or1 (pt_cmpR (op_neD hr.units) (pe_callTy call_list_of (by rfl) T.n_list (by decide +kernel) (pa_cons (pv 5) pa_nil)) (pv 2) (nomark _)))))
        (pss_one (ps_ret pe_bl))
        pss_nil)
      (pss_one (ps_if (pt_cmpR op_notN (pe_call G_first_bad hr_first_bad rfl T.m_first_bad T.F_first_bad.kp T.b_first_bad .nil pass0 (pa_cons (pv 0) (pa_cons (pv 1) (pa_cons (pv 5) pa_nil)))) pe_non (nomark _))
        (pss_one (ps_ret pe_bl))
        pss_nil)))))
      (pss_cons (ps_set (i := 9) sc_law_right.nd rfl (Or.inl rfl) (pe_ix (show IxR _ (rIxL K) from ix_list) (pv 3) (pe_un un_neg pe_int) (fun _ _ => rfl)))
      (pss_cons (ps_if (PW.pt (pw_or (pt_cmpR (op_neD hr.units) (pe_call G_stocks_along hr_stocks_along rfl T.m_stocks_along T.F_stocks_along.kp T.b_stocks_along .nil passN (pa_cons (pv 0) (pa_cons (pv 9) (pa_cons (pv 4) pa_nil)))) (pe_revL (pv 3)) (nomark _)) (pw_or1 (pt_cmpR (op_neD hr.units) (pe_call G_walked hr_walked rfl T.m_walked T.F_walked.kp T.b_walked .nil passN (pa_cons (pv 0) (pa_cons (pv 9) (pa_cons (pe_callTy call_tuple_of (by rfl) T.n_tuple (by decide +kernel) (pa_cons (pv 4) pa_nil)) pa_nil)))) (pv 1) (nomark _)))))
        (pss_one (ps_ret pe_bl))
        pss_nil)
      (pss_one (ps_ret (pe_cmpR op_eq (pe_callB (call_repr_D hg hr.units) (by rfl) T.n_repr (by decide +kernel) (pa_cons (pe_call G_script_back hr_script_back rfl T.m_script_back T.F_script_back.kp T.b_script_back .nil passN (pa_cons (pv 0) (pa_cons (pv 9) (pa_cons (pv 4) pa_nil)))) pa_nil)) (pe_callB (call_repr_D hg hr.units) (by rfl) T.n_repr (by decide +kernel) (pa_cons (pv 2) pa_nil)) (nomark _))))))))), ?_⟩
  obtain ⟨hB, nd, wd, ha, sl100, bw, sm, sb, hm, hs, aD, ib, lz, hw, aS⟩ := R
  have lds : ds.length = zs.length := by rw [aD.1, List.length_map]
  refine ⟨_, rfl, ml, _, rfl, SqL.of hm, fun pr hpr => ?_⟩
  rw [← List.map_reverse]
  have sr := same_new hpr (.lst (ds.reverse.map V.ref))
  have er := upd_same (H := H) (a := pr) (o := .lst (ds.reverse.map V.ref))
  generalize L2.upd H pr (.lst (ds.reverse.map V.ref)) = H1 at sr er ⊢
  refine ⟨pr, rfl, ⟨_, SqL.of er⟩, fun D hD => ?_⟩
  refine lc_list (xs := ds.reverse.map V.ref) (fun j M => ∃ es : List Addr, Same H1 M ∧ M D = some (.lst (es.map V.ref)) ∧ AllAt (DeedAt M) es (((zs.reverse.take j).map negZ).map ddP)) ⟨[], same_new hD _, upd_same, AllAt.nil⟩ (fun j M _ ⟨_, z, _⟩ => SqL.of (z _ _ er)) (fun j y M hy z => ?_) (fun M z => ?_)
  · obtain ⟨es, sM, eM, aM⟩ := z
    obtain ⟨d, hd, rfl⟩ := getM hy
    have jl : j < ds.length := by have := (List.getElem?_eq_some_iff.mp hd).1; rw [List.length_reverse] at this; exact this
    rw [List.getElem?_reverse jl] at hd
    obtain ⟨q, hq, dq⟩ := aD.get hd
    obtain ⟨zz, hz, rfl⟩ : ∃ zz, zs[ds.length - 1 - j]? = some zz ∧ q = ddP zz := by
      rw [List.getElem?_map] at hq
      cases e : zs[ds.length - 1 - j]? with
      | none => rw [e] at hq; cases hq
      | some u => rw [e] at hq; exact ⟨u, rfl, (Option.some.inj hq).symm⟩
    have hz' : zs.reverse[j]? = some zz := by rw [List.getElem?_reverse (by omega), ← lds]; exact hz
    have les : es.length ≤ zs.length := by rw [aM.1, List.length_map, List.length_map, List.length_take, List.length_reverse]; omega
    refine ⟨d, _, rfl, SqT.of (sM _ _ (sr _ _ dq)), rfl, _, _, rfl, _, _, rfl, rfl, rfl, _, rfl, _, rfl, _, _, rfl, rfl, (by show 2 ≤ sizeLine; decide), fun p hp => ?_⟩
    have sp := same_new hp (.tup [.str (ddP zz).1, .int (0 - (ddP zz).2)])
    have kD := KT.upd (o := .lst (es.map V.ref ++ [.ref p])) (sp _ _ eM)
    refine ⟨_, sp _ _ eM, by rw [List.length_map]; exact small1000 (by omega), es ++ [p], same_put hD (sM.trans sp), by rw [upd_same, List.map_append]; rfl, ?_⟩
    rw [← take_snoc hz', List.map_append, List.map_append]
    refine (aM.imp fun p x h => kD _ _ (sp _ _ h) : AllAt (DeedAt _) es _).snoc (p := p) (x := ddP (negZ zz)) (kD _ _ ?_)
    rw [upd_same, Int.zero_sub]
    rfl
  obtain ⟨es, sM, eM, aM⟩ := z
  rw [List.length_map, List.length_reverse, lds, ← List.length_reverse, List.take_length] at aM
  have hmM := sM _ _ (sr _ _ hm)
  refine ⟨_, rfl, ml, _, rfl, .inl (SqL.of hmM), fun p1 h1 => ⟨_, rfl, ml, _, rfl, .inl ⟨SqL.of (same_new h1 _ _ _ hmM), fun p2 h2 => ⟨(by show 2 ≤ sizeLine; decide), fun L hL => ?_⟩⟩⟩⟩
  have t1 := same_new h1 (.lst (ds.map V.ref))
  have t2 := same_new h2 (.tup (ds.map V.ref))
  have tL := same_new hL (.lst [.ref p1, .ref p2])
  have sA := sr.trans (sM.trans (t1.trans (t2.trans tL)))
  have eL := upd_same (H := L2.upd (L2.upd M p1 (.lst (ds.map V.ref))) p2 (.tup (ds.map V.ref))) (a := L) (o := .lst [.ref p1, .ref p2])
  have e1 := tL _ _ (t2 _ _ (upd_same (H := M) (a := p1) (o := .lst (ds.map V.ref))))
  have e2 := tL _ _ (upd_same (H := L2.upd M p1 (.lst (ds.map V.ref))) (a := p2) (o := .tup (ds.map V.ref)))
  have eD := (t1.trans (t2.trans tL)) _ _ eM
  have aE : AllAt (DeedAt _) es ((zs.reverse.map negZ).map ddP) := aM.imp fun p q h => (t1.trans (t2.trans tL)) _ _ h
  generalize L2.upd (L2.upd (L2.upd M p1 (.lst (ds.map V.ref))) p2 (.tup (ds.map V.ref))) L (.lst [.ref p1, .ref p2]) = H2 at sA eL e1 e2 eD aE ⊢
  have scr : ∀ {N : Hp} {g : Addr}, Same H2 N → EitherA H2 g (ds.map V.ref) → ScrAt T.C_Book N [.ref x, .ref a, .ref g] gs bs stk (zs.map dZ) x a g (ds.map V.ref) := fun {N g} sN eg => by
    have sH := sA.trans sN
    exact ⟨rfl, hB.same sH, nd, sH _ _ ha, sl100, bw, eg.same sN, dqAll_deeds (aD.imp fun p q h => sH _ _ h), by rw [List.length_map]; omega⟩
  have lal := (way_len hw).1
  rw [List.length_map] at lal
  have bk := back_zs zs
  have bnd := along_bd nd sm ib sb
  have hw40 : ∀ r ∈ alongD bs stk (zs.map dZ), r.length ≤ 100 ∧ ∀ z ∈ r, 0 ≤ z ∧ z < 10 ^ 40 := fun r hr => ⟨by rw [(bnd r hr).1]; exact sl100, fun z hz => ⟨((bnd r hr).2 z hz).1, by
    have q := ((bnd r hr).2 z hz).2
    have c : (10 : Int) ^ 39 + 4 * 60 ≤ 10 ^ 40 := by decide +kernel
    generalize (10 : Int) ^ 39 = t at q c
    generalize (10 : Int) ^ 40 = u at c ⊢
    omega⟩⟩
  have nib := neg_in ib
  have hq : ∀ q ∈ (zs.reverse.map negZ).map ddP, wordD (.str q.1) = true ∧ (q.2 = 1 ∨ q.2 = -1) := fun q hq => by
    obtain ⟨z, hz, rfl⟩ := List.mem_map.mp hq
    have y := nib z hz
    exact ⟨wd _ y.1, y.2.1⟩
  have tsm := told_sm hw40 (by omega) hq (by rw [List.length_map, List.length_map, List.length_reverse]; omega)
  have lD : SeqAt.shaped (.list (zs.map dZ)) = true := (lay_list (k := 1) (f := dZ) fun q hq => lay_dd (wd _ (ib q hq).1)).shaped (by decide)
  have dpD : ∀ {N : Hp} {p : Addr}, Same H N → N p = some (.lst (ds.map V.ref)) → Dp K N (.ref p) (.list (zs.map dZ)) := fun {N p} sN e => .lst (SqL.of e) (by
    have q := dpAll_of (K := K) (R := DeedAt N) (f := dD) (fun p q h => dp_deed h) (aD.imp fun p q h => sN _ _ h)
    rw [List.map_map] at q
    exact q)
  obtain ⟨qs, q0, eqs, hq0⟩ := all_last aS (way_len hw).2
  refine ⟨L, rfl, ⟨_, SqL.of eL⟩, for_list (K := K) (a := L) (xs := [.ref p1, .ref p2]) (fun j σ N => ∃ v5 v6 v7 v8 : Option V, σ = [some (.ref x), some (.ref a), some (.ref ml), some (.ref sl), some (.ref D), v5, v6, v7, v8, none, none, none] ∧ Same H2 N)
    ⟨none, none, none, none, rfl, fun _ _ e => e⟩ (fun j σ N _ ⟨_, _, _, _, _, z⟩ => SqL.of (z _ _ eL)) (fun j y σ N hy z => ?_) (fun σ N z => ?_)⟩
  · obtain ⟨v5, v6, v7, v8, rfl, sN⟩ := z
    obtain ⟨g, rfl, eg⟩ : ∃ g, y = .ref g ∧ EitherA H2 g (ds.map V.ref) := by
      match j, hy with
      | 0, hy => cases hy; exact ⟨p1, rfl, .inl e1⟩
      | 1, hy => cases hy; exact ⟨p2, rfl, .inr e2⟩
    refine ⟨_, rfl, by decide, by decide, ?_⟩
    refine for_range (lo := 0) (n := 2) (fun j σ N => ∃ v6 v7 v8 : Option V, σ = [some (.ref x), some (.ref a), some (.ref ml), some (.ref sl), some (.ref D), some (.ref g), v6, v7, v8, none, none, none] ∧ Same H2 N) ⟨v6, v7, v8, rfl, sN⟩ (fun j σ N hj z => ?_) (fun σ N z => ?_)
    · obtain ⟨v6, v7, v8, rfl, sN⟩ := z
      refine ⟨_, rfl, _, rfl, _, rfl, gs, bs, stk, _, x, a, g, _, scr sN eg, fun r1 q1 D1 ss1 N1 n1 hD1 eD1 aS1 => ?_, fun q => by rw [hw] at q; cases q⟩
      refine ⟨_, rfl, _, rfl, _, rfl, gs, bs, stk, _, x, a, g, _, scr (sN.trans n1) eg, fun r2 q2 D2 es2 N2 n2 hD2 eD2 aD2 => ?_, fun q => by rw [hw] at q; cases q⟩
      refine ⟨(by show 2 ≤ sizeLine; decide), fun Lt hLt => ?_⟩
      have tt := same_new hLt (.lst [.ref D1, .ref D2])
      have eLt := upd_same (H := N2) (a := Lt) (o := .lst [.ref D1, .ref D2])
      have eD1' := tt _ _ (n2 _ _ eD1)
      have eD2' := tt _ _ eD2
      have aS1' : AllAt (StkAt (L2.upd N2 Lt (.lst [.ref D1, .ref D2]))) ss1 _ := aS1.imp fun p q h => tt _ _ (n2 _ _ h)
      have aD2' : AllAt (DeedAt (L2.upd N2 Lt (.lst [.ref D1, .ref D2]))) es2 _ := aD2.imp fun p q h => tt _ _ h
      have sT := sN.trans (n1.trans (n2.trans tt))
      have f1 : H2 D1 = none := sN.free hD1
      have f2 : H2 D2 = none := (sN.trans n1).free hD2
      rw [bk] at aD2'
      generalize L2.upd N2 Lt (.lst [.ref D1, .ref D2]) = N3 at tt eLt eD1' eD2' aS1' aD2' sT ⊢
      have sH3 := sA.trans sT
      refine ⟨_, rfl, Lt, _, rfl, .lst (SqL.of eLt) (.cons (.lst (SqL.of eD1') (dpAll_of (R := StkAt _) (f := stkD) (fun p q h => dp_tup h) aS1')) (.cons (.lst (SqL.of eD2') (dpAll_of (R := DeedAt _) (f := dD) (fun p q h => dp_deed h) aD2')) .nil)), tsm.sh, Nat.le_trans tsm.dp (by decide), tsm.fits (by decide), ?_⟩
      refine ⟨_, rfl, _, rfl, (by show 2 ≤ sizeLine; decide), fun p5 h5 => ?_⟩
      have t5 := same_new h5 (.lst [.ref sl, .ref D])
      refine ⟨p5, _, rfl, .lst (SqL.of upd_same) (.cons (.lst (SqL.of (t5 _ _ (sH3 _ _ hs))) (dpAll_of (R := StkAt _) (f := stkD) (fun p q h => dp_tup h) (aS.imp fun p q h => t5 _ _ (sH3 _ _ h)))) (.cons (.lst (SqL.of (t5 _ _ (sT _ _ eD))) (dpAll_of (R := DeedAt _) (f := dD) (fun p q h => dp_deed h) (aE.imp fun p q h => t5 _ _ (sT _ _ h)))) .nil)), tsm.sh, Nat.le_trans tsm.dp (by decide), tsm.fits (by decide), ?_⟩
      refine ⟨rfl, _, rfl, ?_⟩
      rw [decide_eq_true rfl]
      refine iteF ?_
      have sT5 := sT.trans t5
      have eL5 := t5 _ _ eLt
      have eD15 := t5 _ _ eD1'
      have eD25 := t5 _ _ eD2'
      have l1 : ss1.length ≤ 61 := by have := aS1.1; omega
      have l2 : es2.length ≤ 61 := by have := aD2.1; rw [bk, List.length_map, List.length_map, List.length_reverse] at this; omega
      have n12 : D1 ≠ D2 := fun z => by
        rw [z] at eD1
        rw [eD1] at hD2
        cases hD2
      have nt : Lt ≠ D1 ∧ Lt ≠ D2 := ⟨(fun z => by rw [z, n2 _ _ eD1] at hLt; cases hLt), (fun z => by rw [z, eD2] at hLt; cases hLt)⟩
      generalize L2.upd N3 p5 (.lst [.ref sl, .ref D]) = N5 at sT5 eL5 eD15 eD25 ⊢
      refine ⟨_, rfl, Lt, rfl, ⟨_, SqL.of eL5⟩, for_list (K := K) (a := Lt) (xs := [.ref D1, .ref D2]) (fun i σ M => ∃ (v8 : Option V) (ys zs : List V), σ = [some (.ref x), some (.ref a), some (.ref ml), some (.ref sl), some (.ref D), some (.ref g), some (.int (0 + (j : Nat))), some (.ref Lt), v8, none, none, none] ∧ Same H2 M ∧ M Lt = some (.lst [.ref D1, .ref D2]) ∧ M D1 = some (.lst ys) ∧ M D2 = some (.lst zs) ∧ ys.length ≤ 61 + i ∧ zs.length ≤ 61 + i)
        ⟨v8, _, _, rfl, sT5, eL5, eD15, eD25, by rw [List.length_map]; exact l1, by rw [List.length_map]; exact l2⟩ (fun i σ M _ ⟨_, _, _, _, _, z, _⟩ => SqL.of z) (fun i y σ M hy z => ?_) (fun σ M z => ?_)⟩
      · obtain ⟨v8, ys, zs', rfl, sM, eM, e1', e2', ly, lz'⟩ := z
        match i, hy with
        | 0, hy =>
          cases hy
          refine ⟨_, rfl, .inl ⟨rfl, _, SqL.of e1'⟩, D1, _, _, rfl, rfl, e1', small1000 (by omega), ?_⟩
          exact ⟨_, ys ++ [.non], zs', rfl, same_put f1 sM, by rw [upd_ne nt.1]; exact eM, upd_same, by rw [upd_ne (Ne.symm n12)]; exact e2', by rw [List.length_append, List.length_singleton]; omega, by omega⟩
        | 1, hy =>
          cases hy
          refine ⟨_, rfl, .inl ⟨rfl, _, SqL.of e2'⟩, D2, _, _, rfl, rfl, e2', small1000 (by omega), ?_⟩
          exact ⟨_, ys, zs' ++ [.non], rfl, same_put f2 sM, by rw [upd_ne nt.2]; exact eM, by rw [upd_ne n12]; exact e1', upd_same, by omega, by rw [List.length_append, List.length_singleton]; omega⟩
      · obtain ⟨v8, ys, zs', rfl, sM, _⟩ := z
        exact ⟨_, _, _, rfl, sM⟩
    · obtain ⟨v6, v7, v8, rfl, sN⟩ := z
      refine ⟨_, rfl, _, rfl, _, rfl, gs, bs, stk, _, x, a, g, _, scr sN eg, fun r1 q1 p N1 n1 ep => ?_, fun q => by rw [hw] at q; cases q⟩
      obtain rfl : r = r1 := by rw [hw] at q1; exact Option.some.inj q1
      have sN1 := sN.trans n1
      have sH1 := sA.trans sN1
      refine ⟨_, rfl, 1, rfl, sl, _, _, _, rfl, rfl, SqL.of (sH1 _ _ hs), (by rw [eqs, List.map_append]; exact at_end _ _), _, _, dp_tup ep, dp_tup (sH1 _ _ hq0), lay_tup r, lay_tup r, _, rfl, ?_⟩
      rw [eqv_same (lay_tup r)]
      refine iteF ?_
      refine ⟨_, rfl, g, _, rfl, (eg.same sN1).imp (fun h => SqL.of h) (fun h => SqT.of h), fun p6 h6 => ?_⟩
      have t6 := same_new h6 (.lst (ds.map V.ref))
      refine ⟨_, rfl, _, _, dpD (sH1.trans t6) upd_same, dpD (sH1.trans t6) (t6 _ _ (sH1 _ _ hm)), lD, lD, _, rfl, ?_⟩
      rw [eqv_same lD]
      refine iteF ?_
      refine ⟨_, rfl, _, rfl, _, rfl, .inl ⟨gs, bs, stk, _, x, a, g, _, scr (sN1.trans t6) eg, fun r2 q2 M2 s2 => ?_, fun q => by rw [hw] at q; cases q⟩⟩
      refine ⟨rfl, _, rfl, iteF ?_⟩
      exact ⟨_, _, _, _, rfl, (sN1.trans t6).trans s2⟩
  · obtain ⟨v5, v6, v7, v8, rfl, sN⟩ := z
    have enS : enoughB stk = true := enough_posB fun z hz => (sb z hz).1
    obtain ⟨wr, ar⟩ := way_rev nd ib enS hw
    have lr : r.length = stk.length := way_rows bw hw
    have sH := sA.trans sN
    have lzr : (zs.reverse.map negZ).length = zs.length := by rw [List.length_map, List.length_reverse]
    have scr2 : ∀ {N' : Hp} {m : Addr}, Same N N' → EitherA N' m (es.map V.ref) → ScrAt T.C_Book N' [.ref x, .ref q0, .ref m] gs bs r ((zs.reverse.map negZ).map dZ) x q0 m (es.map V.ref) := fun {N' m} n em => by
      have sH' := sH.trans n
      have s2' := sN.trans n
      exact ⟨rfl, hB.same sH', nd, sH' _ _ hq0, by omega, fun b hb => by rw [lr]; exact bw b hb, em, dqAll_deeds (aE.imp fun p q h => s2' _ _ h), by rw [List.length_map]; omega⟩
    have lS : SeqAt.shaped (.list ((alongD bs stk (zs.map dZ)).reverse.map stkD)) = true := (lay_list (k := 1) (f := stkD) fun q _ => (lay_ints q).tuple).shaped (by decide)
    refine ⟨_, rfl, 1, rfl, sl, _, _, _, rfl, rfl, SqL.of (sH _ _ hs), (by rw [eqs, List.map_append]; exact at_end _ _), ?_⟩
    refine ⟨_, rfl, _, rfl, _, rfl, gs, bs, r, _, x, q0, D, _, scr2 (fun _ _ e => e) (.inl (sN _ _ eD)), fun r1 e1' D1 ss1 N1 n1 hD1 eD1 aS1 => ?_, fun q => by rw [wr] at q; cases q⟩
    rw [ar] at aS1
    have sH1 := sH.trans n1
    refine ⟨_, rfl, sl, _, rfl, SqL.of (sH1 _ _ hs), fun p3 h3 => ?_⟩
    rw [← List.map_reverse]
    have t3 := same_new h3 (.lst (ss.reverse.map V.ref))
    have aR : AllAt (StkAt _) ss.reverse (alongD bs stk (zs.map dZ)).reverse := (all_rev aS).imp fun p q h => (sH1.trans t3) _ _ h
    refine ⟨_, _, .lst (SqL.of (t3 _ _ eD1)) (dpAll_of (R := StkAt _) (f := stkD) (fun p q h => dp_tup h) (aS1.imp fun p q h => t3 _ _ h)), .lst (SqL.of upd_same) (dpAll_of (R := StkAt _) (f := stkD) (fun p q h => dp_tup h) aR), lS, lS, _, rfl, ?_⟩
    rw [eqv_same lS]
    refine iteF ?_
    have n3 := n1.trans t3
    have eD3 := n3 _ _ (sN _ _ eD)
    refine ⟨_, rfl, _, rfl, _, rfl, D, _, rfl, .inl ⟨SqL.of eD3, fun p7 h7 => ?_⟩⟩
    have t7 := same_new h7 (.tup (es.map V.ref))
    have n7 := n3.trans t7
    refine ⟨gs, bs, r, _, x, q0, p7, _, scr2 n7 (.inr upd_same), fun r2 e2' p N2 n2 ep => ?_, fun q => by rw [wr] at q; cases q⟩
    obtain rfl : stk = r2 := by rw [wr] at e2'; exact Option.some.inj e2'
    have n8 := n7.trans n2
    have sH8 := sH.trans n8
    refine ⟨_, rfl, _, _, dp_tup ep, dp_tup (sH8 _ _ ha), lay_tup stk, lay_tup stk, _, rfl, ?_⟩
    rw [eqv_same (lay_tup stk)]
    refine iteF ?_
    refine ⟨_, rfl, _, rfl, _, rfl, gs, bs, r, _, x, q0, D, _, scr2 n8 (.inl (n8 _ _ (sN _ _ eD))), fun r3 e3' D3 es3 N3 n3' hD3 eD3' aD3 => ?_, fun q => by rw [wr] at q; cases q⟩
    rw [back_zs, neg_neg] at aD3
    have hq2 : ∀ q ∈ zs.map ddP, wordD (.str q.1) = true ∧ (q.2 = 1 ∨ q.2 = -1) := fun q hq => by
      obtain ⟨z, hz, rfl⟩ := List.mem_map.mp hq
      have y := ib z hz
      exact ⟨wd _ y.1, y.2.1⟩
    have sm2 : Sm 2 (61 * (zs.map ddP).length) (.list ((zs.map ddP).map dD)) := (sm_dues hq2).list
    have fz : 61 * (zs.map ddP).length ≤ 300000 := by rw [List.length_map]; omega
    have sH9 := sH8.trans n3'
    refine ⟨D3, _, rfl, .lst (SqL.of eD3') (dpAll_of (R := DeedAt _) (f := dD) (fun p q h => dp_deed h) aD3), sm2.sh, Nat.le_trans sm2.dp (by decide), sm2.fits fz, ?_⟩
    refine ⟨_, rfl, ml, _, rfl, .lst (SqL.of (sH9 _ _ hm)) (dpAll_of (R := DeedAt _) (f := dD) (fun p q h => dp_deed h) (aD.imp fun p q h => sH9 _ _ h)), sm2.sh, Nat.le_trans sm2.dp (by decide), sm2.fits fz, ?_⟩
    refine ⟨rfl, ?_⟩
    rw [decide_eq_true rfl]
    exact k N3 sH9
end
end My

namespace My
open PySem PySem.Spec PyProof.Rows L2 LamX
/-! ### calls that are refused with a number -/
theorem takes_len {X : Cx} {W : WX} (t : Takes X W) : Takes X (fun cls d σ H => σ.length = X.N.length → W cls d σ H) := fun u s' z => by
  obtain ⟨a, B, sI, pins, σ, H, cls, d, e, I, nb, up, sky, na, os, ag, w⟩ := z
  exact t u s' ⟨a, B, sI, pins, σ, H, cls, d, e, I, nb, up, sky, na, os, ag, w I.len⟩
/-- the number with which a call is refused, in a list, or none -/
def TNum (C : Addr) : (XK → Hp → VK → Prop) → Hp → VK → Prop := fun tl H Q =>
  tl (fun cls d H' => ∃ (dx : Addr) (v : V), cls = .ref C ∧ d = some dx ∧ H' dx = some (.xd [("number", v)]) ∧ ∀ p1, H' p1 = none → sysModules < p1 → Q (.ref p1) (L2.upd H' p1 (.lst [v]))) H (fun _ H' => ∀ p1, H' p1 = none → sysModules < p1 → Q (.ref p1) (L2.upd H' p1 (.lst [])))
section
variable {X : Cx}
theorem number_gives (T : Tx X.K X.mg) {g : Addr} {cdg : Value} {q : Str} : GivesTo X ["_law_call", "error"] "_law_number" (defScope s_law_number) g cdg (defBody s_law_number) "_law_call" q (TNum T.e_BadDeed.C) := by
  intro f c' s H Q tl act hc h
  refine ⟨_, pss_cons (ps_try_as (i := 1)
      (tb := fun W D σ H => ∃ Ech : XK, (∀ cls d σ' H', Ech cls d H' → σ'.length = 2 → W cls d σ' H') ∧ σ[0]? = some (some (.ref f)) ∧ H c' = some (CodeO c' q) ∧ tl Ech H (fun _ H' => D.nx σ H'))
      (ts := fun a cls d => tRet (tLstN (tCons (tXf a cls d T.e_BadDeed.C "number" (tVar 1)) tNil))) (Wout := fun _ _ _ _ => False)
      rfl rfl sc_law_number.nd rfl rfl ⟨rfl, by decide, Or.inl T.e_BadDeed.m⟩ L2.takes0 (fun W pn xe tk _ => ?_)
      (fun a oe cls d pn hz hf => pss_one (ps_ret (pe_lstN (pa_cons (pe_xf T.e_BadDeed.xf T.e_BadDeed.noF hz hf (pv 1)) pa_nil))))) (pss_one (ps_ret (pe_lstN pa_nil))), ?_⟩
  · refine ⟨fun pins s' σ H' D I h' => ?_⟩
    obtain ⟨Ech, hW, h1, h2, h3⟩ := h'
    exact (pss_one (ps_expr (act (fun cls d σ' H' => σ'.length = 2 → W cls d σ' H') pn xe Ech _ _ (takes_len tk) (fun cls d σ' H' e l => hW cls d σ' H' e l)))).run pins s' σ H' D I ⟨h1, h2, h3⟩
  · have hh := h
    have eQ : (fun (_ : V) (H' : Hp) => ∀ p1, H' p1 = none → sysModules < p1 → Q (.ref p1) (L2.upd H' p1 (.lst []))) = fun (_ : V) (H' : Hp) => (0 ≤ sizeLine ∧ ∀ p1, H' p1 = none → sysModules < p1 → Q (.ref p1) (L2.upd H' p1 (.lst []))) := by
      funext _ H'
      exact propext ⟨fun z => ⟨Nat.zero_le _, z⟩, fun z => z.2⟩
    unfold TNum at hh
    rw [eQ] at hh
    refine ⟨_, fun cls d σ' H' e l => ?_, rfl, hc, hh⟩
    obtain ⟨dx, v, rfl, rfl, ex, k⟩ := e
    obtain ⟨x0, x1, rfl⟩ : ∃ x0 x1, σ' = [x0, x1] := match σ', l with
      | [x0, x1], _ => ⟨x0, x1, rfl⟩
    refine ⟨true, T.e_BadDeed.te, fun _ a ha => ?_, fun z => Bool.noConfusion z⟩
    exact ⟨_, rfl, rfl, rfl, dx, _, _, rfl, ex, by simp [List.lookup], (by show 1 ≤ sizeLine; decide), fun p1 h1 b1 => k p1 h1 b1⟩
theorem pe_ref35 {c P : Addr} {k : Nat} {params : Arguments} {body : Expr} {scope : Scope} {t : XK → TE} {p lpos pos : Pos} (T : Tx X.K X.mg) (hg : Gl X "_law_number") (TB : TabB X.base X.mg c P) (hcode : X.env.code = .ref c) (hr : Room (k + 2) X.A) (L : LamS X.env.scope scope) (hdef : defaultsOf params X.env = ([], []))
    (hbind : ∀ (q : Str) (cl : List (Str × Addr)) (pm cv ctv : Value), bindArgs (PySem.W.kla_fn "<lambda>" q params body scope cl pm cv ctv) ⟨[], []⟩ = pure [])
    (hbody : ∀ (A : Around) (outer : List Env) (s : Shared) (H : Hp) (E : XK) (f c' : Addr), Room k (A.deeper (lamEnv X scope s.heap.objs.size f c')) → PE (lamCx X A outer s H E scope f c') body (t E)) :
    PE X (.Call (.Name "_law_number" p) [.Lambda params body scope lpos] [] pos) (tLam [(P, X.env.qual ++ "<lambda>")] (TNum T.e_BadDeed.C) t) := by
  obtain ⟨oc, od, kV, doc, pm, an, cdv, ct, osl, efd, lk, hcd⟩ := T.F_law_number.ex
  have hb := T.b_law_number
  rw [efd] at lk hb
  exact pe_lamcall hg T.m_law_number T.F_law_number.kp lk hcd hb sc_law_number rfl (.inl rfl) (number_gives T) TB hcode (List.mem_singleton.mpr rfl) (fun q hq _ => by rw [List.mem_singleton.mp hq]) hr L hdef hbind hbody
end
/-! ### what stays behind a call with a lambda -/
mutual
theorem Dq.ext {H H' : Hp} (e : ExtN H H') : ∀ {v : V} {d : PyData}, Dq H v d → Dq H' v d
  | _, _, .non => .non
  | _, _, .bl b => .bl b
  | _, _, .int i => .int i
  | _, _, .str x => .str x
  | _, _, .lst h n hs => .lst (e _ _ h (fun _ z => nomatch z)) n (DqAll.ext e hs)
  | _, _, .tup h hs => .tup (e _ _ h (fun _ z => nomatch z)) (DqAll.ext e hs)
  | _, _, .dct h x => .dct (e _ _ h (fun _ z => nomatch z)) x
theorem DqAll.ext {H H' : Hp} (e : ExtN H H') : ∀ {vs : List V} {ds : List PyData}, DqAll H vs ds → DqAll H' vs ds
  | _, _, .nil => .nil
  | _, _, .cons h hs => .cons (Dq.ext e h) (DqAll.ext e hs)
end
theorem cut_ext {s c : Addr} {H H' : Hp} (e : ExtN H H') : ExtN (cutH s c H) (cutH s c H') := fun b u h n => by
  have ⟨n1, n2, e1⟩ := cut_at' h
  exact cut_in ⟨n1, n2⟩ (e b u e1 n)
theorem Src.ext {s c : Addr} {H H' : Hp} (S : Src H s c) (e : ExtN H H') : Src H' s c := by
  obtain ⟨l, m, t, ns, h⟩ := S
  exact ⟨l, m, t, ns, e _ _ h.hs (fun _ z => nomatch z), e _ _ h.hc (fun _ z => nomatch z), h.l0, h.m0, h.m1, h.t0, h.n0, h.len⟩
theorem codeO_dK (c : Addr) (q : Str) (kvs : List (Key × V)) : CodeO c q ≠ .dK kvs := fun z => by unfold CodeO at z; cases z
theorem codeO_lst (c : Addr) (q : Str) (xs : List V) : CodeO c q ≠ .lst xs := fun z => by unfold CodeO at z; cases z
theorem tabs_go {L : List (Addr × Str)} {s c : Addr} {H H' : Hp} (t : Tabs L H) (S : Src H s c) (g : Go s c H H') : Tabs L H' := fun p hp => by
  obtain ⟨ps, h1, h2, h3⟩ := t p hp
  obtain ⟨_, _, _, _, S⟩ := S
  refine ⟨ps, g.keep _ _ (ne_of h1 S.hs (by intro z; cases z)) (ne_of h1 S.hc (by intro z; cases z)) h1, h2, fun pos cv hc => ?_⟩
  obtain ⟨c0, e1, e2⟩ := h3 pos cv hc
  exact ⟨c0, e1, g.keep _ _ (ne_of e2 S.hs (codeO_dK _ _ _)) (ne_of e2 S.hc (codeO_lst _ _ _)) e2⟩
theorem fnOk_up {P : Program} {w : World} {K : PySem.W.Frag} {mg : Str → Option Value} {base : Heap} {CX : CXT} {k j : Nat} {f : Addr} {fd : FuncData} {ps : List Str} {sp : Sp} (F : FnOk P w K mg base CX j f fd ps sp) (h : j ≤ k) : FnOk P w K mg base CX k f fd ps sp :=
  ⟨F.len, fun A outer s H args us vs Q E hr => F.run A outer s H args us vs Q E (hr.mono h)⟩
def spLawT (K : PySem.W.Frag) (p : Addr) : Sp := fun vs H Q _ => ∃ (a : Addr) (ns : List Int), vs = [.ref a] ∧ SqL K H a (ns.map V.int) ∧ ns.length ≤ 63 ∧ H p = some (.tbl #[]) ∧ ∀ H', Q (.bl true) H'
/-- the name of a lambda of the law -/
def lamQ : Str := ("law" : Str) ++ ".<locals>." ++ "<lambda>"
theorem tabs_upd {L : List (Addr × Str)} {H : Hp} {q : Addr} {ys zs : List V} (e : H q = some (.lst ys)) (t : Tabs L H) : Tabs L (L2.upd H q (.lst zs)) := fun p hp => by
  obtain ⟨ps, h1, h2, h3⟩ := t p hp
  refine ⟨ps, by rw [upd_ne (ne_of h1 e (by intro z; cases z))]; exact h1, h2, fun pos cv hc => ?_⟩
  obtain ⟨c0, e1, e2⟩ := h3 pos cv hc
  exact ⟨c0, e1, by rw [upd_ne (ne_of e2 e (codeO_lst _ _ _))]; exact e2⟩
theorem BrsAt.ext {H H' : Hp} (e : ExtN H H') {ps : List Addr} {bs : List Br} (h : BrsAt H ps bs) : BrsAt H' ps bs := ⟨h.1, fun i p b h1 h2 => by
  obtain ⟨a, q1, q2⟩ := h.2 i p b h1 h2
  exact ⟨a, e _ _ q1 (fun _ z => nomatch z), e _ _ q2 (fun _ z => nomatch z)⟩⟩
theorem BookH.ext {C : Addr} {H H' : Hp} (e : ExtN H H') {x : Addr} {gs : List Str} {bs : List Br} (h : BookH C H x gs bs) : BookH C H' x gs bs := by
  obtain ⟨dx, tg, tb, dg, db, ps, h1, h2, h3, h4, h5, h6⟩ := h
  exact ⟨dx, tg, tb, dg, db, ps, e _ _ h1 (fun _ z => nomatch z), e _ _ h2 (fun _ z => nomatch z), e _ _ h3 (fun _ z => nomatch z), h4.ext e, e _ _ h5 (fun _ z => nomatch z), e _ _ h6 (fun _ z => nomatch z)⟩
theorem EitherA.ext {H H' : Hp} {a : Addr} {xs : List V} (h : EitherA H a xs) (e : ExtN H H') : EitherA H' a xs := h.imp (fun z => e _ _ z (fun _ q => nomatch q)) (fun z => e _ _ z (fun _ q => nomatch q))
theorem ScrAt.ext {C : Addr} {H H' : Hp} {vs : List V} {gs : List Str} {bs : List Br} {st : List Int} {ds : List PyData} {x a m : Addr} {xs : List V} (h : ScrAt C H vs gs bs st ds x a m xs) (e : ExtN H H') : ScrAt C H' vs gs bs st ds x a m xs :=
  ⟨h.ev, h.hB.ext e, h.nd, e _ _ h.ha (fun _ q => nomatch q), h.sl, h.bw, h.hm.ext e, h.dq.ext e, h.lz⟩
theorem ScrAt.same {C : Addr} {H H' : Hp} {vs : List V} {gs : List Str} {bs : List Br} {st : List Int} {ds : List PyData} {x a m : Addr} {xs : List V} (h : ScrAt C H vs gs bs st ds x a m xs) (e : Same H H') : ScrAt C H' vs gs bs st ds x a m xs :=
  ⟨h.ev, h.hB.same e, h.nd, e _ _ h.ha, h.sl, h.bw, h.hm.same e, h.dq.same e, h.lz⟩
/-- a lambda whose call is refused with the number n -/
theorem lam_num {P C : Addr} {q : Str} {σ : L2.St} {H : Hp} {n : Int} {Q : VK} {t : XK → TE} {sp : Sp} {vs : List V} (tb : Tabs [(P, q)] H) (ht : ∀ (E : XK) (H1 : Hp) (R : VK), sp vs H1 R E → t E σ H1 R)
    (hs : ∀ (E : XK) (H1 : Hp) (R : VK), ExtN H H1 → NumE C H1 n E → sp vs H1 R E)
    (k : ∀ (H2 : Hp) (p1 : Addr), ExtN H H2 → Tabs [(P, q)] H2 → H2 p1 = some (.lst [.int n]) → sysModules < p1 → Q (.ref p1) H2) :
    tLam [(P, q)] (TNum C) t σ H Q := by
  refine ⟨tb, fun H1 e1 t1 => ht _ _ _ (hs _ _ _ e1 fun dx H' sH ex => ?_)⟩
  refine ⟨dx, _, rfl, rfl, ex, fun p1 h1 b1 => ?_⟩
  have sA := sH.trans (same_new h1 (.lst [.int n]))
  exact k _ p1 (e1.trans (.of sA)) (t1.ext sA) upd_same b1
end My

namespace My
open PySem PySem.Spec PyProof.Rows L2 LamX
theorem make_same {N : Hp} {x dx C : Addr} (hx : N x = none) (hdx : N dx = none) (n : dx ≠ x) : Same N (L2.upd (L2.upd N dx (.own x)) x (.ins C dx [])) :=
  (same_new hdx (.own x)).trans (same_new (H := L2.upd N dx (.own x)) (p := x) (by rw [upd_ne n.symm]; exact hx) (.ins C dx []))
def gsH : List Str := ["a", "b", "c"]
def bsH : List Br := [("p", [-2, 1, 0]), ("q", [0, -3, 2])]
theorem goodH : GoodBk gsH bsH := ⟨by decide +kernel, by decide +kernel, by decide, by decide +kernel, by decide +kernel, by decide⟩
theorem goodE : GoodBk [] [] := ⟨(fun _ h => nomatch h), List.nodup_nil, Nat.zero_le _, (fun _ h => nomatch h), List.nodup_nil, Nat.zero_le _⟩
theorem allAt_cons {α : Type} {R : Addr → α → Prop} {ps : List Addr} {xs : List α} {p : Addr} {x : α} (h0 : R p x) (h : AllAt R ps xs) : AllAt R (p :: ps) (x :: xs) :=
  ⟨congrArg (· + 1) h.1, fun i q y e1 e2 => by
    cases i with
    | zero => cases e1; cases e2; exact h0
    | succ i => exact h.2 i q y e1 e2⟩
/-- whichever way a number is found, what follows is shown once -/
theorem many_lem {s c : Addr} {tst : TT} {ta tb : TE} {g : TG} {u : TS} {D : Ends} {σ : L2.St} {M : Hp} (fin : ∀ (n : Nat) (M4 : Hp), Go s c M M4 → n ≤ 59 → g (.int (n : Nat)) σ M4 (u D))
    (h : ∀ Q' : VK, (∀ (n : Nat) (M4 : Hp), Go s c M M4 → n ≤ 59 → Q' (.int (n : Nat)) M4) → tIf tst ta tb σ M Q') : tSeq (tAsg (tIf tst ta tb) g) u D σ M := h _ fin
theorem way_stop {bs : List Br} {d : PyData} {es : List PyData} : ∀ {ds : List PyData} {st r : List Int}, wayF bs st ds = some r → behD bs r d = none → wayF bs st (ds ++ d :: es) = none
  | [], st, r, h, g => by
    cases h
    show (match behD bs st d with | some r => wayF bs r es | none => none) = _
    rw [g]
  | e :: ds, st, r, h, g => by
    show (match behD bs st e with | some r => wayF bs r (ds ++ d :: es) | none => none) = _
    have h : (match behD bs st e with | some r => wayF bs r ds | none => none) = some r := h
    cases q : behD bs st e with
    | none => rfl
    | some r' =>
      rw [q] at h
      exact way_stop h g
theorem ext_put {H N M : Hp} {T : Addr} {o : HO} (h : ExtN H N) (hT : N T = none) (g : ExtN N M) : ExtN H (L2.upd M T o) := fun b u hb hu => by
  have q := h b u hb hu
  rw [upd_ne (ne_of_none q hT)]
  exact g b u q hu
theorem sm_nat {m : Nat} (h : m ≤ 60) : Sm 0 0 (.int (m : Nat)) := sm_int (by omega) (by
  have c : (60 : Int) < 10 ^ 40 := by decide +kernel
  omega)
theorem sm_three {m : Nat} (h : m ≤ 60) : Sm 2 20 (.list [.list [.int (m : Nat)], .list [.int (m : Nat)], .list [.int (m : Nat)]]) := by
  have a : Sm 1 1 (.list [.int (m : Nat)]) := ((SmA.cons (sm_nat h) (SmA.nil (b := 0))).list).up (Nat.le_refl _) (by decide)
  exact (SmA.cons a (SmA.cons a (SmA.cons a (SmA.nil (b := 0))))).list.up (Nat.le_refl _) (by decide)
theorem kit_no {K : PySem.W.Frag} {C : Addr} {t : String} (h : PySem.W.subIn K (.ref C) (.type t) = some false) (m : PySem.W.kitMeta t = true) : PySem.W.kitOne K (.ref C) (.type t) = some false := by
  unfold PySem.W.kitOne
  rw [if_neg (by intro z; exact Bool.noConfusion z)]
  show (if PySem.W.kitMeta t = true then PySem.W.subIn K (.ref C) (.type t) else none) = some false
  rw [if_pos m]
  exact h
theorem kit_book {K : PySem.W.Frag} {C : Addr} (h1 : PySem.W.subIn K (.ref C) (.type "list") = some false) (h2 : PySem.W.subIn K (.ref C) (.type "tuple") = some false) : PySem.W.kitAny K (.ref C) [.type "list", .type "tuple"] = some false :=
  kitAny_cons (b := false) (kit_no h1 (by decide +kernel)) (fun _ => kitAny_cons (b := false) (kit_no h2 (by decide +kernel)) (fun _ => kitAny_nil) (fun z => nomatch z)) (fun z => nomatch z)
theorem log_nat {m : Nat} (h : m ≤ 60) : ((m : Nat) : Int).natAbs.log2 < 1920 := by
  have q : ∀ k : Fin 61, ((k.val : Nat) : Int).natAbs.log2 < 1920 := by decide +kernel
  exact q ⟨m, by omega⟩
section
variable {P : Program} {w : World} {K : PySem.W.Frag} {mg : Str → Option Value} {base : Heap}
theorem ok_law (T : Tx K mg) {cc pp : Addr} (hc : CodeAt K T.a_law cc) (TB : TabB base mg cc pp) : FnG P w K mg base 61 T.a_law T.fd_law ["_law_script_here"] (spLawT K pp) := by
  refine FnG.ofC T.F_law hc sc_law (fun vs H Q E h => ?_) (fun A outer st H vs Q E hg hr h => ?_)
  · obtain ⟨a, ns, rfl, _⟩ := h
    rfl
  obtain ⟨a0, ns0, rfl, hS0, hl0, hT0, k⟩ := h
  have G_law_source : FnOk P w K mg base CX0 1 T.a_law_source T.fd_law_source ["_law_script_here"] (spSource K) := ok_source T
  have G_law_some_book : FnOk P w K mg base CX0 15 T.a_law_some_book T.fd_law_some_book ["_law_source_here", "_law_most"] (spBookD T.C_Book 2) := ok_some_book T
  have G_law_drawn_stock : FnOk P w K mg base CX0 4 T.a_law_drawn_stock T.fd_law_drawn_stock ["_law_source_here", "_law_world"] (spDrawnStock T.C_Book) := ok_drawn_stock T
  have G_law_pick : FnOk P w K mg base CX0 1 T.a_law_pick T.fd_law_pick ["_law_source_here", "_law_many"] spPick := ok_pick T
  have G_law_script : FnOk P w K mg base CX0 4 T.a_law_script T.fd_law_script ["_law_source_here", "_law_world", "_law_stock_here", "_law_many"] (spLScrD T.C_Book) := ok_lscript T
  have G_law_right : FnG P w K mg base 8 T.a_law_right T.fd_law_right ["_law_book_here", "_law_stock_here", "_law_script_here", "_law_stocks"] (spRight T.C_Book) := ok_right T
  have G_law_spoilt : FnOk P w K mg base CX0 5 T.a_law_spoilt T.fd_law_spoilt ["_law_source_here", "_law_world", "_law_script_here", "_law_stocks"] (spSpoilt T.C_Book) := ok_spoilt T
  have G_stocks_along : FnOk P w K mg base (L2.CX P w) 7 T.a_stocks_along T.fd_stocks_along ["book", "stock", "script"] (spAlongD T.C_Book T.e_BadDeed.C) := fnOk_up (ok_alongD T) (by decide)
  have G_script_back : FnOk P w K mg base (L2.CX P w) 7 T.a_script_back T.fd_script_back ["book", "stock", "script"] (spBackS T.C_Book T.e_BadDeed.C) := ok_backS T
  have G_walked : FnOk P w K mg base (L2.CX P w) 7 T.a_walked T.fd_walked ["book", "stock", "script"] (spWalked T.C_Book T.e_BadDeed.C) := ok_walked T
  have G_first_bad : FnOk P w K mg base CX0 6 T.a_first_bad T.fd_first_bad ["book", "stock", "value"] (spFirst K T.C_Book) := ok_first T
  have G_Book_init : FnOk P w K mg base CX0 5 T.a_Book_init T.fd_Book_init ["self", "goods", "barters"] (spInit34 T.C_Book) := ok_Book_init T
  have hr_lam : Room 9 _ := hr.mono (by decide)
  have hr_law_source : Room 1 _ := hr.mono (by decide)
  have hr_law_some_book : Room 15 _ := hr.mono (by decide)
  have hr_law_drawn_stock : Room 4 _ := hr.mono (by decide)
  have hr_law_pick : Room 1 _ := hr.mono (by decide)
  have hr_law_script : Room 4 _ := hr.mono (by decide)
  have hr_law_right : Room 8 _ := hr.mono (by decide)
  have hr_law_spoilt : Room 5 _ := hr.mono (by decide)
  have hr_stocks_along : Room 7 _ := hr.mono (by decide)
  have hr_script_back : Room 7 _ := hr.mono (by decide)
  have hr_walked : Room 7 _ := hr.mono (by decide)
  have hr_first_bad : Room 6 _ := hr.mono (by decide)
  have hr_Book_init : Room 6 _ := hr.mono (by decide)
  have hu64 := hr.units
  have hu := hu_of hr
  refine ⟨_, ((pss_cons (ps_set (i := 1) sc_law.nd rfl (Or.inl rfl) (pe_call G_law_source hr_law_source rfl T.m_law_source T.F_law_source.kp T.b_law_source .nil pass0 (pa_cons (pv 0) pa_nil)))
      (pss_cons (ps_for PassesOwn.never rfl (pi_range1 rfl T.n_range (pa_cons pe_int pa_nil)) (pg_name (i := 2) sc_law.nd rfl (Or.inl rfl))
        (pss_cons (ps_set (i := 3) sc_law.nd rfl (Or.inl rfl) (pe_call G_law_some_book hr_law_some_book rfl T.m_law_some_book T.F_law_some_book.kp T.b_law_some_book .nil pass0 (pa_cons (pv 1) (pa_cons pe_int pa_nil))))
      (pss_cons (ps_asg (pe_tup (pa_cons (pe_dget hu (pv 3) pe_str (fun _ _ => rfl)) (pa_cons (pe_call G_law_drawn_stock hr_law_drawn_stock rfl T.m_law_drawn_stock T.F_law_drawn_stock.kp T.b_law_drawn_stock .nil pass0 (pa_cons (pv 1) (pa_cons (pv 3) pa_nil))) pa_nil))) (pg_tup rfl (pgs_cons (pg_name (i := 4) sc_law.nd rfl (Or.inr rfl)) (pgs_cons (pg_name (i := 5) sc_law.nd rfl (Or.inr rfl)) pgs_nil))))
      (pss_cons (ps_set (i := 6) sc_law.nd rfl (Or.inl rfl) (pe_ifExp (PW.pt (pw_and (pt_cmpR op_eq (pv 2) pe_int (nomark _)) (pw_and1 (pt_cmpR op_eq (pe_call G_law_pick hr_law_pick rfl T.m_law_pick T.F_law_pick.kp T.b_law_pick .nil pass0 (pa_cons (pv 1) (pa_cons pe_int pa_nil))) pe_int (nomark _))))) pe_int (pe_call G_law_pick hr_law_pick rfl T.m_law_pick T.F_law_pick.kp T.b_law_pick .nil pass0 (pa_cons (pv 1) (pa_cons pe_int pa_nil)))))
      (pss_cons (ps_asg (pe_call G_law_script hr_law_script rfl T.m_law_script T.F_law_script.kp T.b_law_script .nil pass0 (pa_cons (pv 1) (pa_cons (pv 3) (pa_cons (pv 5) (pa_cons (pv 6) pa_nil))))) (pg_lst (by rfl) (pgs_cons (pg_name (i := 7) sc_law.nd rfl (Or.inl rfl)) (pgs_cons (pg_name (i := 8) sc_law.nd rfl (Or.inl rfl)) pgs_nil))))
      (pss_cons (ps_if (pt_not (pt_val (pe_callG G_law_right hg hr_law_right rfl T.m_law_right T.F_law_right.kp T.b_law_right pass0 (pa_cons (pv 4) (pa_cons (pv 5) (pa_cons (pv 7) (pa_cons (pv 8) pa_nil)))))))
        (pss_one (ps_ret pe_bl))
        pss_nil)
      (pss_cons (ps_asg (pe_call G_law_spoilt hr_law_spoilt rfl T.m_law_spoilt T.F_law_spoilt.kp T.b_law_spoilt .nil pass0 (pa_cons (pv 1) (pa_cons (pv 3) (pa_cons (pv 7) (pa_cons (pv 8) pa_nil))))) (pg_lst (by rfl) (pgs_cons (pg_name (i := 9) sc_law.nd rfl (Or.inl rfl)) (pgs_cons (pg_name (i := 10) sc_law.nd rfl (Or.inl rfl)) pgs_nil))))
      (pss_cons (ps_for PassesOwn.never rfl (pi_list (pe_lstN (pa_cons (pv 9) (pa_cons (pe_callTy call_tuple_of (by rfl) T.n_tuple (by decide +kernel) (pa_cons (pv 9) pa_nil)) (pa_cons (pe_slice sl_list (pe_op op_cat (pv 9) (pe_lstN (pa_cons pe_non pa_nil))) po_none (po_some pe_int)) pa_nil))))) (pg_name (i := 11) sc_law.nd rfl (Or.inr rfl))
        (pss_cons (ps_set (i := 12) sc_law.nd rfl (Or.inl rfl) (pe_lstN (pa_cons (pe_ref35 T rfl TB rfl hr_lam (show LamS (defScope s_law) _ from lamS_by (by decide +kernel)) rfl (fun _ _ _ _ _ => rfl) (fun A outer s H E f c' hr2 => pe_call G_walked hr2 rfl T.m_walked T.F_walked.kp T.b_walked .nil (passes_call (takes_of rfl rfl rfl rfl) (fun _ _ _ _ z => z)) (pa_cons (pe_var (i := 4) rfl (.inr (.inr rfl))) (pa_cons (pe_var (i := 5) rfl (.inr (.inr rfl))) (pa_cons (pe_var (i := 11) rfl (.inr (.inr rfl))) pa_nil))))) pa_nil)))
      (pss_cons (ps_expr (pe_bm PySem.F.plainAttrs_list PySem.F.slot_list_append PySem.F.type_list_append mt_append (pv 12) (pa_cons (pe_ref35 T rfl TB rfl hr_lam (show LamS (defScope s_law) _ from lamS_by (by decide +kernel)) rfl (fun _ _ _ _ _ => rfl) (fun A outer s H E f c' hr2 => pe_call G_stocks_along hr2 rfl T.m_stocks_along T.F_stocks_along.kp T.b_stocks_along .nil (passes_call (takes_of rfl rfl rfl rfl) (fun _ _ _ _ z => z)) (pa_cons (pe_var (i := 4) rfl (.inr (.inr rfl))) (pa_cons (pe_var (i := 5) rfl (.inr (.inr rfl))) (pa_cons (pe_var (i := 11) rfl (.inr (.inr rfl))) pa_nil))))) pa_nil)))
      (pss_cons (ps_expr (pe_bm PySem.F.plainAttrs_list PySem.F.slot_list_append PySem.F.type_list_append mt_append (pv 12) (pa_cons (pe_ref35 T rfl TB rfl hr_lam (show LamS (defScope s_law) _ from lamS_by (by decide +kernel)) rfl (fun _ _ _ _ _ => rfl) (fun A outer s H E f c' hr2 => pe_call G_script_back hr2 rfl T.m_script_back T.F_script_back.kp T.b_script_back .nil (passes_call (takes_of rfl rfl rfl rfl) (fun _ _ _ _ z => z)) (pa_cons (pe_var (i := 4) rfl (.inr (.inr rfl))) (pa_cons (pe_var (i := 5) rfl (.inr (.inr rfl))) (pa_cons (pe_var (i := 11) rfl (.inr (.inr rfl))) pa_nil))))) pa_nil)))
      (pss_one (ps_if (PW.pt (pw_or (pt_cmpR op_ne (pe_callB (call_repr_D hg hr.units) (by rfl) T.n_repr (by decide +kernel) (pa_cons (pv 12) pa_nil)) (pe_callB (call_repr_D hg hr.units) (by rfl) T.n_repr (by decide +kernel) (pa_cons (pe_op op_rep (pe_lstN (pa_cons (pe_lstN (pa_cons (pv 10) pa_nil)) pa_nil)) pe_int) pa_nil)) (nomark _)) (pw_or1 (pt_cmpR op_ne (pe_callB SkE.call_repr_int (by rfl) T.n_repr (by decide +kernel) (pa_cons (pe_call G_first_bad hr_first_bad rfl T.m_first_bad T.F_first_bad.kp T.b_first_bad .nil pass0 (pa_cons (pv 4) (pa_cons (pv 5) (pa_cons (pv 11) pa_nil)))) pa_nil)) (pe_callB SkE.call_repr_int (by rfl) T.n_repr (by decide +kernel) (pa_cons (pv 10) pa_nil)) (nomark _)))))
        (pss_one (ps_ret pe_bl))
        pss_nil))))))
      (pss_one (ps_for PassesOwn.never rfl (pi_list (pe_lstN (pa_cons pe_non (pa_cons pe_bl (pa_cons pe_int (pa_cons pe_str (pa_cons pe_str (pa_cons pe_dnewK (pa_cons (pe_disp (pps_cons pe_int pe_int pps_nil) (by rfl) (by rfl) (fun z => by cases z) (by decide)) (pa_cons (pv 4) pa_nil)))))))))) (pg_name (i := 13) sc_law.nd rfl (Or.inl rfl))
        (pss_one (ps_if (pt_cmpR op_ne (pe_callB SkE.call_repr_int (by rfl) T.n_repr (by decide +kernel) (pa_cons (pe_call G_first_bad hr_first_bad rfl T.m_first_bad T.F_first_bad.kp T.b_first_bad .nil pass0 (pa_cons (pv 4) (pa_cons (pv 5) (pa_cons (pv 13) pa_nil)))) pa_nil)) pe_str (nomark _))
        (pss_one (ps_ret pe_bl))
        pss_nil))))))))))))
      (pss_cons (ps_set (i := 14) sc_law.nd rfl (Or.inl rfl) (pe_make T.M_Book G_Book_init hr_Book_init rfl T.m_Book T.b_Book_init .nil pass0 (pa_cons (pe_lstN (pa_cons pe_str (pa_cons pe_str (pa_cons pe_str pa_nil)))) (pa_cons (pe_lstN (pa_cons (pe_tup (pa_cons pe_str (pa_cons (pe_tup (pa_cons (pe_un un_neg pe_int) (pa_cons pe_int (pa_cons pe_int pa_nil)))) pa_nil))) (pa_cons (pe_tup (pa_cons pe_str (pa_cons (pe_tup (pa_cons pe_int (pa_cons (pe_un un_neg pe_int) (pa_cons pe_int pa_nil)))) pa_nil))) pa_nil))) pa_nil))))
      (pss_cons (ps_set (i := 7) sc_law.nd rfl (Or.inl rfl) (pe_op op_cat (pe_op op_rep (pe_lstN (pa_cons (pe_tup (pa_cons pe_str (pa_cons pe_int pa_nil))) pa_nil)) pe_int) (pe_lstN (pa_cons (pe_tup (pa_cons pe_str (pa_cons pe_int pa_nil))) pa_nil))))
      (pss_cons (ps_if (pt_cmpR (op_neD hr.units) (pe_call G_stocks_along hr_stocks_along rfl T.m_stocks_along T.F_stocks_along.kp T.b_stocks_along .nil passN (pa_cons (pv 14) (pa_cons (pe_tup (pa_cons pe_int (pa_cons pe_int (pa_cons pe_int pa_nil)))) (pa_cons (pv 7) pa_nil)))) (pe_lstN (pa_cons (pe_tup (pa_cons pe_int (pa_cons pe_int (pa_cons pe_int pa_nil)))) (pa_cons (pe_tup (pa_cons pe_int (pa_cons pe_int (pa_cons pe_int pa_nil)))) (pa_cons (pe_tup (pa_cons pe_int (pa_cons pe_int (pa_cons pe_int pa_nil)))) (pa_cons (pe_tup (pa_cons pe_int (pa_cons pe_int (pa_cons pe_int pa_nil)))) (pa_cons (pe_tup (pa_cons pe_int (pa_cons pe_int (pa_cons pe_int pa_nil)))) pa_nil)))))) (nomark _))
        (pss_one (ps_ret pe_bl))
        pss_nil)
      (pss_cons (ps_if (PW.pt (pw_or (pt_cmpR op_ne (pe_call G_first_bad hr_first_bad rfl T.m_first_bad T.F_first_bad.kp T.b_first_bad .nil pass0 (pa_cons (pv 14) (pa_cons (pe_tup (pa_cons pe_int (pa_cons pe_int (pa_cons pe_int pa_nil)))) (pa_cons (pe_revL (pv 7)) pa_nil)))) pe_int (nomark _)) (pw_or1 (pt_cmpR op_ne (pe_call G_first_bad hr_first_bad rfl T.m_first_bad T.F_first_bad.kp T.b_first_bad .nil pass0 (pa_cons (pv 14) (pa_cons (pe_tup (pa_cons pe_int (pa_cons pe_int (pa_cons pe_int pa_nil)))) (pa_cons (pe_op op_cat (pv 7) (pe_lstN (pa_cons (pe_tup (pa_cons pe_str (pa_cons pe_int pa_nil))) pa_nil))) pa_nil)))) pe_int (nomark _)))))
        (pss_one (ps_ret pe_bl))
        pss_nil)
      (pss_one (ps_ret (pe_and (pe_cmpR (op_eqD hr.units) (pe_call G_stocks_along hr_stocks_along rfl T.m_stocks_along T.F_stocks_along.kp T.b_stocks_along .nil passN (pa_cons (pe_make T.M_Book G_Book_init hr_Book_init rfl T.m_Book T.b_Book_init .nil pass0 (pa_cons (pe_lstN pa_nil) (pa_cons (pe_lstN pa_nil) pa_nil))) (pa_cons (pe_tup pa_nil) (pa_cons (pe_lstN pa_nil) pa_nil)))) (pe_lstN (pa_cons (pe_tup pa_nil) pa_nil)) (nomark _)) (pe_one (pe_cmpR (op_eqD hr.units) (pe_call G_script_back hr_script_back rfl T.m_script_back T.F_script_back.kp T.b_script_back .nil passN (pa_cons (pe_make T.M_Book G_Book_init hr_Book_init rfl T.m_Book T.b_Book_init .nil pass0 (pa_cons (pe_lstN pa_nil) (pa_cons (pe_lstN pa_nil) pa_nil))) (pa_cons (pe_tup pa_nil) (pa_cons (pe_tup pa_nil) pa_nil)))) (pe_lstN pa_nil) (nomark _))))))))))))), ?_⟩
  have t0 : Tabs [(pp, lamQ)] H := fun q hq => by rw [List.mem_singleton.mp hq]; exact TabS.nil hT0
  refine ⟨_, rfl, a0, ns0, rfl, hS0, hl0, fun s c H1 s1 _ _ src1 => ?_⟩
  refine ⟨_, rfl, by decide, by decide, for_range (lo := 0) (n := 2) (fun i σ M => ∃ v2 v3 v4 v5 v6 v7 v8 v9 v10 v11 v12 v13 : Option V, σ = [some (.ref a0), some (.ref s), v2, v3, v4, v5, v6, v7, v8, v9, v10, v11, v12, v13, none] ∧ Src M s c ∧ Tabs [(pp, lamQ)] M)
    ⟨none, none, none, none, none, none, none, none, none, none, none, none, rfl, src1, t0.ext s1⟩ ?_ ?_⟩
  · rintro i σ M hi ⟨v2, v3, v4, v5, v6, v7, v8, v9, v10, v11, v12, v13, rfl, S, tb⟩
    refine ⟨_, rfl, s, c, 6, rfl, S, by decide, by decide, fun wd gs bs M1 g1 W1 l1 l2 ix => ?_⟩
    have S1 := g1.src
    have tb1 := tabs_go tb S g1
    obtain ⟨g, l, x, ps, ex, WX⟩ := id W1
    obtain ⟨_, _, hwd⟩ := cut_at' WX.hw
    have gK : DGet M1 wd (.str "book") (some (.ref x)) := by rw [← w_book g l x ex]; exact DGet.k (k := Sum.inr "book") hwd
    refine ⟨_, rfl, wd, _, rfl, gK, _, rfl, _, rfl, s, c, wd, gs, bs, rfl, S1, W1, by omega, fun pst stk M2 g2 est lst bst => ?_⟩
    refine ⟨(by show 2 ≤ sizeLine; decide), fun tp htp => ⟨tp, _, rfl, SqT.of upd_same, rfl, _, _, rfl, _, _, rfl, rfl, ?_⟩⟩
    have stp := same_new htp (.tup [.ref x, .ref pst])
    have g3 := g2.then stp
    have est3 := stp _ _ est
    generalize L2.upd M2 tp (.tup [.ref x, .ref pst]) = M3 at stp g3 est3 ⊢
    have W3 := W1.go g3
    have tb3 := tabs_go tb1 S1 g3
    -- how many deeds
    dsimp only
    refine many_lem (s := s) (c := c) (fun n M4 g4 n60 => ?_) (fun Q' fin => ?_)
    rotate_left
    · have two : ∀ (N : Hp), Go s c M3 N → ∀ σ : L2.St, σ[1]? = some (some (.ref s)) → tCall spPick [] E0 (tCons (tVar 1) (tCons (tC (V.int 10)) tNil)) σ N Q' := fun N gN σ e1 => by
        refine ⟨_, e1, s, c, _, rfl, gN.src, by decide, by decide, fun j N2 j0 j1 g5 => ?_⟩
        obtain ⟨n, rfl⟩ : ∃ n : Nat, j = (n : Nat) := ⟨j.toNat, by omega⟩
        exact fin n N2 (gN.trans g5) (by omega)
      refine ⟨_, rfl, rfl, _, rfl, iteD (fun _ => ?_) (fun _ => ?_)⟩
      · refine ⟨_, rfl, s, c, _, rfl, g3.src, by decide, by decide, fun j N j0 j1 g4 => ⟨rfl, _, rfl, iteD (fun _ => ?_) (fun _ => ?_)⟩⟩
        · exact fin 59 N g4 (by decide)
        · exact two N g4 _ rfl
      · exact two M3 (Go.refl g3.src) _ rfl
    have S4 := g4.src
    have tb4 := tabs_go tb3 g3.src g4
    have W4 := W3.go g4
    have est4 := g4.tup g3.src est3
    refine ⟨_, rfl, _, rfl, _, rfl, _, rfl, s, c, wd, pst, n, gs, bs, stk, rfl, S4, W4, by omega, by omega, est4, lst, by omega, fun p ml sl ds ss zs r M5 g5 ep nm ns em es aD ib lz hw aS => ?_⟩
    refine ⟨p, _, rfl, SqL.of ep, rfl, _, _, rfl, _, _, rfl, rfl, ?_⟩
    have W5 := W4.go g5
    have tb5 := tabs_go tb4 S4 g5
    obtain ⟨g', l', x', ps', ex', WX5⟩ := id W5
    have gAll := (g3.trans g4).trans g5
    have hb5 : BookH T.C_Book M5 x gs bs := (WX.bk.same (cut_go (g3.trans (g4.trans g5)))).same cut_same
    have est5 := g5.tup S4 est4
    have rt : RtAt T.C_Book M5 gs bs stk ds ss zs r x pst ml sl := ⟨hb5, WX.G.bn, fun b hb => (WX.G.bw b hb).1, est5, by omega, fun b hb => by rw [lst]; exact (WX.G.bw b hb).2.1, fun b hb => (ix b hb).2, bst, em, es, aD, by rw [lst]; exact ib, by omega, hw, aS⟩
    refine ⟨_, rfl, _, rfl, _, rfl, _, rfl, gs, bs, stk, ds, ss, zs, r, x, pst, ml, sl, rfl, rt, fun M6 s6 => ⟨_, rfl, iteF ?_⟩⟩
    have g56 := Go.of g5.src s6
    have W6 := W5.go g56
    have tb6 := tabs_go tb5 g5.src g56
    refine ⟨_, rfl, _, rfl, _, rfl, _, rfl, s, c, wd, ml, sl, gs, bs, stk, ds, ss, zs, r, rfl, g56.src, W6, by omega, by omega, lst, nm, ns, s6 _ _ em, s6 _ _ es, aD.imp fun p q h => s6 _ _ h, by omega, hw, aS.imp fun p q h => s6 _ _ h, fun p2 bad m xs d r' M7 g7 ep2 ebad dqb ml' hr' hbd => ?_⟩
    refine ⟨p2, _, rfl, SqL.of ep2, rfl, _, _, rfl, _, _, rfl, rfl, ?_⟩
    have W7 := W6.go g7
    have g37 := g3.trans (g4.trans (g5.trans (g56.trans g7)))
    have tb7 := tabs_go tb6 g56.src g7
    have S7 := g7.src
    have m59 : m ≤ 59 := by omega
    have bk7 : BookH T.C_Book M7 x gs bs := (WX.bk.same (cut_go g37)).same cut_same
    have est7 := g7.tup g56.src (s6 _ _ est5)
    have dqb7 := dqb.same cut_same
    have lxs : xs.length = zs.length + 1 := by
      have q := dqb.length
      rw [q, List.length_append, List.length_cons, List.length_take, List.length_drop, List.length_map]
      omega
    refine ⟨_, rfl, _, rfl, bad, _, rfl, .inl ⟨SqL.of ebad, fun p3 h3 => ⟨_, rfl, (by show 1 ≤ sizeLine; decide), fun p4 h4 b4 => ?_⟩⟩⟩
    have u3 := same_new h3 (.tup xs)
    have u4 := same_new h4 (.lst [.non])
    refine ⟨bad, p4, _, _, rfl, rfl, u4 _ _ (u3 _ _ ebad), upd_same, by show xs.length + 1 ≤ sizeLine; exact small (by omega), fun p5 h5 => ?_⟩
    have u5 := same_new h5 (.lst (xs ++ [V.non]))
    refine ⟨_, rfl, p5, _, rfl, SqL.of upd_same, fun p6 h6 => ?_⟩
    rw [show ((60 : Int)) = ((60 : Nat) : Int) from rfl, cutV_lo']
    have u6 := same_new h6 (.lst ((xs ++ [V.non]).take 60))
    refine ⟨(by show 3 ≤ sizeLine; decide), fun L hL bL => ?_⟩
    have u7 := same_new hL (.lst [.ref bad, .ref p3, .ref p6])
    have sA := u3.trans (u4.trans (u5.trans (u6.trans u7)))
    have e3 := (u4.trans (u5.trans (u6.trans u7))) _ _ (upd_same (H := M7) (a := p3) (o := .tup xs))
    have e6 := u7 _ _ (upd_same (H := L2.upd (L2.upd (L2.upd M7 p3 (.tup xs)) p4 (.lst [.non])) p5 (.lst (xs ++ [V.non]))) (a := p6) (o := .lst ((xs ++ [V.non]).take 60)))
    have eL := upd_same (H := L2.upd (L2.upd (L2.upd (L2.upd M7 p3 (.tup xs)) p4 (.lst [.non])) p5 (.lst (xs ++ [V.non]))) p6 (.lst ((xs ++ [V.non]).take 60))) (a := L) (o := .lst [.ref bad, .ref p3, .ref p6])
    generalize L2.upd (L2.upd (L2.upd (L2.upd (L2.upd M7 p3 (.tup xs)) p4 (.lst [.non])) p5 (.lst (xs ++ [V.non]))) p6 (.lst ((xs ++ [V.non]).take 60))) L (.lst [.ref bad, .ref p3, .ref p6]) = M8 at sA e3 e6 eL ⊢
    have S8 := S7.same sA
    have tb8 := tb7.ext sA
    have bk8 := bk7.same sA
    have est8 := sA _ _ est7
    have ebad8 := sA _ _ ebad
    have dqb8 := dqb7.same sA
    have lA : ((zs.map dZ).take m).length = m := by rw [List.length_take, List.length_map]; omega
    -- each of them
    have each : ∀ y ∈ ([.ref bad, .ref p3, .ref p6] : List V), ∃ (y' : Addr) (xs' : List V) (rest : List PyData), y = .ref y' ∧ EitherA M8 y' xs' ∧ DqAll M8 xs' ((zs.map dZ).take m ++ d :: rest) ∧ m + 1 + rest.length ≤ 62 := by
      have lr : ((zs.map dZ).drop m).length = zs.length - m := by rw [List.length_drop, List.length_map]
      refine all_cons ⟨bad, xs, _, rfl, .inl ebad8, dqb8, by omega⟩ (all_cons ⟨p3, xs, _, rfl, .inr e3, dqb8, by omega⟩ (all_cons ⟨p6, (xs ++ [V.non]).take 60, ((zs.map dZ).drop m ++ [PyData.none]).take (59 - m), rfl, .inl e6, ?_, ?_⟩ all_nil))
      · have q := dqA_take 60 (dqA_app dqb8 (.cons .non .nil : DqAll M8 [.non] [.none]))
        have e : ((zs.map dZ).take m ++ d :: (zs.map dZ).drop m ++ [PyData.none]).take 60 = (zs.map dZ).take m ++ d :: ((zs.map dZ).drop m ++ [PyData.none]).take (59 - m) := by
          rw [List.append_assoc, List.cons_append, List.take_append, lA, List.take_of_length_le (by rw [lA]; omega), show 60 - m = (59 - m) + 1 by omega, List.take_succ_cons]
        rw [e] at q
        exact q
      · rw [List.length_take, List.length_append, lr]
        show m + 1 + min (59 - m) (_ + 1) ≤ 62
        omega
    refine ⟨L, rfl, ⟨_, SqL.of eL⟩, for_list (K := K) (a := L) (xs := [.ref bad, .ref p3, .ref p6]) (fun j σ N => ∃ w11 w12 : Option V, σ = [some (.ref a0), some (.ref s), some (.int (0 + (i : Nat))), some (.ref wd), some (.ref x), some (.ref pst), some (.int (n : Nat)), some (.ref ml), some (.ref sl), some (.ref bad), some (.int (m : Nat)), w11, w12, v13, none] ∧ ExtN M8 N ∧ Tabs [(pp, lamQ)] N)
      ⟨v11, v12, rfl, ExtN.refl _, tb8⟩ (fun j σ N _ ⟨_, _, _, z, _⟩ => SqL.of (z _ _ eL (fun _ q => nomatch q))) (fun j y σ N hy z => ?_) (fun σ N z => ?_)⟩
    · obtain ⟨w11, w12, rfl, eN, tN⟩ := z
      obtain ⟨y', xs', rest, rfl, ey, dqy, ly⟩ := each y (List.mem_of_getElem? hy)
      have wn : wayF bs stk ((zs.map dZ).take m ++ d :: rest) = none := way_stop hr' hbd
      have al0 : (alongD bs stk ((zs.map dZ).take m ++ d :: rest)).length = m + 1 := by rw [along_stop hr' hbd, (way_len hr').1, lA]
      have aln : (((alongD bs stk ((zs.map dZ).take m ++ d :: rest)).length : Nat) - 1 : Int) = (m : Nat) := by rw [al0]; omega
      have scr : ScrAt T.C_Book M8 [.ref x, .ref pst, .ref y'] gs bs stk ((zs.map dZ).take m ++ d :: rest) x pst y' xs' :=
        ⟨rfl, bk8, WX.G.bn, est8, by omega, fun b hb => by rw [lst]; exact (WX.G.bw b hb).2.1, ey, dqy, by rw [List.length_append, lA, List.length_cons]; omega⟩
      generalize (zs.map dZ).take m ++ d :: rest = es' at wn al0 aln scr
      refine lam_num (n := (m : Nat)) (sp := spWalked T.C_Book T.e_BadDeed.C) (vs := [.ref x, .ref pst, .ref y']) tN (fun E H1 R h => ⟨_, rfl, _, rfl, _, rfl, h⟩) (fun E H1 R e ne => ⟨gs, bs, stk, es', x, pst, y', xs', (scr.ext eN).ext e, (fun r q => by rw [wn] at q; cases q), fun _ => by rw [aln]; exact ne⟩) (fun N1 q1 x1 t1 eq1 b1 => ?_)
      refine ⟨(by show 1 ≤ sizeLine; decide), fun T1 hT1 bT1 => ?_⟩
      have w1 := same_new hT1 (.lst [.ref q1])
      have eN1 := (eN.trans x1).trans (.of w1)
      have t1' := t1.ext w1
      have eT1 := upd_same (H := N1) (a := T1) (o := .lst [.ref q1])
      have n1 : q1 ≠ T1 := ne_of_none eq1 hT1
      refine ⟨_, rfl, .inl ⟨rfl, _, SqL.of eT1⟩, ?_⟩
      refine lam_num (n := (m : Nat)) (sp := spAlongD T.C_Book T.e_BadDeed.C) (vs := [.ref x, .ref pst, .ref y']) t1' (fun E H1 R h => ⟨_, rfl, _, rfl, _, rfl, h⟩) (fun E H1 R e ne => ⟨gs, bs, stk, es', x, pst, y', xs', (scr.ext eN1).ext e, (fun r q => by rw [wn] at q; cases q), fun _ => by rw [aln]; exact ne⟩) (fun N2 q2 x2 t2 eq2 b2 => ?_)
      have eT2 := x2 _ _ eT1 (fun _ q => nomatch q)
      refine ⟨T1, _, _, rfl, rfl, eT2, (by show 1 < sizeLine; decide), ?_⟩
      have n2 : q2 ≠ T1 := fun z => by
        rw [z, eT2] at eq2
        cases eq2
      have eN2 : ExtN M8 (L2.upd N2 T1 (.lst ([.ref q1] ++ [.ref q2]))) := ext_put (eN.trans x1) hT1 ((ExtN.of w1).trans x2)
      have t2' : Tabs [(pp, lamQ)] (L2.upd N2 T1 (.lst ([.ref q1] ++ [.ref q2]))) := tabs_upd eT2 t2
      have f1 : (L2.upd N2 T1 (.lst ([.ref q1] ++ [.ref q2]))) q1 = some (.lst [.int (m : Nat)]) := by rw [upd_ne n1]; exact x2 _ _ (w1 _ _ eq1) (fun _ q => nomatch q)
      have f2 : (L2.upd N2 T1 (.lst ([.ref q1] ++ [.ref q2]))) q2 = some (.lst [.int (m : Nat)]) := by rw [upd_ne n2]; exact eq2
      have eT3 := upd_same (H := N2) (a := T1) (o := .lst ([.ref q1] ++ [.ref q2]))
      refine ⟨_, rfl, .inl ⟨rfl, _, SqL.of eT3⟩, ?_⟩
      refine lam_num (n := (m : Nat)) (sp := spBackS T.C_Book T.e_BadDeed.C) (vs := [.ref x, .ref pst, .ref y']) t2' (fun E H1 R h => ⟨_, rfl, _, rfl, _, rfl, h⟩) (fun E H1 R e ne => ⟨gs, bs, stk, es', x, pst, y', xs', (scr.ext eN2).ext e, (fun r q => by rw [wn] at q; cases q), fun _ => by rw [aln]; exact ne⟩) (fun N3 q3 x3 t3 eq3 b3 => ?_)
      have eT4 := x3 _ _ eT3 (fun _ q => nomatch q)
      refine ⟨T1, _, _, rfl, rfl, eT4, (by show 2 < sizeLine; decide), ?_⟩
      have n3 : q3 ≠ T1 := fun z => by
        rw [z, eT4] at eq3
        cases eq3
      have g12 : ExtN N1 N3 := fun b u hb hu => by
        have q := x2 b u (w1 b u hb) hu
        have nb : b ≠ T1 := ne_of_none hb hT1
        exact x3 b u (by rw [upd_ne nb]; exact q) hu
      have eN3 : ExtN M8 (L2.upd N3 T1 (.lst ([.ref q1] ++ [.ref q2] ++ [.ref q3]))) := ext_put (eN.trans x1) hT1 g12
      have t3' : Tabs [(pp, lamQ)] (L2.upd N3 T1 (.lst ([.ref q1] ++ [.ref q2] ++ [.ref q3]))) := tabs_upd eT4 t3
      have k1 : (L2.upd N3 T1 (.lst ([.ref q1] ++ [.ref q2] ++ [.ref q3]))) q1 = some (.lst [.int (m : Nat)]) := by rw [upd_ne n1]; exact x3 _ _ f1 (fun _ q => nomatch q)
      have k2 : (L2.upd N3 T1 (.lst ([.ref q1] ++ [.ref q2] ++ [.ref q3]))) q2 = some (.lst [.int (m : Nat)]) := by rw [upd_ne n2]; exact x3 _ _ f2 (fun _ q => nomatch q)
      have k3 : (L2.upd N3 T1 (.lst ([.ref q1] ++ [.ref q2] ++ [.ref q3]))) q3 = some (.lst [.int (m : Nat)]) := by rw [upd_ne n3]; exact eq3
      have kT : (L2.upd N3 T1 (.lst ([.ref q1] ++ [.ref q2] ++ [.ref q3]))) T1 = some (.lst [.ref q1, .ref q2, .ref q3]) := upd_same
      generalize L2.upd N3 T1 (.lst ([.ref q1] ++ [.ref q2] ++ [.ref q3])) = N4 at eN3 t3' k1 k2 k3 kT ⊢
      have m60 : m ≤ 60 := by omega
      have s3 := sm_three m60
      refine ⟨_, rfl, T1, _, rfl, .lst (SqL.of kT) (.cons (.lst (SqL.of k1) (.cons (.int _) .nil)) (.cons (.lst (SqL.of k2) (.cons (.int _) .nil)) (.cons (.lst (SqL.of k3) (.cons (.int _) .nil)) .nil))), s3.sh, Nat.le_trans s3.dp (by decide), s3.fits (by decide), ?_⟩
      refine ⟨_, rfl, (by show 1 ≤ sizeLine; decide), fun z1 hz1 bz1 => ⟨(by show 1 ≤ sizeLine; decide), fun z2 hz2 bz2 => ⟨z2, 3, _, rfl, rfl, upd_same, by decide, by decide, (by show 1 * 3 ≤ sizeLine; decide), fun z3 hz3 => ?_⟩⟩⟩
      have v1' := same_new hz1 (.lst [.int (m : Nat)])
      have v2' := same_new hz2 (.lst [.ref z1])
      have v3' := same_new hz3 (.lst (List.replicate (3 : Int).toNat [V.ref z1]).flatten)
      have vz := v1'.trans (v2'.trans v3')
      have ez1 := v3' _ _ (v2' _ _ (upd_same (H := N4) (a := z1) (o := .lst [.int (m : Nat)])))
      have ez3 : (L2.upd (L2.upd (L2.upd N4 z1 (.lst [.int (m : Nat)])) z2 (.lst [.ref z1])) z3 (.lst (List.replicate (3 : Int).toNat [V.ref z1]).flatten)) z3 = some (.lst [.ref z1, .ref z1, .ref z1]) := upd_same
      generalize L2.upd (L2.upd (L2.upd N4 z1 (.lst [.int (m : Nat)])) z2 (.lst [.ref z1])) z3 (.lst (List.replicate (3 : Int).toNat [V.ref z1]).flatten) = N5 at vz ez1 ez3 ⊢
      have dz1 : Dp K N5 (.ref z1) (.list [.int (m : Nat)]) := .lst (SqL.of ez1) (.cons (.int _) .nil)
      refine ⟨z3, _, rfl, .lst (SqL.of ez3) (.cons dz1 (.cons dz1 (.cons dz1 .nil))), s3.sh, Nat.le_trans s3.dp (by decide), s3.fits (by decide), ?_⟩
      refine ⟨rfl, _, rfl, ?_⟩
      rw [decide_eq_true rfl]
      refine iteF ?_
      have eN5 := eN3.trans (.of vz)
      have t5' := t3'.ext vz
      refine ⟨_, rfl, _, rfl, _, rfl, .inl ⟨gs, bs, stk, es', x, pst, y', xs', scr.ext eN5, (fun r q => by rw [wn] at q; cases q), fun _ N6 s6' => ?_⟩⟩
      rw [aln]
      refine ⟨_, rfl, log_nat m60, ?_⟩
      refine ⟨_, rfl, _, rfl, log_nat m60, ?_⟩
      refine ⟨rfl, _, rfl, ?_⟩
      rw [decide_eq_true rfl]
      exact iteF ⟨_, _, rfl, eN5.trans (.of s6'), t5'.ext s6'⟩
    · obtain ⟨w11, w12, rfl, eN, tN⟩ := z
      refine fun e1 he1 => fun e2 he2 => ?_
      have em : mergeK [] [((.inl 0 : Key), V.int 1)] = [((.inl 0 : Key), V.int 1)] := rfl
      have e12 : L2.upd (L2.upd (L2.upd N e1 (.dK [])) e2 (.dK [])) e2 (.dK [(.inl 0, .int 1)]) = L2.upd (L2.upd N e1 (.dK [])) e2 (.dK [(.inl 0, .int 1)]) := upd_upd
      refine ⟨upd_same, [(.inl 0, .int 1)], rfl, by decide, ?_⟩
      rw [em, e12]
      have r1 := same_new he1 (.dK [])
      have r2 := same_new he2 (.dK [(.inl 0, .int 1)])
      refine ⟨_, rfl, (by show 8 ≤ sizeLine; decide), fun Lo hLo bLo => ?_⟩
      have r3 := same_new hLo (.lst [.non, .bl true, .int 0, .str "", .str "ab", .ref e1, .ref e2, .ref x])
      have rA := r1.trans (r2.trans r3)
      have d1 := (r2.trans r3) _ _ (upd_same (H := N) (a := e1) (o := .dK []))
      have d2 := r3 _ _ (upd_same (H := L2.upd N e1 (.dK [])) (a := e2) (o := .dK [(.inl 0, .int 1)]))
      have eLo := upd_same (H := L2.upd (L2.upd N e1 (.dK [])) e2 (.dK [(.inl 0, .int 1)])) (a := Lo) (o := .lst [.non, .bl true, .int 0, .str "", .str "ab", .ref e1, .ref e2, .ref x])
      generalize L2.upd (L2.upd (L2.upd N e1 (.dK [])) e2 (.dK [(.inl 0, .int 1)])) Lo (.lst [.non, .bl true, .int 0, .str "", .str "ab", .ref e1, .ref e2, .ref x]) = N9 at rA d1 d2 eLo ⊢
      have eN9 := eN.trans (.of rA)
      have t9 := tN.ext rA
      obtain ⟨dxB, tgB, tbB, dgB, dbB, psB, hxB, _⟩ := bk8.ext eN9
      have allO : ∀ y ∈ ([.non, .bl true, .int 0, .str "", .str "ab", .ref e1, .ref e2, .ref x] : List V), ∃ t : Value, (∀ H', Same N9 H' → TyX K H' y t) ∧ PySem.W.kitAny K t [.type "list", .type "tuple"] = some false :=
        all_cons ⟨_, fun _ _ => .base .non, is_seq .none⟩ (all_cons ⟨_, fun _ _ => .base (.bl _), is_seq (.bool true)⟩ (all_cons ⟨_, fun _ _ => .base (.int _), is_seq (.int 0)⟩ (all_cons ⟨_, fun _ _ => .base (.str _), is_seq (.str "")⟩ (all_cons ⟨_, fun _ _ => .base (.str _), is_seq (.str "")⟩
          (all_cons ⟨_, fun _ e => .base (.dK (e _ _ d1)), is_seq (.dict [])⟩ (all_cons ⟨_, fun _ e => .base (.dK (e _ _ d2)), is_seq (.dict [])⟩ (all_cons ⟨_, fun _ e => .base (.ins (e _ _ hxB) T.cl_Book T.i1_Book T.i2_Book T.i3_Book T.i4_Book), kit_book T.i5_Book T.i6_Book⟩ all_nil)))))))
      refine ⟨Lo, rfl, ⟨_, SqL.of eLo⟩, for_list (K := K) (a := Lo) (xs := [.non, .bl true, .int 0, .str "", .str "ab", .ref e1, .ref e2, .ref x]) (fun j σ M' => ∃ w13 : Option V, σ = [some (.ref a0), some (.ref s), some (.int (0 + (i : Nat))), some (.ref wd), some (.ref x), some (.ref pst), some (.int (n : Nat)), some (.ref ml), some (.ref sl), some (.ref bad), some (.int (m : Nat)), w11, w12, w13, none] ∧ Same N9 M')
        ⟨v13, rfl, fun _ _ e => e⟩ (fun j σ M' _ ⟨_, _, z⟩ => SqL.of (z _ _ eLo)) (fun j y σ M' hy z => ?_) (fun σ M' z => ?_)⟩
      · obtain ⟨w13, rfl, sM'⟩ := z
        obtain ⟨t, ty, kt⟩ := allO y (List.mem_of_getElem? hy)
        refine ⟨_, rfl, _, rfl, _, rfl, .inr ⟨x, pst, y, t, rfl, fun H' e => ty H' (sM'.trans e), kt, fun M2' s2' => ?_⟩⟩
        refine ⟨_, rfl, by decide, ?_⟩
        refine ⟨rfl, _, rfl, ?_⟩
        have ez : Str.ofString (toString (0 : Int)) = Str.ofString "0" := by decide +kernel
        rw [ez, decide_eq_true rfl]
        exact iteF ⟨_, rfl, sM'.trans s2'⟩
      · obtain ⟨w13, rfl, sM'⟩ := z
        exact ⟨_, _, _, _, _, _, _, _, _, _, _, _, rfl, S8.ext (eN9.trans (.of sM')), t9.ext sM'⟩
  · rintro σ M ⟨v2, v3, v4, v5, v6, v7, v8, v9, v10, v11, v12, v13, rfl, S, tb⟩
    refine ⟨(by show 3 ≤ sizeLine; decide), fun pa hpa _ => ?_⟩
    have sa := same_new hpa (.lst [.str "a", .str "b", .str "c"])
    have ea := upd_same (H := M) (a := pa) (o := .lst [.str "a", .str "b", .str "c"])
    generalize L2.upd M pa (.lst [.str "a", .str "b", .str "c"]) = A1 at sa ea ⊢
    refine ⟨2, rfl, (by show 3 ≤ sizeLine; decide), fun r1 hr1 => ⟨(by show 2 ≤ sizeLine; decide), fun b1 hb1 => ⟨3, rfl, (by show 3 ≤ sizeLine; decide), fun r2 hr2 => ⟨(by show 2 ≤ sizeLine; decide), fun b2 hb2 => ⟨(by show 2 ≤ sizeLine; decide), fun lb hlb _ x dx hx hdx ndx => ?_⟩⟩⟩⟩⟩
    have t1 := same_new hr1 (.tup [.int (-2), .int 1, .int 0])
    have t2 := same_new hb1 (.tup [.str "p", .ref r1])
    have t3 := same_new hr2 (.tup [.int 0, .int (-3), .int 2])
    have t4 := same_new hb2 (.tup [.str "q", .ref r2])
    have t5 := same_new hlb (.lst [.ref b1, .ref b2])
    have er1 := t5 _ _ (t4 _ _ (t3 _ _ (t2 _ _ (upd_same (H := A1) (a := r1) (o := .tup [.int (-2), .int 1, .int 0])))))
    have eb1 := t5 _ _ (t4 _ _ (t3 _ _ (upd_same (H := L2.upd A1 r1 (.tup [.int (-2), .int 1, .int 0])) (a := b1) (o := .tup [.str "p", .ref r1]))))
    have er2 := t5 _ _ (t4 _ _ (upd_same (H := L2.upd (L2.upd A1 r1 (.tup [.int (-2), .int 1, .int 0])) b1 (.tup [.str "p", .ref r1])) (a := r2) (o := .tup [.int 0, .int (-3), .int 2])))
    have eb2 := t5 _ _ (upd_same (H := L2.upd (L2.upd (L2.upd A1 r1 (.tup [.int (-2), .int 1, .int 0])) b1 (.tup [.str "p", .ref r1])) r2 (.tup [.int 0, .int (-3), .int 2])) (a := b2) (o := .tup [.str "q", .ref r2]))
    have elb := upd_same (H := L2.upd (L2.upd (L2.upd (L2.upd A1 r1 (.tup [.int (-2), .int 1, .int 0])) b1 (.tup [.str "p", .ref r1])) r2 (.tup [.int 0, .int (-3), .int 2])) b2 (.tup [.str "q", .ref r2])) (a := lb) (o := .lst [.ref b1, .ref b2])
    have ea5 := t5 _ _ (t4 _ _ (t3 _ _ (t2 _ _ (t1 _ _ ea))))
    generalize L2.upd (L2.upd (L2.upd (L2.upd (L2.upd A1 r1 (.tup [.int (-2), .int 1, .int 0])) b1 (.tup [.str "p", .ref r1])) r2 (.tup [.int 0, .int (-3), .int 2])) b2 (.tup [.str "q", .ref r2])) lb (.lst [.ref b1, .ref b2]) = A5 at er1 eb1 er2 eb2 elb ea5 hx hdx ⊢
    have ms := make_same (C := T.C_Book) hx hdx ndx
    have bA : BrsAt A5 [b1, b2] bsH := allAt_cons (R := BrAt A5) ⟨r1, eb1, er1⟩ (allAt_cons ⟨r2, eb2, er2⟩ AllAt.nil)
    refine ⟨x, pa, lb, dx, [b1, b2], gsH, bsH, rfl, upd_same, ms _ _ ea5, ms _ _ elb, bA.same ms, goodH, fun B1 keep bk => ⟨rfl, ?_⟩⟩
    have BH : ∀ {N : Hp}, Same B1 N → BookH T.C_Book N x gsH bsH := fun e => bk.book.same e
    -- [('p', 1)] * 3 + [('q', 1)]
    refine ⟨(by show 2 ≤ sizeLine; decide), fun d1 hd1 => ⟨(by show 1 ≤ sizeLine; decide), fun q1 hq1 _ => ⟨q1, 3, _, rfl, rfl, upd_same, by decide, by decide, (by show 1 * 3 ≤ sizeLine; decide), fun r3 hr3 => ?_⟩⟩⟩
    refine ⟨(by show 2 ≤ sizeLine; decide), fun d2 hd2 => ⟨(by show 1 ≤ sizeLine; decide), fun q2 hq2 _ => ⟨r3, q2, [.ref d1, .ref d1, .ref d1], [.ref d2], rfl, rfl, ?_, upd_same, (by show 4 ≤ sizeLine; decide), fun z4 hz4 => ?_⟩⟩⟩
    · exact same_new hq2 _ _ _ (same_new hd2 _ _ _ upd_same)
    have n2 := same_new hd1 (.tup [.str "p", .int 1])
    have n3 := same_new hq1 (.lst [.ref d1])
    have n4 := same_new hr3 (.lst (List.replicate (3 : Int).toNat [V.ref d1]).flatten)
    have n5 := same_new hd2 (.tup [.str "q", .int 1])
    have n6 := same_new hq2 (.lst [.ref d2])
    have n7 := same_new hz4 (.lst ([V.ref d1, .ref d1, .ref d1] ++ [V.ref d2]))
    have f2 := n7 _ _ (n6 _ _ (n5 _ _ (n4 _ _ (n3 _ _ (upd_same (H := B1) (a := d1) (o := .tup [.str "p", .int 1]))))))
    have f3 := n7 _ _ (n6 _ _ (upd_same (H := L2.upd (L2.upd (L2.upd B1 d1 (.tup [.str "p", .int 1])) q1 (.lst [.ref d1])) r3 (.lst (List.replicate (3 : Int).toNat [V.ref d1]).flatten)) (a := d2) (o := .tup [.str "q", .int 1])))
    have f4 : (L2.upd (L2.upd (L2.upd (L2.upd (L2.upd (L2.upd B1 d1 (.tup [.str "p", .int 1])) q1 (.lst [.ref d1])) r3 (.lst (List.replicate (3 : Int).toNat [V.ref d1]).flatten)) d2 (.tup [.str "q", .int 1])) q2 (.lst [.ref d2])) z4 (.lst ([V.ref d1, .ref d1, .ref d1] ++ [V.ref d2]))) z4 = some (.lst [.ref d1, .ref d1, .ref d1, .ref d2]) := upd_same
    have n17 := n2.trans (n3.trans (n4.trans (n5.trans (n6.trans n7))))
    generalize L2.upd (L2.upd (L2.upd (L2.upd (L2.upd (L2.upd B1 d1 (.tup [.str "p", .int 1])) q1 (.lst [.ref d1])) r3 (.lst (List.replicate (3 : Int).toNat [V.ref d1]).flatten)) d2 (.tup [.str "q", .int 1])) q2 (.lst [.ref d2])) z4 (.lst ([V.ref d1, .ref d1, .ref d1] ++ [V.ref d2])) = B2 at n17 f2 f3 f4 ⊢
    have dp1 : ∀ {N : Hp}, Same B2 N → Dq N (.ref d1) (dD ("p", 1)) := fun e => .tup (e _ _ f2) (.cons (.str _) (.cons (.int _) .nil))
    have dq1 : ∀ {N : Hp}, Same B2 N → Dq N (.ref d2) (dD ("q", 1)) := fun e => .tup (e _ _ f3) (.cons (.str _) (.cons (.int _) .nil))
    have scr : ∀ {N : Hp} {a m : Addr} {xs : List V} {ds : List PyData}, Same B2 N → N a = some (.tup (rowV [7, 0, 0])) → EitherA N m xs → DqAll N xs ds → ds.length ≤ 100 → ScrAt T.C_Book N [.ref x, .ref a, .ref m] gsH bsH [7, 0, 0] ds x a m xs := fun e ea em dq l =>
      ⟨rfl, BH (n17.trans e), goodH.bn, ea, by decide, by decide, em, dq, l⟩
    refine ⟨_, rfl, (by show 3 ≤ sizeLine; decide), fun s1 hs1 => ?_⟩
    have u1 := same_new hs1 (.tup [.int 7, .int 0, .int 0])
    have W4 : wayF bsH [7, 0, 0] [dD ("p", 1), dD ("p", 1), dD ("p", 1), dD ("q", 1)] = some [1, 0, 2] := by decide +kernel
    have A4 : alongD bsH [7, 0, 0] [dD ("p", 1), dD ("p", 1), dD ("p", 1), dD ("q", 1)] = [[7, 0, 0], [5, 1, 0], [3, 2, 0], [1, 3, 0], [1, 0, 2]] := by decide +kernel
    have D4 : ∀ {N : Hp}, Same B2 N → DqAll N [.ref d1, .ref d1, .ref d1, .ref d2] [dD ("p", 1), dD ("p", 1), dD ("p", 1), dD ("q", 1)] := fun e => .cons (dp1 e) (.cons (dp1 e) (.cons (dp1 e) (.cons (dq1 e) .nil)))
    refine ⟨_, rfl, gsH, bsH, [7, 0, 0], _, x, s1, z4, _, scr u1 upd_same (.inl (u1 _ _ f4)) (D4 u1) (by decide), fun r q D ss N n hD eD aS => ?_, fun q => by rw [W4] at q; cases q⟩
    rw [A4] at aS
    refine ⟨(by show 3 ≤ sizeLine; decide), fun a1 k1 => ⟨(by show 3 ≤ sizeLine; decide), fun a2 k2 => ⟨(by show 3 ≤ sizeLine; decide), fun a3 k3 => ⟨(by show 3 ≤ sizeLine; decide), fun a4 k4 => ⟨(by show 3 ≤ sizeLine; decide), fun a5 k5 => ⟨(by show 5 ≤ sizeLine; decide), fun La hLa _ => ?_⟩⟩⟩⟩⟩⟩
    have y1 := same_new k1 (.tup [.int 7, .int 0, .int 0])
    have y2 := same_new k2 (.tup [.int 5, .int 1, .int 0])
    have y3 := same_new k3 (.tup [.int 3, .int 2, .int 0])
    have y4 := same_new k4 (.tup [.int 1, .int 3, .int 0])
    have y5 := same_new k5 (.tup [.int 1, .int 0, .int 2])
    have y6 := same_new hLa (.lst [.ref a1, .ref a2, .ref a3, .ref a4, .ref a5])
    have z56 := y5.trans y6
    have z46 := y4.trans z56
    have z36 := y3.trans z46
    have z26 := y2.trans z36
    have z16 := y1.trans z26
    have aT : AllAt (StkAt _) [a1, a2, a3, a4, a5] [[7, 0, 0], [5, 1, 0], [3, 2, 0], [1, 3, 0], [1, 0, 2]] :=
      allAt_cons (z26 _ _ upd_same) (allAt_cons (z36 _ _ upd_same) (allAt_cons (z46 _ _ upd_same) (allAt_cons (z56 _ _ upd_same) (allAt_cons (y6 _ _ upd_same) AllAt.nil))))
    have lS : SeqAt.shaped (.list (([[7, 0, 0], [5, 1, 0], [3, 2, 0], [1, 3, 0], [1, 0, 2]] : List (List Int)).map stkD)) = true := (lay_list (k := 1) (f := stkD) fun q _ => (lay_ints q).tuple).shaped (by decide)
    refine ⟨_, _, .lst (SqL.of (z16 _ _ eD)) (dpAll_of (R := StkAt _) (f := stkD) (fun p q h => dp_tup h) (aS.imp fun p q h => z16 _ _ h)), .lst (SqL.of upd_same) (dpAll_of (R := StkAt _) (f := stkD) (fun p q h => dp_tup h) aT), lS, lS, _, rfl, ?_⟩
    rw [eqv_same lS]
    refine iteF ?_
    have e1 := u1.trans (n.trans z16)
    clear aT
    generalize L2.upd (L2.upd (L2.upd (L2.upd (L2.upd (L2.upd N a1 (.tup [.int 7, .int 0, .int 0])) a2 (.tup [.int 5, .int 1, .int 0])) a3 (.tup [.int 3, .int 2, .int 0])) a4 (.tup [.int 1, .int 3, .int 0])) a5 (.tup [.int 1, .int 0, .int 2])) La (.lst [.ref a1, .ref a2, .ref a3, .ref a4, .ref a5]) = B3 at e1 ⊢
    -- the first that is bad
    refine ⟨_, rfl, (by show 3 ≤ sizeLine; decide), fun s2 hs2 => ?_⟩
    have u2 := same_new hs2 (.tup [.int 7, .int 0, .int 0])
    have e2 := e1.trans u2
    refine ⟨_, rfl, z4, _, rfl, SqL.of (e2 _ _ f4), fun p8 h8 => ?_⟩
    have u8 := same_new h8 (.lst [.ref d2, .ref d1, .ref d1, .ref d1])
    have e8 := e2.trans u8
    have W5 : wayF bsH [7, 0, 0] [dD ("q", 1), dD ("p", 1), dD ("p", 1), dD ("p", 1)] = none := by decide +kernel
    have A5' : (alongD bsH [7, 0, 0] [dD ("q", 1), dD ("p", 1), dD ("p", 1), dD ("p", 1)]).length = 1 := by decide +kernel
    have D5 : ∀ {N : Hp}, Same B2 N → DqAll N [.ref d2, .ref d1, .ref d1, .ref d1] [dD ("q", 1), dD ("p", 1), dD ("p", 1), dD ("p", 1)] := fun e => .cons (dq1 e) (.cons (dp1 e) (.cons (dp1 e) (.cons (dp1 e) .nil)))
    refine .inl ⟨gsH, bsH, [7, 0, 0], _, x, s2, p8, [.ref d2, .ref d1, .ref d1, .ref d1], scr e8 (u8 _ _ upd_same) (.inl upd_same) (D5 e8) (by decide), (fun r q => by rw [W5] at q; cases q), fun _ N7 s7 => ?_⟩
    rw [A5']
    refine ⟨rfl, _, rfl, ?_⟩
    rw [show (((1 : Nat) : Int) - 1) = 0 from rfl, decide_eq_true rfl]
    refine iteF ?_
    have e9 := e8.trans s7
    refine ⟨_, rfl, (by show 3 ≤ sizeLine; decide), fun s3 hs3 => ⟨_, rfl, (by show 2 ≤ sizeLine; decide), fun d3 hd3 => ⟨(by show 1 ≤ sizeLine; decide), fun q3 hq3 _ => ?_⟩⟩⟩
    have m1 := same_new hs3 (.tup [.int 7, .int 0, .int 0])
    have m2 := same_new hd3 (.tup [.str "q", .int 1])
    have m3 := same_new hq3 (.lst [.ref d3])
    have m13 := m1.trans (m2.trans m3)
    refine ⟨z4, q3, _, _, rfl, rfl, m13 _ _ (e9 _ _ f4), upd_same, (by show 5 ≤ sizeLine; decide), fun p9 hp9 => ?_⟩
    have m4 := same_new hp9 (.lst ([.ref d1, .ref d1, .ref d1, .ref d2] ++ [.ref d3]))
    have e10 := e9.trans (m13.trans m4)
    have W6 : wayF bsH [7, 0, 0] [dD ("p", 1), dD ("p", 1), dD ("p", 1), dD ("q", 1), dD ("q", 1)] = none := by decide +kernel
    have A6 : (alongD bsH [7, 0, 0] [dD ("p", 1), dD ("p", 1), dD ("p", 1), dD ("q", 1), dD ("q", 1)]).length = 5 := by decide +kernel
    have d3d : Dq _ (.ref d3) (dD ("q", 1)) := .tup ((m3.trans m4) _ _ upd_same) (.cons (.str _) (.cons (.int _) .nil))
    refine .inl ⟨gsH, bsH, [7, 0, 0], _, x, s3, p9, [.ref d1, .ref d1, .ref d1, .ref d2, .ref d3], scr e10 ((m2.trans (m3.trans m4)) _ _ upd_same) (.inl upd_same) (.cons (dp1 e10) (.cons (dp1 e10) (.cons (dp1 e10) (.cons (dq1 e10) (.cons d3d .nil))))) (by decide), (fun r q => by rw [W6] at q; cases q), fun _ N8 s8 => ?_⟩
    rw [A6]
    refine ⟨rfl, _, rfl, ?_⟩
    rw [show (((5 : Nat) : Int) - 1) = 4 from rfl, decide_eq_true rfl]
    refine iteF ?_
    refine ⟨Nat.zero_le _, fun pa hpa _ => ⟨Nat.zero_le _, fun lb hlb _ x dx hx hdx ndx => ?_⟩⟩
    have sb := same_new hlb (.lst [])
    have ms := make_same (C := T.C_Book) hx hdx ndx
    refine ⟨x, pa, lb, dx, [], [], [], rfl, upd_same, ms _ _ (sb _ _ upd_same), ms _ _ upd_same, BrsAt.nil, goodE, fun B7 keep bk => ⟨rfl, ?_⟩⟩
    have bk7 := bk.book
    refine ⟨Nat.zero_le _, fun p7 hp7 => ⟨Nat.zero_le _, fun p8 hp8 _ => ?_⟩⟩
    have u7 := same_new hp7 (.tup [])
    have u8 := same_new hp8 (.lst [])
    refine ⟨[], [], [], [], x, p7, p8, [], ⟨rfl, bk7.same (u7.trans u8), goodE.bn, u8 _ _ upd_same, Nat.zero_le _, (fun _ h => nomatch h), .inl upd_same, .nil, Nat.zero_le _⟩, fun r q D ss N n hD eD aS => ?_, (fun q => nomatch q)⟩
    refine ⟨Nat.zero_le _, fun t9 ht9 => ⟨(by show 1 ≤ sizeLine; decide), fun L9 hL9 _ => ?_⟩⟩
    have w1 := same_new ht9 (.tup [])
    have w2 := same_new hL9 (.lst [.ref t9])
    have l1 : SeqAt.shaped (.list (([[]] : List (List Int)).map stkD)) = true := (lay_list (k := 1) (f := stkD) fun q _ => (lay_ints q).tuple).shaped (by decide)
    refine ⟨_, .list [.tuple []], .lst (SqL.of ((w1.trans w2) _ _ eD)) (dpAll_of (R := StkAt _) (f := stkD) (fun p q h => dp_tup h) (aS.imp fun p q h => (w1.trans w2) _ _ h)), .lst (SqL.of upd_same) (.cons (.tup (SqT.of (w2 _ _ upd_same)) .nil) .nil), l1, l1, ?_⟩
    rw [show (PyData.list ((alongD [] [] []).map stkD)).eqv (PyData.list [PyData.tuple []]) = true from eqv_same l1]
    refine ⟨_, rfl, iteT ?_⟩
    refine ⟨Nat.zero_le _, fun pa2 hpa2 _ => ⟨Nat.zero_le _, fun lb2 hlb2 _ x2 dx2 hx2 hdx2 ndx2 => ?_⟩⟩
    have sb2 := same_new hlb2 (.lst [])
    have ms2 := make_same (C := T.C_Book) hx2 hdx2 ndx2
    refine ⟨x2, pa2, lb2, dx2, [], [], [], rfl, upd_same, ms2 _ _ (sb2 _ _ upd_same), ms2 _ _ upd_same, BrsAt.nil, goodE, fun B8 keep2 bk2 => ⟨rfl, ?_⟩⟩
    have bk8 := bk2.book
    refine ⟨Nat.zero_le _, fun q7 hq7 => ⟨Nat.zero_le _, fun q8 hq8 => ?_⟩⟩
    have v7 := same_new hq7 (.tup [])
    have v8 := same_new hq8 (.tup [])
    refine ⟨[], [], [], [], x2, q7, q8, [], ⟨rfl, bk8.same (v7.trans v8), goodE.bn, v8 _ _ upd_same, Nat.zero_le _, (fun _ h => nomatch h), .inr upd_same, .nil, Nat.zero_le _⟩, fun r q D2 es N2 n2 hD2 eD2 aD2 => ?_, (fun q => nomatch q)⟩
    refine ⟨Nat.zero_le _, fun L8 hL8 _ => ?_⟩
    have w8 := same_new hL8 (.lst [])
    have ee : es = [] := by
      have := aD2.1
      exact List.length_eq_zero_iff.mp this
    rw [ee] at eD2
    refine ⟨.list [], .list [], .lst (SqL.of (w8 _ _ eD2)) .nil, .lst (SqL.of upd_same) .nil, by decide +kernel, by decide +kernel, ?_⟩
    exact k _
end
end My

namespace My
open PySem PySem.Spec PyProof.Rows L2
theorem tx_mk {K : PySem.W.Frag} {h : Heap} {mg : Str → Option Value} (X : K.In h) (G : h.Ns mainGlobals mg)
    {fa f_wall f_combined f_is_word f_is_integer f_is_enough f_stock_behind f_turned_deed f_stocks_along f_stocks_so_far f_walked f_script_back f_first_bad f_wrong_goods f_wrong_barters f_wrong_barter f_wrong_row f_is_mixed f_law_source f_law_pick f_law_of f_law_mixed f_law_names f_law_odd f_law_tree f_law_leaves f_law_forked f_law_made f_law_book f_law_any_row f_law_any_book f_law_plus f_law_row f_law_done f_law_deeds f_law_stock f_law_some_book f_law_drawn_stock f_law_is_deed f_law_near_deed f_law_number f_law_script f_law_right f_law_spoilt f_law : Addr}
    {od_wall an_wall od_combined an_combined od_is_word an_is_word od_is_integer an_is_integer od_is_enough an_is_enough od_stock_behind an_stock_behind od_turned_deed an_turned_deed od_stocks_along an_stocks_along od_stocks_so_far an_stocks_so_far od_walked an_walked od_script_back an_script_back od_first_bad an_first_bad od_wrong_goods an_wrong_goods od_wrong_barters an_wrong_barters od_wrong_barter an_wrong_barter od_wrong_row an_wrong_row od_is_mixed an_is_mixed od_law_source an_law_source od_law_pick an_law_pick od_law_of an_law_of od_law_mixed an_law_mixed od_law_names an_law_names od_law_odd an_law_odd od_law_tree an_law_tree od_law_leaves an_law_leaves od_law_forked an_law_forked od_law_made an_law_made od_law_book an_law_book od_law_any_row an_law_any_row od_law_any_book an_law_any_book od_law_plus an_law_plus od_law_row an_law_row od_law_done an_law_done od_law_deeds an_law_deeds od_law_stock an_law_stock od_law_some_book an_law_some_book od_law_drawn_stock an_law_drawn_stock od_law_is_deed an_law_is_deed od_law_near_deed an_law_near_deed od_law_number an_law_number od_law_script an_law_script od_law_right an_law_right od_law_spoilt an_law_spoilt od_law an_law : Option Addr}
    {sl_wall sl_combined sl_is_word sl_is_integer sl_is_enough sl_stock_behind sl_turned_deed sl_stocks_along sl_stocks_so_far sl_walked sl_script_back sl_first_bad sl_wrong_goods sl_wrong_barters sl_wrong_barter sl_wrong_row sl_is_mixed sl_law_source sl_law_pick sl_law_of sl_law_mixed sl_law_names sl_law_odd sl_law_tree sl_law_leaves sl_law_forked sl_law_made sl_law_book sl_law_any_row sl_law_any_book sl_law_plus sl_law_row sl_law_done sl_law_deeds sl_law_stock sl_law_some_book sl_law_drawn_stock sl_law_is_deed sl_law_near_deed sl_law_number sl_law_script sl_law_right sl_law_spoilt sl_law : Array (Option Value)}
    {oc_wall kV_wall dc_wall pm_wall cd_wall ct_wall oc_combined kV_combined dc_combined pm_combined cd_combined ct_combined oc_is_word kV_is_word dc_is_word pm_is_word cd_is_word ct_is_word oc_is_integer kV_is_integer dc_is_integer pm_is_integer cd_is_integer ct_is_integer oc_is_enough kV_is_enough dc_is_enough pm_is_enough cd_is_enough ct_is_enough oc_stock_behind kV_stock_behind dc_stock_behind pm_stock_behind cd_stock_behind ct_stock_behind oc_turned_deed kV_turned_deed dc_turned_deed pm_turned_deed cd_turned_deed ct_turned_deed oc_stocks_along kV_stocks_along dc_stocks_along pm_stocks_along cd_stocks_along ct_stocks_along oc_stocks_so_far kV_stocks_so_far dc_stocks_so_far pm_stocks_so_far cd_stocks_so_far ct_stocks_so_far oc_walked kV_walked dc_walked pm_walked cd_walked ct_walked oc_script_back kV_script_back dc_script_back pm_script_back cd_script_back ct_script_back oc_first_bad kV_first_bad dc_first_bad pm_first_bad cd_first_bad ct_first_bad oc_wrong_goods kV_wrong_goods dc_wrong_goods pm_wrong_goods cd_wrong_goods ct_wrong_goods oc_wrong_barters kV_wrong_barters dc_wrong_barters pm_wrong_barters cd_wrong_barters ct_wrong_barters oc_wrong_barter kV_wrong_barter dc_wrong_barter pm_wrong_barter cd_wrong_barter ct_wrong_barter oc_wrong_row kV_wrong_row dc_wrong_row pm_wrong_row cd_wrong_row ct_wrong_row oc_is_mixed kV_is_mixed dc_is_mixed pm_is_mixed cd_is_mixed ct_is_mixed oc_law_source kV_law_source dc_law_source pm_law_source cd_law_source ct_law_source oc_law_pick kV_law_pick dc_law_pick pm_law_pick cd_law_pick ct_law_pick oc_law_of kV_law_of dc_law_of pm_law_of cd_law_of ct_law_of oc_law_mixed kV_law_mixed dc_law_mixed pm_law_mixed cd_law_mixed ct_law_mixed oc_law_names kV_law_names dc_law_names pm_law_names cd_law_names ct_law_names oc_law_odd kV_law_odd dc_law_odd pm_law_odd cd_law_odd ct_law_odd oc_law_tree kV_law_tree dc_law_tree pm_law_tree cd_law_tree ct_law_tree oc_law_leaves kV_law_leaves dc_law_leaves pm_law_leaves cd_law_leaves ct_law_leaves oc_law_forked kV_law_forked dc_law_forked pm_law_forked cd_law_forked ct_law_forked oc_law_made kV_law_made dc_law_made pm_law_made cd_law_made ct_law_made oc_law_book kV_law_book dc_law_book pm_law_book cd_law_book ct_law_book oc_law_any_row kV_law_any_row dc_law_any_row pm_law_any_row cd_law_any_row ct_law_any_row oc_law_any_book kV_law_any_book dc_law_any_book pm_law_any_book cd_law_any_book ct_law_any_book oc_law_plus kV_law_plus dc_law_plus pm_law_plus cd_law_plus ct_law_plus oc_law_row kV_law_row dc_law_row pm_law_row cd_law_row ct_law_row oc_law_done kV_law_done dc_law_done pm_law_done cd_law_done ct_law_done oc_law_deeds kV_law_deeds dc_law_deeds pm_law_deeds cd_law_deeds ct_law_deeds oc_law_stock kV_law_stock dc_law_stock pm_law_stock cd_law_stock ct_law_stock oc_law_some_book kV_law_some_book dc_law_some_book pm_law_some_book cd_law_some_book ct_law_some_book oc_law_drawn_stock kV_law_drawn_stock dc_law_drawn_stock pm_law_drawn_stock cd_law_drawn_stock ct_law_drawn_stock oc_law_is_deed kV_law_is_deed dc_law_is_deed pm_law_is_deed cd_law_is_deed ct_law_is_deed oc_law_near_deed kV_law_near_deed dc_law_near_deed pm_law_near_deed cd_law_near_deed ct_law_near_deed oc_law_number kV_law_number dc_law_number pm_law_number cd_law_number ct_law_number oc_law_script kV_law_script dc_law_script pm_law_script cd_law_script ct_law_script oc_law_right kV_law_right dc_law_right pm_law_right cd_law_right ct_law_right oc_law_spoilt kV_law_spoilt dc_law_spoilt pm_law_spoilt cd_law_spoilt ct_law_spoilt oc_law kV_law dc_law pm_law ct_law : Value}
    {c0_law : Addr}
    {C_Book : Addr}
    {f_Book_init : Addr} {od_Book_init an_Book_init : Option Addr} {sl_Book_init : Array (Option Value)} {oc_Book_init kV_Book_init dc_Book_init pm_Book_init cd_Book_init ct_Book_init : Value}
    {f_Book_names : Addr} {od_Book_names an_Book_names : Option Addr} {sl_Book_names : Array (Option Value)} {oc_Book_names kV_Book_names dc_Book_names pm_Book_names cd_Book_names ct_Book_names : Value}
    {f_Book_barters : Addr} {od_Book_barters an_Book_barters : Option Addr} {sl_Book_barters : Array (Option Value)} {oc_Book_barters kV_Book_barters dc_Book_barters pm_Book_barters cd_Book_barters ct_Book_barters : Value}
    {f_Book_row : Addr} {od_Book_row an_Book_row : Option Addr} {sl_Book_row : Array (Option Value)} {oc_Book_row kV_Book_row dc_Book_row pm_Book_row cd_Book_row ct_Book_row : Value}
    {f_Book_barter_number : Addr} {od_Book_barter_number an_Book_barter_number : Option Addr} {sl_Book_barter_number : Array (Option Value)} {oc_Book_barter_number kV_Book_barter_number dc_Book_barter_number pm_Book_barter_number cd_Book_barter_number ct_Book_barter_number : Value}
    {f_Book_has_barter : Addr} {od_Book_has_barter an_Book_has_barter : Option Addr} {sl_Book_has_barter : Array (Option Value)} {oc_Book_has_barter kV_Book_has_barter dc_Book_has_barter pm_Book_has_barter cd_Book_has_barter ct_Book_has_barter : Value}
    {C_BadDeed N_BadDeed fi_BadDeed CB0_BadDeed : Addr} {nm_BadDeed q_BadDeed : Str} {bs_BadDeed sub_BadDeed : List Value} {sn_BadDeed : List Str} {ab_BadDeed : Bool} {col_BadDeed : Option Bool} {dd_BadDeed odi_BadDeed ani_BadDeed : Option Addr} {m0_BadDeed m1_BadDeed m2_BadDeed m3_BadDeed m5_BadDeed : Option Value} {sli_BadDeed : Array (Option Value)} {oci_BadDeed kVi_BadDeed dci_BadDeed pmi_BadDeed cdi_BadDeed cti_BadDeed : Value} (hfa : mg "law" = some (.ref fa))
    (a_wall : PySem.W.nsIn K mainGlobals "_wall" = some (some (.ref f_wall))) (l_wall : K.lookup f_wall = some ⟨oc_wall, od_wall, .func (PySem.W.fnOf "_wall" "_wall" (defArgs s_wall) (defBody s_wall) (defScope s_wall) .none kV_wall dc_wall pm_wall an_wall cd_wall ct_wall), sl_wall⟩) (c_wall : PySem.W.codeIn K cd_wall "_wall" = true) (k_wall : PySem.W.keepIn K (.ref f_wall) = true)
    (a_combined : PySem.W.nsIn K mainGlobals "combined" = some (some (.ref f_combined))) (l_combined : K.lookup f_combined = some ⟨oc_combined, od_combined, .func (PySem.W.fnOf "combined" "combined" (defArgs s_combined) (defBody s_combined) (defScope s_combined) .none kV_combined dc_combined pm_combined an_combined cd_combined ct_combined), sl_combined⟩) (c_combined : PySem.W.codeIn K cd_combined "combined" = true) (k_combined : PySem.W.keepIn K (.ref f_combined) = true)
    (a_is_word : PySem.W.nsIn K mainGlobals "is_word" = some (some (.ref f_is_word))) (l_is_word : K.lookup f_is_word = some ⟨oc_is_word, od_is_word, .func (PySem.W.fnOf "is_word" "is_word" (defArgs s_is_word) (defBody s_is_word) (defScope s_is_word) .none kV_is_word dc_is_word pm_is_word an_is_word cd_is_word ct_is_word), sl_is_word⟩) (c_is_word : PySem.W.codeIn K cd_is_word "is_word" = true) (k_is_word : PySem.W.keepIn K (.ref f_is_word) = true)
    (a_is_integer : PySem.W.nsIn K mainGlobals "is_integer" = some (some (.ref f_is_integer))) (l_is_integer : K.lookup f_is_integer = some ⟨oc_is_integer, od_is_integer, .func (PySem.W.fnOf "is_integer" "is_integer" (defArgs s_is_integer) (defBody s_is_integer) (defScope s_is_integer) .none kV_is_integer dc_is_integer pm_is_integer an_is_integer cd_is_integer ct_is_integer), sl_is_integer⟩) (c_is_integer : PySem.W.codeIn K cd_is_integer "is_integer" = true) (k_is_integer : PySem.W.keepIn K (.ref f_is_integer) = true)
    (a_is_enough : PySem.W.nsIn K mainGlobals "is_enough" = some (some (.ref f_is_enough))) (l_is_enough : K.lookup f_is_enough = some ⟨oc_is_enough, od_is_enough, .func (PySem.W.fnOf "is_enough" "is_enough" (defArgs s_is_enough) (defBody s_is_enough) (defScope s_is_enough) .none kV_is_enough dc_is_enough pm_is_enough an_is_enough cd_is_enough ct_is_enough), sl_is_enough⟩) (c_is_enough : PySem.W.codeIn K cd_is_enough "is_enough" = true) (k_is_enough : PySem.W.keepIn K (.ref f_is_enough) = true)
    (a_stock_behind : PySem.W.nsIn K mainGlobals "stock_behind" = some (some (.ref f_stock_behind))) (l_stock_behind : K.lookup f_stock_behind = some ⟨oc_stock_behind, od_stock_behind, .func (PySem.W.fnOf "stock_behind" "stock_behind" (defArgs s_stock_behind) (defBody s_stock_behind) (defScope s_stock_behind) .none kV_stock_behind dc_stock_behind pm_stock_behind an_stock_behind cd_stock_behind ct_stock_behind), sl_stock_behind⟩) (c_stock_behind : PySem.W.codeIn K cd_stock_behind "stock_behind" = true) (k_stock_behind : PySem.W.keepIn K (.ref f_stock_behind) = true)
    (a_turned_deed : PySem.W.nsIn K mainGlobals "turned_deed" = some (some (.ref f_turned_deed))) (l_turned_deed : K.lookup f_turned_deed = some ⟨oc_turned_deed, od_turned_deed, .func (PySem.W.fnOf "turned_deed" "turned_deed" (defArgs s_turned_deed) (defBody s_turned_deed) (defScope s_turned_deed) .none kV_turned_deed dc_turned_deed pm_turned_deed an_turned_deed cd_turned_deed ct_turned_deed), sl_turned_deed⟩) (c_turned_deed : PySem.W.codeIn K cd_turned_deed "turned_deed" = true) (k_turned_deed : PySem.W.keepIn K (.ref f_turned_deed) = true)
    (a_stocks_along : PySem.W.nsIn K mainGlobals "stocks_along" = some (some (.ref f_stocks_along))) (l_stocks_along : K.lookup f_stocks_along = some ⟨oc_stocks_along, od_stocks_along, .func (PySem.W.fnOf "stocks_along" "stocks_along" (defArgs s_stocks_along) (defBody s_stocks_along) (defScope s_stocks_along) .none kV_stocks_along dc_stocks_along pm_stocks_along an_stocks_along cd_stocks_along ct_stocks_along), sl_stocks_along⟩) (c_stocks_along : PySem.W.codeIn K cd_stocks_along "stocks_along" = true) (k_stocks_along : PySem.W.keepIn K (.ref f_stocks_along) = true)
    (a_stocks_so_far : PySem.W.nsIn K mainGlobals "stocks_so_far" = some (some (.ref f_stocks_so_far))) (l_stocks_so_far : K.lookup f_stocks_so_far = some ⟨oc_stocks_so_far, od_stocks_so_far, .func (PySem.W.fnOf "stocks_so_far" "stocks_so_far" (defArgs s_stocks_so_far) (defBody s_stocks_so_far) (defScope s_stocks_so_far) .none kV_stocks_so_far dc_stocks_so_far pm_stocks_so_far an_stocks_so_far cd_stocks_so_far ct_stocks_so_far), sl_stocks_so_far⟩) (c_stocks_so_far : PySem.W.codeIn K cd_stocks_so_far "stocks_so_far" = true) (k_stocks_so_far : PySem.W.keepIn K (.ref f_stocks_so_far) = true)
    (a_walked : PySem.W.nsIn K mainGlobals "walked" = some (some (.ref f_walked))) (l_walked : K.lookup f_walked = some ⟨oc_walked, od_walked, .func (PySem.W.fnOf "walked" "walked" (defArgs s_walked) (defBody s_walked) (defScope s_walked) .none kV_walked dc_walked pm_walked an_walked cd_walked ct_walked), sl_walked⟩) (c_walked : PySem.W.codeIn K cd_walked "walked" = true) (k_walked : PySem.W.keepIn K (.ref f_walked) = true)
    (a_script_back : PySem.W.nsIn K mainGlobals "script_back" = some (some (.ref f_script_back))) (l_script_back : K.lookup f_script_back = some ⟨oc_script_back, od_script_back, .func (PySem.W.fnOf "script_back" "script_back" (defArgs s_script_back) (defBody s_script_back) (defScope s_script_back) .none kV_script_back dc_script_back pm_script_back an_script_back cd_script_back ct_script_back), sl_script_back⟩) (c_script_back : PySem.W.codeIn K cd_script_back "script_back" = true) (k_script_back : PySem.W.keepIn K (.ref f_script_back) = true)
    (a_first_bad : PySem.W.nsIn K mainGlobals "first_bad" = some (some (.ref f_first_bad))) (l_first_bad : K.lookup f_first_bad = some ⟨oc_first_bad, od_first_bad, .func (PySem.W.fnOf "first_bad" "first_bad" (defArgs s_first_bad) (defBody s_first_bad) (defScope s_first_bad) .none kV_first_bad dc_first_bad pm_first_bad an_first_bad cd_first_bad ct_first_bad), sl_first_bad⟩) (c_first_bad : PySem.W.codeIn K cd_first_bad "first_bad" = true) (k_first_bad : PySem.W.keepIn K (.ref f_first_bad) = true)
    (a_wrong_goods : PySem.W.nsIn K mainGlobals "wrong_goods" = some (some (.ref f_wrong_goods))) (l_wrong_goods : K.lookup f_wrong_goods = some ⟨oc_wrong_goods, od_wrong_goods, .func (PySem.W.fnOf "wrong_goods" "wrong_goods" (defArgs s_wrong_goods) (defBody s_wrong_goods) (defScope s_wrong_goods) .none kV_wrong_goods dc_wrong_goods pm_wrong_goods an_wrong_goods cd_wrong_goods ct_wrong_goods), sl_wrong_goods⟩) (c_wrong_goods : PySem.W.codeIn K cd_wrong_goods "wrong_goods" = true) (k_wrong_goods : PySem.W.keepIn K (.ref f_wrong_goods) = true)
    (a_wrong_barters : PySem.W.nsIn K mainGlobals "wrong_barters" = some (some (.ref f_wrong_barters))) (l_wrong_barters : K.lookup f_wrong_barters = some ⟨oc_wrong_barters, od_wrong_barters, .func (PySem.W.fnOf "wrong_barters" "wrong_barters" (defArgs s_wrong_barters) (defBody s_wrong_barters) (defScope s_wrong_barters) .none kV_wrong_barters dc_wrong_barters pm_wrong_barters an_wrong_barters cd_wrong_barters ct_wrong_barters), sl_wrong_barters⟩) (c_wrong_barters : PySem.W.codeIn K cd_wrong_barters "wrong_barters" = true) (k_wrong_barters : PySem.W.keepIn K (.ref f_wrong_barters) = true)
    (a_wrong_barter : PySem.W.nsIn K mainGlobals "wrong_barter" = some (some (.ref f_wrong_barter))) (l_wrong_barter : K.lookup f_wrong_barter = some ⟨oc_wrong_barter, od_wrong_barter, .func (PySem.W.fnOf "wrong_barter" "wrong_barter" (defArgs s_wrong_barter) (defBody s_wrong_barter) (defScope s_wrong_barter) .none kV_wrong_barter dc_wrong_barter pm_wrong_barter an_wrong_barter cd_wrong_barter ct_wrong_barter), sl_wrong_barter⟩) (c_wrong_barter : PySem.W.codeIn K cd_wrong_barter "wrong_barter" = true) (k_wrong_barter : PySem.W.keepIn K (.ref f_wrong_barter) = true)
    (a_wrong_row : PySem.W.nsIn K mainGlobals "wrong_row" = some (some (.ref f_wrong_row))) (l_wrong_row : K.lookup f_wrong_row = some ⟨oc_wrong_row, od_wrong_row, .func (PySem.W.fnOf "wrong_row" "wrong_row" (defArgs s_wrong_row) (defBody s_wrong_row) (defScope s_wrong_row) .none kV_wrong_row dc_wrong_row pm_wrong_row an_wrong_row cd_wrong_row ct_wrong_row), sl_wrong_row⟩) (c_wrong_row : PySem.W.codeIn K cd_wrong_row "wrong_row" = true) (k_wrong_row : PySem.W.keepIn K (.ref f_wrong_row) = true)
    (a_is_mixed : PySem.W.nsIn K mainGlobals "is_mixed" = some (some (.ref f_is_mixed))) (l_is_mixed : K.lookup f_is_mixed = some ⟨oc_is_mixed, od_is_mixed, .func (PySem.W.fnOf "is_mixed" "is_mixed" (defArgs s_is_mixed) (defBody s_is_mixed) (defScope s_is_mixed) .none kV_is_mixed dc_is_mixed pm_is_mixed an_is_mixed cd_is_mixed ct_is_mixed), sl_is_mixed⟩) (c_is_mixed : PySem.W.codeIn K cd_is_mixed "is_mixed" = true) (k_is_mixed : PySem.W.keepIn K (.ref f_is_mixed) = true)
    (a_law_source : PySem.W.nsIn K mainGlobals "_law_source" = some (some (.ref f_law_source))) (l_law_source : K.lookup f_law_source = some ⟨oc_law_source, od_law_source, .func (PySem.W.fnOf "_law_source" "_law_source" (defArgs s_law_source) (defBody s_law_source) (defScope s_law_source) .none kV_law_source dc_law_source pm_law_source an_law_source cd_law_source ct_law_source), sl_law_source⟩) (c_law_source : PySem.W.codeIn K cd_law_source "_law_source" = true) (k_law_source : PySem.W.keepIn K (.ref f_law_source) = true)
    (a_law_pick : PySem.W.nsIn K mainGlobals "_law_pick" = some (some (.ref f_law_pick))) (l_law_pick : K.lookup f_law_pick = some ⟨oc_law_pick, od_law_pick, .func (PySem.W.fnOf "_law_pick" "_law_pick" (defArgs s_law_pick) (defBody s_law_pick) (defScope s_law_pick) .none kV_law_pick dc_law_pick pm_law_pick an_law_pick cd_law_pick ct_law_pick), sl_law_pick⟩) (c_law_pick : PySem.W.codeIn K cd_law_pick "_law_pick" = true) (k_law_pick : PySem.W.keepIn K (.ref f_law_pick) = true)
    (a_law_of : PySem.W.nsIn K mainGlobals "_law_of" = some (some (.ref f_law_of))) (l_law_of : K.lookup f_law_of = some ⟨oc_law_of, od_law_of, .func (PySem.W.fnOf "_law_of" "_law_of" (defArgs s_law_of) (defBody s_law_of) (defScope s_law_of) .none kV_law_of dc_law_of pm_law_of an_law_of cd_law_of ct_law_of), sl_law_of⟩) (c_law_of : PySem.W.codeIn K cd_law_of "_law_of" = true) (k_law_of : PySem.W.keepIn K (.ref f_law_of) = true)
    (a_law_mixed : PySem.W.nsIn K mainGlobals "_law_mixed" = some (some (.ref f_law_mixed))) (l_law_mixed : K.lookup f_law_mixed = some ⟨oc_law_mixed, od_law_mixed, .func (PySem.W.fnOf "_law_mixed" "_law_mixed" (defArgs s_law_mixed) (defBody s_law_mixed) (defScope s_law_mixed) .none kV_law_mixed dc_law_mixed pm_law_mixed an_law_mixed cd_law_mixed ct_law_mixed), sl_law_mixed⟩) (c_law_mixed : PySem.W.codeIn K cd_law_mixed "_law_mixed" = true) (k_law_mixed : PySem.W.keepIn K (.ref f_law_mixed) = true)
    (a_law_names : PySem.W.nsIn K mainGlobals "_law_names" = some (some (.ref f_law_names))) (l_law_names : K.lookup f_law_names = some ⟨oc_law_names, od_law_names, .func (PySem.W.fnOf "_law_names" "_law_names" (defArgs s_law_names) (defBody s_law_names) (defScope s_law_names) .none kV_law_names dc_law_names pm_law_names an_law_names cd_law_names ct_law_names), sl_law_names⟩) (c_law_names : PySem.W.codeIn K cd_law_names "_law_names" = true) (k_law_names : PySem.W.keepIn K (.ref f_law_names) = true)
    (a_law_odd : PySem.W.nsIn K mainGlobals "_law_odd" = some (some (.ref f_law_odd))) (l_law_odd : K.lookup f_law_odd = some ⟨oc_law_odd, od_law_odd, .func (PySem.W.fnOf "_law_odd" "_law_odd" (defArgs s_law_odd) (defBody s_law_odd) (defScope s_law_odd) .none kV_law_odd dc_law_odd pm_law_odd an_law_odd cd_law_odd ct_law_odd), sl_law_odd⟩) (c_law_odd : PySem.W.codeIn K cd_law_odd "_law_odd" = true) (k_law_odd : PySem.W.keepIn K (.ref f_law_odd) = true)
    (a_law_tree : PySem.W.nsIn K mainGlobals "_law_tree" = some (some (.ref f_law_tree))) (l_law_tree : K.lookup f_law_tree = some ⟨oc_law_tree, od_law_tree, .func (PySem.W.fnOf "_law_tree" "_law_tree" (defArgs s_law_tree) (defBody s_law_tree) (defScope s_law_tree) .none kV_law_tree dc_law_tree pm_law_tree an_law_tree cd_law_tree ct_law_tree), sl_law_tree⟩) (c_law_tree : PySem.W.codeIn K cd_law_tree "_law_tree" = true) (k_law_tree : PySem.W.keepIn K (.ref f_law_tree) = true)
    (a_law_leaves : PySem.W.nsIn K mainGlobals "_law_leaves" = some (some (.ref f_law_leaves))) (l_law_leaves : K.lookup f_law_leaves = some ⟨oc_law_leaves, od_law_leaves, .func (PySem.W.fnOf "_law_leaves" "_law_leaves" (defArgs s_law_leaves) (defBody s_law_leaves) (defScope s_law_leaves) .none kV_law_leaves dc_law_leaves pm_law_leaves an_law_leaves cd_law_leaves ct_law_leaves), sl_law_leaves⟩) (c_law_leaves : PySem.W.codeIn K cd_law_leaves "_law_leaves" = true) (k_law_leaves : PySem.W.keepIn K (.ref f_law_leaves) = true)
    (a_law_forked : PySem.W.nsIn K mainGlobals "_law_forked" = some (some (.ref f_law_forked))) (l_law_forked : K.lookup f_law_forked = some ⟨oc_law_forked, od_law_forked, .func (PySem.W.fnOf "_law_forked" "_law_forked" (defArgs s_law_forked) (defBody s_law_forked) (defScope s_law_forked) .none kV_law_forked dc_law_forked pm_law_forked an_law_forked cd_law_forked ct_law_forked), sl_law_forked⟩) (c_law_forked : PySem.W.codeIn K cd_law_forked "_law_forked" = true) (k_law_forked : PySem.W.keepIn K (.ref f_law_forked) = true)
    (a_law_made : PySem.W.nsIn K mainGlobals "_law_made" = some (some (.ref f_law_made))) (l_law_made : K.lookup f_law_made = some ⟨oc_law_made, od_law_made, .func (PySem.W.fnOf "_law_made" "_law_made" (defArgs s_law_made) (defBody s_law_made) (defScope s_law_made) .none kV_law_made dc_law_made pm_law_made an_law_made cd_law_made ct_law_made), sl_law_made⟩) (c_law_made : PySem.W.codeIn K cd_law_made "_law_made" = true) (k_law_made : PySem.W.keepIn K (.ref f_law_made) = true)
    (a_law_book : PySem.W.nsIn K mainGlobals "_law_book" = some (some (.ref f_law_book))) (l_law_book : K.lookup f_law_book = some ⟨oc_law_book, od_law_book, .func (PySem.W.fnOf "_law_book" "_law_book" (defArgs s_law_book) (defBody s_law_book) (defScope s_law_book) .none kV_law_book dc_law_book pm_law_book an_law_book cd_law_book ct_law_book), sl_law_book⟩) (c_law_book : PySem.W.codeIn K cd_law_book "_law_book" = true) (k_law_book : PySem.W.keepIn K (.ref f_law_book) = true)
    (a_law_any_row : PySem.W.nsIn K mainGlobals "_law_any_row" = some (some (.ref f_law_any_row))) (l_law_any_row : K.lookup f_law_any_row = some ⟨oc_law_any_row, od_law_any_row, .func (PySem.W.fnOf "_law_any_row" "_law_any_row" (defArgs s_law_any_row) (defBody s_law_any_row) (defScope s_law_any_row) .none kV_law_any_row dc_law_any_row pm_law_any_row an_law_any_row cd_law_any_row ct_law_any_row), sl_law_any_row⟩) (c_law_any_row : PySem.W.codeIn K cd_law_any_row "_law_any_row" = true) (k_law_any_row : PySem.W.keepIn K (.ref f_law_any_row) = true)
    (a_law_any_book : PySem.W.nsIn K mainGlobals "_law_any_book" = some (some (.ref f_law_any_book))) (l_law_any_book : K.lookup f_law_any_book = some ⟨oc_law_any_book, od_law_any_book, .func (PySem.W.fnOf "_law_any_book" "_law_any_book" (defArgs s_law_any_book) (defBody s_law_any_book) (defScope s_law_any_book) .none kV_law_any_book dc_law_any_book pm_law_any_book an_law_any_book cd_law_any_book ct_law_any_book), sl_law_any_book⟩) (c_law_any_book : PySem.W.codeIn K cd_law_any_book "_law_any_book" = true) (k_law_any_book : PySem.W.keepIn K (.ref f_law_any_book) = true)
    (a_law_plus : PySem.W.nsIn K mainGlobals "_law_plus" = some (some (.ref f_law_plus))) (l_law_plus : K.lookup f_law_plus = some ⟨oc_law_plus, od_law_plus, .func (PySem.W.fnOf "_law_plus" "_law_plus" (defArgs s_law_plus) (defBody s_law_plus) (defScope s_law_plus) .none kV_law_plus dc_law_plus pm_law_plus an_law_plus cd_law_plus ct_law_plus), sl_law_plus⟩) (c_law_plus : PySem.W.codeIn K cd_law_plus "_law_plus" = true) (k_law_plus : PySem.W.keepIn K (.ref f_law_plus) = true)
    (a_law_row : PySem.W.nsIn K mainGlobals "_law_row" = some (some (.ref f_law_row))) (l_law_row : K.lookup f_law_row = some ⟨oc_law_row, od_law_row, .func (PySem.W.fnOf "_law_row" "_law_row" (defArgs s_law_row) (defBody s_law_row) (defScope s_law_row) .none kV_law_row dc_law_row pm_law_row an_law_row cd_law_row ct_law_row), sl_law_row⟩) (c_law_row : PySem.W.codeIn K cd_law_row "_law_row" = true) (k_law_row : PySem.W.keepIn K (.ref f_law_row) = true)
    (a_law_done : PySem.W.nsIn K mainGlobals "_law_done" = some (some (.ref f_law_done))) (l_law_done : K.lookup f_law_done = some ⟨oc_law_done, od_law_done, .func (PySem.W.fnOf "_law_done" "_law_done" (defArgs s_law_done) (defBody s_law_done) (defScope s_law_done) .none kV_law_done dc_law_done pm_law_done an_law_done cd_law_done ct_law_done), sl_law_done⟩) (c_law_done : PySem.W.codeIn K cd_law_done "_law_done" = true) (k_law_done : PySem.W.keepIn K (.ref f_law_done) = true)
    (a_law_deeds : PySem.W.nsIn K mainGlobals "_law_deeds" = some (some (.ref f_law_deeds))) (l_law_deeds : K.lookup f_law_deeds = some ⟨oc_law_deeds, od_law_deeds, .func (PySem.W.fnOf "_law_deeds" "_law_deeds" (defArgs s_law_deeds) (defBody s_law_deeds) (defScope s_law_deeds) .none kV_law_deeds dc_law_deeds pm_law_deeds an_law_deeds cd_law_deeds ct_law_deeds), sl_law_deeds⟩) (c_law_deeds : PySem.W.codeIn K cd_law_deeds "_law_deeds" = true) (k_law_deeds : PySem.W.keepIn K (.ref f_law_deeds) = true)
    (a_law_stock : PySem.W.nsIn K mainGlobals "_law_stock" = some (some (.ref f_law_stock))) (l_law_stock : K.lookup f_law_stock = some ⟨oc_law_stock, od_law_stock, .func (PySem.W.fnOf "_law_stock" "_law_stock" (defArgs s_law_stock) (defBody s_law_stock) (defScope s_law_stock) .none kV_law_stock dc_law_stock pm_law_stock an_law_stock cd_law_stock ct_law_stock), sl_law_stock⟩) (c_law_stock : PySem.W.codeIn K cd_law_stock "_law_stock" = true) (k_law_stock : PySem.W.keepIn K (.ref f_law_stock) = true)
    (a_law_some_book : PySem.W.nsIn K mainGlobals "_law_some_book" = some (some (.ref f_law_some_book))) (l_law_some_book : K.lookup f_law_some_book = some ⟨oc_law_some_book, od_law_some_book, .func (PySem.W.fnOf "_law_some_book" "_law_some_book" (defArgs s_law_some_book) (defBody s_law_some_book) (defScope s_law_some_book) .none kV_law_some_book dc_law_some_book pm_law_some_book an_law_some_book cd_law_some_book ct_law_some_book), sl_law_some_book⟩) (c_law_some_book : PySem.W.codeIn K cd_law_some_book "_law_some_book" = true) (k_law_some_book : PySem.W.keepIn K (.ref f_law_some_book) = true)
    (a_law_drawn_stock : PySem.W.nsIn K mainGlobals "_law_drawn_stock" = some (some (.ref f_law_drawn_stock))) (l_law_drawn_stock : K.lookup f_law_drawn_stock = some ⟨oc_law_drawn_stock, od_law_drawn_stock, .func (PySem.W.fnOf "_law_drawn_stock" "_law_drawn_stock" (defArgs s_law_drawn_stock) (defBody s_law_drawn_stock) (defScope s_law_drawn_stock) .none kV_law_drawn_stock dc_law_drawn_stock pm_law_drawn_stock an_law_drawn_stock cd_law_drawn_stock ct_law_drawn_stock), sl_law_drawn_stock⟩) (c_law_drawn_stock : PySem.W.codeIn K cd_law_drawn_stock "_law_drawn_stock" = true) (k_law_drawn_stock : PySem.W.keepIn K (.ref f_law_drawn_stock) = true)
    (a_law_is_deed : PySem.W.nsIn K mainGlobals "_law_is_deed" = some (some (.ref f_law_is_deed))) (l_law_is_deed : K.lookup f_law_is_deed = some ⟨oc_law_is_deed, od_law_is_deed, .func (PySem.W.fnOf "_law_is_deed" "_law_is_deed" (defArgs s_law_is_deed) (defBody s_law_is_deed) (defScope s_law_is_deed) .none kV_law_is_deed dc_law_is_deed pm_law_is_deed an_law_is_deed cd_law_is_deed ct_law_is_deed), sl_law_is_deed⟩) (c_law_is_deed : PySem.W.codeIn K cd_law_is_deed "_law_is_deed" = true) (k_law_is_deed : PySem.W.keepIn K (.ref f_law_is_deed) = true)
    (a_law_near_deed : PySem.W.nsIn K mainGlobals "_law_near_deed" = some (some (.ref f_law_near_deed))) (l_law_near_deed : K.lookup f_law_near_deed = some ⟨oc_law_near_deed, od_law_near_deed, .func (PySem.W.fnOf "_law_near_deed" "_law_near_deed" (defArgs s_law_near_deed) (defBody s_law_near_deed) (defScope s_law_near_deed) .none kV_law_near_deed dc_law_near_deed pm_law_near_deed an_law_near_deed cd_law_near_deed ct_law_near_deed), sl_law_near_deed⟩) (c_law_near_deed : PySem.W.codeIn K cd_law_near_deed "_law_near_deed" = true) (k_law_near_deed : PySem.W.keepIn K (.ref f_law_near_deed) = true)
    (a_law_number : PySem.W.nsIn K mainGlobals "_law_number" = some (some (.ref f_law_number))) (l_law_number : K.lookup f_law_number = some ⟨oc_law_number, od_law_number, .func (PySem.W.fnOf "_law_number" "_law_number" (defArgs s_law_number) (defBody s_law_number) (defScope s_law_number) .none kV_law_number dc_law_number pm_law_number an_law_number cd_law_number ct_law_number), sl_law_number⟩) (c_law_number : PySem.W.codeIn K cd_law_number "_law_number" = true) (k_law_number : PySem.W.keepIn K (.ref f_law_number) = true)
    (a_law_script : PySem.W.nsIn K mainGlobals "_law_script" = some (some (.ref f_law_script))) (l_law_script : K.lookup f_law_script = some ⟨oc_law_script, od_law_script, .func (PySem.W.fnOf "_law_script" "_law_script" (defArgs s_law_script) (defBody s_law_script) (defScope s_law_script) .none kV_law_script dc_law_script pm_law_script an_law_script cd_law_script ct_law_script), sl_law_script⟩) (c_law_script : PySem.W.codeIn K cd_law_script "_law_script" = true) (k_law_script : PySem.W.keepIn K (.ref f_law_script) = true)
    (a_law_right : PySem.W.nsIn K mainGlobals "_law_right" = some (some (.ref f_law_right))) (l_law_right : K.lookup f_law_right = some ⟨oc_law_right, od_law_right, .func (PySem.W.fnOf "_law_right" "_law_right" (defArgs s_law_right) (defBody s_law_right) (defScope s_law_right) .none kV_law_right dc_law_right pm_law_right an_law_right cd_law_right ct_law_right), sl_law_right⟩) (c_law_right : PySem.W.codeIn K cd_law_right "_law_right" = true) (k_law_right : PySem.W.keepIn K (.ref f_law_right) = true)
    (a_law_spoilt : PySem.W.nsIn K mainGlobals "_law_spoilt" = some (some (.ref f_law_spoilt))) (l_law_spoilt : K.lookup f_law_spoilt = some ⟨oc_law_spoilt, od_law_spoilt, .func (PySem.W.fnOf "_law_spoilt" "_law_spoilt" (defArgs s_law_spoilt) (defBody s_law_spoilt) (defScope s_law_spoilt) .none kV_law_spoilt dc_law_spoilt pm_law_spoilt an_law_spoilt cd_law_spoilt ct_law_spoilt), sl_law_spoilt⟩) (c_law_spoilt : PySem.W.codeIn K cd_law_spoilt "_law_spoilt" = true) (k_law_spoilt : PySem.W.keepIn K (.ref f_law_spoilt) = true)
    (a_law : PySem.W.nsIn K mainGlobals "law" = some (some (.ref f_law))) (l_law : K.lookup f_law = some ⟨oc_law, od_law, .func (PySem.W.fnOf "law" "law" (defArgs s_law) (defBody s_law) (defScope s_law) .none kV_law dc_law pm_law an_law (.ref c0_law) ct_law), sl_law⟩) (c_law : PySem.W.codeIn K (.ref c0_law) "law" = true) (k_law : PySem.W.keepIn K (.ref f_law) = true)
    (PP : Addr) (hh_law : PySem.W.codeHdIn K c0_law PP = true) (np_law : K.lookup PP = none)
    (aC_Book : PySem.W.nsIn K mainGlobals "Book" = some (some (.ref C_Book)))
    (pg_Book : PySem.W.plainGet K C_Book Str.empty = true)
    (hd_Book : PySem.W.hasDictIn K C_Book = true)
    (po_Book : PySem.W.plainOver K C_Book = true)
    (sa_Book : PySem.W.findIn K (.ref C_Book) "__setattr__" = some (some (.builtin "object.__setattr__")))
    (mk_Book : PySem.W.makesIn K C_Book = true)
    (kC_Book : PySem.W.keepIn K (.ref C_Book) = true)
    (na_goods_Book : PySem.W.findIn K (.ref C_Book) "_goods" = some none)
    (na_barters_Book : PySem.W.findIn K (.ref C_Book) "_barters" = some none)
    (na_good_numbers_Book : PySem.W.findIn K (.ref C_Book) "_good_numbers" = some none)
    (na_barter_numbers_Book : PySem.W.findIn K (.ref C_Book) "_barter_numbers" = some none)
    (a_Book_init : PySem.W.findIn K (.ref C_Book) "__init__" = some (some (.ref f_Book_init)))
    (i_Book_init : PySem.W.isFn K (.ref f_Book_init) = true)
    (l_Book_init : K.lookup f_Book_init = some ⟨oc_Book_init, od_Book_init, .func (PySem.W.fnOf "__init__" "Book.__init__" (defArgs s_Book_init) (defBody s_Book_init) (defScope s_Book_init) .none kV_Book_init dc_Book_init pm_Book_init an_Book_init cd_Book_init ct_Book_init), sl_Book_init⟩)
    (c_Book_init : PySem.W.codeIn K cd_Book_init "Book.__init__" = true)
    (k_Book_init : PySem.W.keepIn K (.ref f_Book_init) = true)
    (a_Book_names : PySem.W.findIn K (.ref C_Book) "names" = some (some (.ref f_Book_names)))
    (i_Book_names : PySem.W.isFn K (.ref f_Book_names) = true)
    (l_Book_names : K.lookup f_Book_names = some ⟨oc_Book_names, od_Book_names, .func (PySem.W.fnOf "names" "Book.names" (defArgs s_Book_names) (defBody s_Book_names) (defScope s_Book_names) .none kV_Book_names dc_Book_names pm_Book_names an_Book_names cd_Book_names ct_Book_names), sl_Book_names⟩)
    (c_Book_names : PySem.W.codeIn K cd_Book_names "Book.names" = true)
    (k_Book_names : PySem.W.keepIn K (.ref f_Book_names) = true)
    (a_Book_barters : PySem.W.findIn K (.ref C_Book) "barters" = some (some (.ref f_Book_barters)))
    (i_Book_barters : PySem.W.isFn K (.ref f_Book_barters) = true)
    (l_Book_barters : K.lookup f_Book_barters = some ⟨oc_Book_barters, od_Book_barters, .func (PySem.W.fnOf "barters" "Book.barters" (defArgs s_Book_barters) (defBody s_Book_barters) (defScope s_Book_barters) .none kV_Book_barters dc_Book_barters pm_Book_barters an_Book_barters cd_Book_barters ct_Book_barters), sl_Book_barters⟩)
    (c_Book_barters : PySem.W.codeIn K cd_Book_barters "Book.barters" = true)
    (k_Book_barters : PySem.W.keepIn K (.ref f_Book_barters) = true)
    (a_Book_row : PySem.W.findIn K (.ref C_Book) "row" = some (some (.ref f_Book_row)))
    (i_Book_row : PySem.W.isFn K (.ref f_Book_row) = true)
    (l_Book_row : K.lookup f_Book_row = some ⟨oc_Book_row, od_Book_row, .func (PySem.W.fnOf "row" "Book.row" (defArgs s_Book_row) (defBody s_Book_row) (defScope s_Book_row) .none kV_Book_row dc_Book_row pm_Book_row an_Book_row cd_Book_row ct_Book_row), sl_Book_row⟩)
    (c_Book_row : PySem.W.codeIn K cd_Book_row "Book.row" = true)
    (k_Book_row : PySem.W.keepIn K (.ref f_Book_row) = true)
    (a_Book_barter_number : PySem.W.findIn K (.ref C_Book) "barter_number" = some (some (.ref f_Book_barter_number)))
    (i_Book_barter_number : PySem.W.isFn K (.ref f_Book_barter_number) = true)
    (l_Book_barter_number : K.lookup f_Book_barter_number = some ⟨oc_Book_barter_number, od_Book_barter_number, .func (PySem.W.fnOf "barter_number" "Book.barter_number" (defArgs s_Book_barter_number) (defBody s_Book_barter_number) (defScope s_Book_barter_number) .none kV_Book_barter_number dc_Book_barter_number pm_Book_barter_number an_Book_barter_number cd_Book_barter_number ct_Book_barter_number), sl_Book_barter_number⟩)
    (c_Book_barter_number : PySem.W.codeIn K cd_Book_barter_number "Book.barter_number" = true)
    (k_Book_barter_number : PySem.W.keepIn K (.ref f_Book_barter_number) = true)
    (a_Book_has_barter : PySem.W.findIn K (.ref C_Book) "has_barter" = some (some (.ref f_Book_has_barter)))
    (i_Book_has_barter : PySem.W.isFn K (.ref f_Book_has_barter) = true)
    (l_Book_has_barter : K.lookup f_Book_has_barter = some ⟨oc_Book_has_barter, od_Book_has_barter, .func (PySem.W.fnOf "has_barter" "Book.has_barter" (defArgs s_Book_has_barter) (defBody s_Book_has_barter) (defScope s_Book_has_barter) .none kV_Book_has_barter dc_Book_has_barter pm_Book_has_barter an_Book_has_barter cd_Book_has_barter ct_Book_has_barter), sl_Book_has_barter⟩)
    (c_Book_has_barter : PySem.W.codeIn K cd_Book_has_barter "Book.has_barter" = true)
    (k_Book_has_barter : PySem.W.keepIn K (.ref f_Book_has_barter) = true)
    (aC_BadDeed : PySem.W.nsIn K mainGlobals "BadDeed" = some (some (.ref C_BadDeed)))
    (xL_BadDeed : K.lookup C_BadDeed = some (excClassObj nm_BadDeed q_BadDeed C_BadDeed N_BadDeed bs_BadDeed [.ref CB0_BadDeed, .type "ValueError", .type "Exception", .type "BaseException", .type "object"] true sn_BadDeed sub_BadDeed ab_BadDeed col_BadDeed dd_BadDeed m0_BadDeed m1_BadDeed m2_BadDeed m3_BadDeed m5_BadDeed "ValueError.__new__"))
    (sa_BadDeed : PySem.W.findIn K (.ref C_BadDeed) "__setattr__" = some (some (.builtin "object.__setattr__")))
    (ga_BadDeed : PySem.W.findIn K (.ref C_BadDeed) "__getattribute__" = some (some (.builtin "BaseException.__getattribute__")))
    (gg_BadDeed : PySem.W.findIn K (.ref C_BadDeed) "__getattr__" = some none)
    (nf_BadDeed : PySem.W.findIn K (.ref C_BadDeed) "number" = some none)
    (ai_BadDeed : PySem.W.findIn K (.ref C_BadDeed) "__init__" = some (some (.ref fi_BadDeed)))
    (ti_BadDeed : PySem.W.typeIn K (.ref fi_BadDeed) = some (.type "function"))
    (li_BadDeed : K.lookup fi_BadDeed = some ⟨oci_BadDeed, odi_BadDeed, .func (PySem.W.fnOf "__init__" "BadDeed.__init__" (defArgs (initOf s_BadDeed)) (defBody (initOf s_BadDeed)) (defScope (initOf s_BadDeed)) .none kVi_BadDeed dci_BadDeed pmi_BadDeed ani_BadDeed cdi_BadDeed cti_BadDeed), sli_BadDeed⟩)
    (ci_BadDeed : PySem.W.codeIn K cdi_BadDeed "BadDeed.__init__" = true)
    (ki_BadDeed : PySem.W.keepIn K (.ref fi_BadDeed) = true)
    (kC_BadDeed : PySem.W.keepIn K (.ref C_BadDeed) = true)
    (eC_BadDeed : PySem.W.subIn K (.ref C_BadDeed) (.type "BaseException") = some true)
    (tC_BadDeed : PySem.W.typeIn K (.ref C_BadDeed) = some (.type "type"))
    (hC_BadDeed : PySem.W.hasDictIn K C_BadDeed = true)
    (iC_BadDeed : PySem.W.isClsIn K C_BadDeed = true)
    (sC_BadDeed : PySem.W.subIn K (.ref C_BadDeed) (.ref C_BadDeed) = some true)
    (xi1_Book : PySem.W.findIn K (.ref C_Book) "__class__" = some (some (.builtin "object.__class__")))
    (xi2_Book : PySem.W.specialIn K (.builtin "object.__class__") "__get__" = some (some (.builtin "getset_descriptor.__get__")))
    (xi3_Book : PySem.W.takesIn K (.builtin "object.__class__") = some true)
    (xi4_Book : PySem.W.mroIn K C_Book (.type "object") = some true)
    (xi5_Book : PySem.W.subIn K (.ref C_Book) (.type "list") = some false)
    (xi6_Book : PySem.W.subIn K (.ref C_Book) (.type "tuple") = some false)
    {tk_DIGITS : Tok} (zc_DIGITS : PySem.W.nsIn K mainGlobals "DIGITS" = some (some (.str "0123456789" tk_DIGITS)))
    {tk_LETTERS : Tok} (zc_LETTERS : PySem.W.nsIn K mainGlobals "LETTERS" = some (some (.str "abcdefghijklmnopqrstuvwxyz" tk_LETTERS)))
    {tk_LONGEST_WORD : Tok} (zc_LONGEST_WORD : PySem.W.nsIn K mainGlobals "LONGEST_WORD" = some (some (.int 12 tk_LONGEST_WORD)))
    {w_WAYS : Addr} (zc_WAYS : PySem.W.nsIn K mainGlobals "WAYS" = some (some (.ref w_WAYS))) {o_WAYS : Obj} {i_WAYS : Array Value} {n_WAYS : Nat} (zt_WAYS : K.lookup w_WAYS = some o_WAYS) (zu_WAYS : o_WAYS.cls = .type "tuple" ∧ o_WAYS.data = .seq i_WAYS n_WAYS ∧ i_WAYS.size ≤ sizeLine ∧ Vals [.int (1), .int (-1)] i_WAYS.toList)
    (zn_abs : PySem.W.nsIn K mainGlobals "abs" = some none)
    (zn_all : PySem.W.nsIn K mainGlobals "all" = some none)
    (zn_any : PySem.W.nsIn K mainGlobals "any" = some none)
    (zn_bool : PySem.W.nsIn K mainGlobals "bool" = some none)
    (zn_dict : PySem.W.nsIn K mainGlobals "dict" = some none)
    (zn_enumerate : PySem.W.nsIn K mainGlobals "enumerate" = some none)
    (zn_int : PySem.W.nsIn K mainGlobals "int" = some none)
    (zn_isinstance : PySem.W.nsIn K mainGlobals "isinstance" = some none)
    (zn_len : PySem.W.nsIn K mainGlobals "len" = some none)
    (zn_list : PySem.W.nsIn K mainGlobals "list" = some none)
    (zn_max : PySem.W.nsIn K mainGlobals "max" = some none)
    (zn_min : PySem.W.nsIn K mainGlobals "min" = some none)
    (zn_range : PySem.W.nsIn K mainGlobals "range" = some none)
    (zn_repr : PySem.W.nsIn K mainGlobals "repr" = some none)
    (zn_reversed : PySem.W.nsIn K mainGlobals "reversed" = some none)
    (zn_str : PySem.W.nsIn K mainGlobals "str" = some none)
    (zn_tuple : PySem.W.nsIn K mainGlobals "tuple" = some none)
    (zn_zip : PySem.W.nsIn K mainGlobals "zip" = some none) :
    ∃ T : Tx K mg, T.a_law = fa ∧ (∀ (s : Shared) (v : Value), BindsTo s T.fd_law ⟨[v], []⟩ [("_law_script_here", v)]) ∧ CodeAt K fa c0_law ∧ K.lookup PP = none ∧ PySem.W.CodeHd h c0_law PP := by
  have e := hfa.symm.trans (PySem.W.mg_of X G a_law)
  cases e
  have F_wall := fun_mk (st := s_wall) l_wall c_wall k_wall
  have b_wall := F_wall.binds (ps := ["k"]) fun _ _ _ _ _ _ us hl => match us, hl with | [_], _ => rfl
  have F_combined := fun_mk (st := s_combined) l_combined c_combined k_combined
  have b_combined := F_combined.binds (ps := ["a", "row", "b", "other"]) fun _ _ _ _ _ _ us hl => match us, hl with | [_, _, _, _], _ => rfl
  have F_is_word := fun_mk (st := s_is_word) l_is_word c_is_word k_is_word
  have b_is_word := F_is_word.binds (ps := ["value"]) fun _ _ _ _ _ _ us hl => match us, hl with | [_], _ => rfl
  have F_is_integer := fun_mk (st := s_is_integer) l_is_integer c_is_integer k_is_integer
  have b_is_integer := F_is_integer.binds (ps := ["value"]) fun _ _ _ _ _ _ us hl => match us, hl with | [_], _ => rfl
  have F_is_enough := fun_mk (st := s_is_enough) l_is_enough c_is_enough k_is_enough
  have b_is_enough := F_is_enough.binds (ps := ["row"]) fun _ _ _ _ _ _ us hl => match us, hl with | [_], _ => rfl
  have F_stock_behind := fun_mk (st := s_stock_behind) l_stock_behind c_stock_behind k_stock_behind
  have b_stock_behind := F_stock_behind.binds (ps := ["book", "stock", "value"]) fun _ _ _ _ _ _ us hl => match us, hl with | [_, _, _], _ => rfl
  have F_turned_deed := fun_mk (st := s_turned_deed) l_turned_deed c_turned_deed k_turned_deed
  have b_turned_deed := F_turned_deed.binds (ps := ["deed"]) fun _ _ _ _ _ _ us hl => match us, hl with | [_], _ => rfl
  have F_stocks_along := fun_mk (st := s_stocks_along) l_stocks_along c_stocks_along k_stocks_along
  have b_stocks_along := F_stocks_along.binds (ps := ["book", "stock", "script"]) fun _ _ _ _ _ _ us hl => match us, hl with | [_, _, _], _ => rfl
  have F_stocks_so_far := fun_mk (st := s_stocks_so_far) l_stocks_so_far c_stocks_so_far k_stocks_so_far
  have b_stocks_so_far := F_stocks_so_far.binds (ps := ["book", "stock", "members"]) fun _ _ _ _ _ _ us hl => match us, hl with | [_, _, _], _ => rfl
  have F_walked := fun_mk (st := s_walked) l_walked c_walked k_walked
  have b_walked := F_walked.binds (ps := ["book", "stock", "script"]) fun _ _ _ _ _ _ us hl => match us, hl with | [_, _, _], _ => rfl
  have F_script_back := fun_mk (st := s_script_back) l_script_back c_script_back k_script_back
  have b_script_back := F_script_back.binds (ps := ["book", "stock", "script"]) fun _ _ _ _ _ _ us hl => match us, hl with | [_, _, _], _ => rfl
  have F_first_bad := fun_mk (st := s_first_bad) l_first_bad c_first_bad k_first_bad
  have b_first_bad := F_first_bad.binds (ps := ["book", "stock", "value"]) fun _ _ _ _ _ _ us hl => match us, hl with | [_, _, _], _ => rfl
  have F_wrong_goods := fun_mk (st := s_wrong_goods) l_wrong_goods c_wrong_goods k_wrong_goods
  have b_wrong_goods := F_wrong_goods.binds (ps := ["goods"]) fun _ _ _ _ _ _ us hl => match us, hl with | [_], _ => rfl
  have F_wrong_barters := fun_mk (st := s_wrong_barters) l_wrong_barters c_wrong_barters k_wrong_barters
  have b_wrong_barters := F_wrong_barters.binds (ps := ["barters", "many"]) fun _ _ _ _ _ _ us hl => match us, hl with | [_, _], _ => rfl
  have F_wrong_barter := fun_mk (st := s_wrong_barter) l_wrong_barter c_wrong_barter k_wrong_barter
  have b_wrong_barter := F_wrong_barter.binds (ps := ["barter", "told", "many"]) fun _ _ _ _ _ _ us hl => match us, hl with | [_, _, _], _ => rfl
  have F_wrong_row := fun_mk (st := s_wrong_row) l_wrong_row c_wrong_row k_wrong_row
  have b_wrong_row := F_wrong_row.binds (ps := ["row", "many"]) fun _ _ _ _ _ _ us hl => match us, hl with | [_, _], _ => rfl
  have F_is_mixed := fun_mk (st := s_is_mixed) l_is_mixed c_is_mixed k_is_mixed
  have b_is_mixed := F_is_mixed.binds (ps := ["entries"]) fun _ _ _ _ _ _ us hl => match us, hl with | [_], _ => rfl
  have F_law_source := fun_mk (st := s_law_source) l_law_source c_law_source k_law_source
  have b_law_source := F_law_source.binds (ps := ["_law_script_here"]) fun _ _ _ _ _ _ us hl => match us, hl with | [_], _ => rfl
  have F_law_pick := fun_mk (st := s_law_pick) l_law_pick c_law_pick k_law_pick
  have b_law_pick := F_law_pick.binds (ps := ["_law_source_here", "_law_many"]) fun _ _ _ _ _ _ us hl => match us, hl with | [_, _], _ => rfl
  have F_law_of := fun_mk (st := s_law_of) l_law_of c_law_of k_law_of
  have b_law_of := F_law_of.binds (ps := ["_law_source_here", "_law_some"]) fun _ _ _ _ _ _ us hl => match us, hl with | [_, _], _ => rfl
  have F_law_mixed := fun_mk (st := s_law_mixed) l_law_mixed c_law_mixed k_law_mixed
  have b_law_mixed := F_law_mixed.binds (ps := ["_law_source_here", "_law_things"]) fun _ _ _ _ _ _ us hl => match us, hl with | [_, _], _ => rfl
  have F_law_names := fun_mk (st := s_law_names) l_law_names c_law_names k_law_names
  have b_law_names := F_law_names.binds (ps := ["_law_source_here", "_law_many"]) fun _ _ _ _ _ _ us hl => match us, hl with | [_, _], _ => rfl
  have F_law_odd := fun_mk (st := s_law_odd) l_law_odd c_law_odd k_law_odd
  have b_law_odd := F_law_odd.binds (ps := ["_law_source_here"]) fun _ _ _ _ _ _ us hl => match us, hl with | [_], _ => rfl
  have F_law_tree := fun_mk (st := s_law_tree) l_law_tree c_law_tree k_law_tree
  have b_law_tree := F_law_tree.binds (ps := ["_law_source_here", "_law_goods"]) fun _ _ _ _ _ _ us hl => match us, hl with | [_, _], _ => rfl
  have F_law_leaves := fun_mk (st := s_law_leaves) l_law_leaves c_law_leaves k_law_leaves
  have b_law_leaves := F_law_leaves.binds (ps := ["_law_tree_here"]) fun _ _ _ _ _ _ us hl => match us, hl with | [_], _ => rfl
  have F_law_forked := fun_mk (st := s_law_forked) l_law_forked c_law_forked k_law_forked
  have b_law_forked := F_law_forked.binds (ps := ["_law_source_here", "_law_tree_here", "_law_goods", "_law_share", "_law_rows"]) fun _ _ _ _ _ _ us hl => match us, hl with | [_, _, _, _, _], _ => rfl
  have F_law_made := fun_mk (st := s_law_made) l_law_made c_law_made k_law_made
  have b_law_made := F_law_made.binds (ps := ["_law_goods", "_law_barters"]) fun _ _ _ _ _ _ us hl => match us, hl with | [_, _], _ => rfl
  have F_law_book := fun_mk (st := s_law_book) l_law_book c_law_book k_law_book
  have b_law_book := F_law_book.binds (ps := ["_law_source_here", "_law_most"]) fun _ _ _ _ _ _ us hl => match us, hl with | [_, _], _ => rfl
  have F_law_any_row := fun_mk (st := s_law_any_row) l_law_any_row c_law_any_row k_law_any_row
  have b_law_any_row := F_law_any_row.binds (ps := ["_law_source_here", "_law_size"]) fun _ _ _ _ _ _ us hl => match us, hl with | [_, _], _ => rfl
  have F_law_any_book := fun_mk (st := s_law_any_book) l_law_any_book c_law_any_book k_law_any_book
  have b_law_any_book := F_law_any_book.binds (ps := ["_law_source_here", "_law_most"]) fun _ _ _ _ _ _ us hl => match us, hl with | [_, _], _ => rfl
  have F_law_plus := fun_mk (st := s_law_plus) l_law_plus c_law_plus k_law_plus
  have b_law_plus := F_law_plus.binds (ps := ["_law_stock_here", "_law_row_here", "_law_times"]) fun _ _ _ _ _ _ us hl => match us, hl with | [_, _, _], _ => rfl
  have F_law_row := fun_mk (st := s_law_row) l_law_row c_law_row k_law_row
  have b_law_row := F_law_row.binds (ps := ["_law_world", "_law_name"]) fun _ _ _ _ _ _ us hl => match us, hl with | [_, _], _ => rfl
  have F_law_done := fun_mk (st := s_law_done) l_law_done c_law_done k_law_done
  have b_law_done := F_law_done.binds (ps := ["_law_world", "_law_stock_here", "_law_deed"]) fun _ _ _ _ _ _ us hl => match us, hl with | [_, _, _], _ => rfl
  have F_law_deeds := fun_mk (st := s_law_deeds) l_law_deeds c_law_deeds k_law_deeds
  have b_law_deeds := F_law_deeds.binds (ps := ["_law_world", "_law_stock_here"]) fun _ _ _ _ _ _ us hl => match us, hl with | [_, _], _ => rfl
  have F_law_stock := fun_mk (st := s_law_stock) l_law_stock c_law_stock k_law_stock
  have b_law_stock := F_law_stock.binds (ps := ["_law_source_here", "_law_world", "_law_most"]) fun _ _ _ _ _ _ us hl => match us, hl with | [_, _, _], _ => rfl
  have F_law_some_book := fun_mk (st := s_law_some_book) l_law_some_book c_law_some_book k_law_some_book
  have b_law_some_book := F_law_some_book.binds (ps := ["_law_source_here", "_law_most"]) fun _ _ _ _ _ _ us hl => match us, hl with | [_, _], _ => rfl
  have F_law_drawn_stock := fun_mk (st := s_law_drawn_stock) l_law_drawn_stock c_law_drawn_stock k_law_drawn_stock
  have b_law_drawn_stock := F_law_drawn_stock.binds (ps := ["_law_source_here", "_law_world"]) fun _ _ _ _ _ _ us hl => match us, hl with | [_, _], _ => rfl
  have F_law_is_deed := fun_mk (st := s_law_is_deed) l_law_is_deed c_law_is_deed k_law_is_deed
  have b_law_is_deed := F_law_is_deed.binds (ps := ["_law_world", "_law_stock_here", "_law_value"]) fun _ _ _ _ _ _ us hl => match us, hl with | [_, _, _], _ => rfl
  have F_law_near_deed := fun_mk (st := s_law_near_deed) l_law_near_deed c_law_near_deed k_law_near_deed
  have b_law_near_deed := F_law_near_deed.binds (ps := ["_law_source_here", "_law_world", "_law_stock_here"]) fun _ _ _ _ _ _ us hl => match us, hl with | [_, _, _], _ => rfl
  have F_law_number := fun_mk (st := s_law_number) l_law_number c_law_number k_law_number
  have b_law_number := F_law_number.binds (ps := ["_law_call"]) fun _ _ _ _ _ _ us hl => match us, hl with | [_], _ => rfl
  have F_law_script := fun_mk (st := s_law_script) l_law_script c_law_script k_law_script
  have b_law_script := F_law_script.binds (ps := ["_law_source_here", "_law_world", "_law_stock_here", "_law_many"]) fun _ _ _ _ _ _ us hl => match us, hl with | [_, _, _, _], _ => rfl
  have F_law_right := fun_mk (st := s_law_right) l_law_right c_law_right k_law_right
  have b_law_right := F_law_right.binds (ps := ["_law_book_here", "_law_stock_here", "_law_script_here", "_law_stocks"]) fun _ _ _ _ _ _ us hl => match us, hl with | [_, _, _, _], _ => rfl
  have F_law_spoilt := fun_mk (st := s_law_spoilt) l_law_spoilt c_law_spoilt k_law_spoilt
  have b_law_spoilt := F_law_spoilt.binds (ps := ["_law_source_here", "_law_world", "_law_script_here", "_law_stocks"]) fun _ _ _ _ _ _ us hl => match us, hl with | [_, _, _, _], _ => rfl
  have F_law := fun_mk (st := s_law) l_law c_law k_law
  have b_law := F_law.binds (ps := ["_law_script_here"]) fun _ _ _ _ _ _ us hl => match us, hl with | [_], _ => rfl
  have F_Book_init := fun_mk (st := s_Book_init) l_Book_init c_Book_init k_Book_init
  have b_Book_init := F_Book_init.binds (ps := ["self", "goods", "barters"]) fun _ _ _ _ _ _ us hl => match us, hl with | [_, _, _], _ => rfl
  have F_Book_names := fun_mk (st := s_Book_names) l_Book_names c_Book_names k_Book_names
  have b_Book_names := F_Book_names.binds (ps := ["self"]) fun _ _ _ _ _ _ us hl => match us, hl with | [_], _ => rfl
  have F_Book_barters := fun_mk (st := s_Book_barters) l_Book_barters c_Book_barters k_Book_barters
  have b_Book_barters := F_Book_barters.binds (ps := ["self"]) fun _ _ _ _ _ _ us hl => match us, hl with | [_], _ => rfl
  have F_Book_row := fun_mk (st := s_Book_row) l_Book_row c_Book_row k_Book_row
  have b_Book_row := F_Book_row.binds (ps := ["self", "name"]) fun _ _ _ _ _ _ us hl => match us, hl with | [_, _], _ => rfl
  have F_Book_barter_number := fun_mk (st := s_Book_barter_number) l_Book_barter_number c_Book_barter_number k_Book_barter_number
  have b_Book_barter_number := F_Book_barter_number.binds (ps := ["self", "name"]) fun _ _ _ _ _ _ us hl => match us, hl with | [_, _], _ => rfl
  have F_Book_has_barter := fun_mk (st := s_Book_has_barter) l_Book_has_barter c_Book_has_barter k_Book_has_barter
  have b_Book_has_barter := F_Book_has_barter.binds (ps := ["self", "value"]) fun _ _ _ _ _ _ us hl => match us, hl with | [_, _], _ => rfl
  have Fi_BadDeed := fun_mk (st := initOf s_BadDeed) li_BadDeed ci_BadDeed ki_BadDeed
  have bi_BadDeed := Fi_BadDeed.binds (ps := ["self", "number"]) fun _ _ _ _ _ _ us hl => match us, hl with | [_, _], _ => rfl
  exact ⟨{ a_wall := f_wall, fd_wall := _, F_wall := F_wall, b_wall := b_wall, m_wall := PySem.W.mg_of X G a_wall, a_combined := f_combined, fd_combined := _, F_combined := F_combined, b_combined := b_combined, m_combined := PySem.W.mg_of X G a_combined, a_is_word := f_is_word, fd_is_word := _, F_is_word := F_is_word, b_is_word := b_is_word, m_is_word := PySem.W.mg_of X G a_is_word, a_is_integer := f_is_integer, fd_is_integer := _, F_is_integer := F_is_integer, b_is_integer := b_is_integer, m_is_integer := PySem.W.mg_of X G a_is_integer, a_is_enough := f_is_enough, fd_is_enough := _, F_is_enough := F_is_enough, b_is_enough := b_is_enough, m_is_enough := PySem.W.mg_of X G a_is_enough, a_stock_behind := f_stock_behind, fd_stock_behind := _, F_stock_behind := F_stock_behind, b_stock_behind := b_stock_behind, m_stock_behind := PySem.W.mg_of X G a_stock_behind, a_turned_deed := f_turned_deed, fd_turned_deed := _, F_turned_deed := F_turned_deed, b_turned_deed := b_turned_deed, m_turned_deed := PySem.W.mg_of X G a_turned_deed, a_stocks_along := f_stocks_along, fd_stocks_along := _, F_stocks_along := F_stocks_along, b_stocks_along := b_stocks_along, m_stocks_along := PySem.W.mg_of X G a_stocks_along, a_stocks_so_far := f_stocks_so_far, fd_stocks_so_far := _, F_stocks_so_far := F_stocks_so_far, b_stocks_so_far := b_stocks_so_far, m_stocks_so_far := PySem.W.mg_of X G a_stocks_so_far, a_walked := f_walked, fd_walked := _, F_walked := F_walked, b_walked := b_walked, m_walked := PySem.W.mg_of X G a_walked, a_script_back := f_script_back, fd_script_back := _, F_script_back := F_script_back, b_script_back := b_script_back, m_script_back := PySem.W.mg_of X G a_script_back, a_first_bad := f_first_bad, fd_first_bad := _, F_first_bad := F_first_bad, b_first_bad := b_first_bad, m_first_bad := PySem.W.mg_of X G a_first_bad, a_wrong_goods := f_wrong_goods, fd_wrong_goods := _, F_wrong_goods := F_wrong_goods, b_wrong_goods := b_wrong_goods, m_wrong_goods := PySem.W.mg_of X G a_wrong_goods, a_wrong_barters := f_wrong_barters, fd_wrong_barters := _, F_wrong_barters := F_wrong_barters, b_wrong_barters := b_wrong_barters, m_wrong_barters := PySem.W.mg_of X G a_wrong_barters, a_wrong_barter := f_wrong_barter, fd_wrong_barter := _, F_wrong_barter := F_wrong_barter, b_wrong_barter := b_wrong_barter, m_wrong_barter := PySem.W.mg_of X G a_wrong_barter, a_wrong_row := f_wrong_row, fd_wrong_row := _, F_wrong_row := F_wrong_row, b_wrong_row := b_wrong_row, m_wrong_row := PySem.W.mg_of X G a_wrong_row, a_is_mixed := f_is_mixed, fd_is_mixed := _, F_is_mixed := F_is_mixed, b_is_mixed := b_is_mixed, m_is_mixed := PySem.W.mg_of X G a_is_mixed, a_law_source := f_law_source, fd_law_source := _, F_law_source := F_law_source, b_law_source := b_law_source, m_law_source := PySem.W.mg_of X G a_law_source, a_law_pick := f_law_pick, fd_law_pick := _, F_law_pick := F_law_pick, b_law_pick := b_law_pick, m_law_pick := PySem.W.mg_of X G a_law_pick, a_law_of := f_law_of, fd_law_of := _, F_law_of := F_law_of, b_law_of := b_law_of, m_law_of := PySem.W.mg_of X G a_law_of, a_law_mixed := f_law_mixed, fd_law_mixed := _, F_law_mixed := F_law_mixed, b_law_mixed := b_law_mixed, m_law_mixed := PySem.W.mg_of X G a_law_mixed, a_law_names := f_law_names, fd_law_names := _, F_law_names := F_law_names, b_law_names := b_law_names, m_law_names := PySem.W.mg_of X G a_law_names, a_law_odd := f_law_odd, fd_law_odd := _, F_law_odd := F_law_odd, b_law_odd := b_law_odd, m_law_odd := PySem.W.mg_of X G a_law_odd, a_law_tree := f_law_tree, fd_law_tree := _, F_law_tree := F_law_tree, b_law_tree := b_law_tree, m_law_tree := PySem.W.mg_of X G a_law_tree, a_law_leaves := f_law_leaves, fd_law_leaves := _, F_law_leaves := F_law_leaves, b_law_leaves := b_law_leaves, m_law_leaves := PySem.W.mg_of X G a_law_leaves, a_law_forked := f_law_forked, fd_law_forked := _, F_law_forked := F_law_forked, b_law_forked := b_law_forked, m_law_forked := PySem.W.mg_of X G a_law_forked, a_law_made := f_law_made, fd_law_made := _, F_law_made := F_law_made, b_law_made := b_law_made, m_law_made := PySem.W.mg_of X G a_law_made, a_law_book := f_law_book, fd_law_book := _, F_law_book := F_law_book, b_law_book := b_law_book, m_law_book := PySem.W.mg_of X G a_law_book, a_law_any_row := f_law_any_row, fd_law_any_row := _, F_law_any_row := F_law_any_row, b_law_any_row := b_law_any_row, m_law_any_row := PySem.W.mg_of X G a_law_any_row, a_law_any_book := f_law_any_book, fd_law_any_book := _, F_law_any_book := F_law_any_book, b_law_any_book := b_law_any_book, m_law_any_book := PySem.W.mg_of X G a_law_any_book, a_law_plus := f_law_plus, fd_law_plus := _, F_law_plus := F_law_plus, b_law_plus := b_law_plus, m_law_plus := PySem.W.mg_of X G a_law_plus, a_law_row := f_law_row, fd_law_row := _, F_law_row := F_law_row, b_law_row := b_law_row, m_law_row := PySem.W.mg_of X G a_law_row, a_law_done := f_law_done, fd_law_done := _, F_law_done := F_law_done, b_law_done := b_law_done, m_law_done := PySem.W.mg_of X G a_law_done, a_law_deeds := f_law_deeds, fd_law_deeds := _, F_law_deeds := F_law_deeds, b_law_deeds := b_law_deeds, m_law_deeds := PySem.W.mg_of X G a_law_deeds, a_law_stock := f_law_stock, fd_law_stock := _, F_law_stock := F_law_stock, b_law_stock := b_law_stock, m_law_stock := PySem.W.mg_of X G a_law_stock, a_law_some_book := f_law_some_book, fd_law_some_book := _, F_law_some_book := F_law_some_book, b_law_some_book := b_law_some_book, m_law_some_book := PySem.W.mg_of X G a_law_some_book, a_law_drawn_stock := f_law_drawn_stock, fd_law_drawn_stock := _, F_law_drawn_stock := F_law_drawn_stock, b_law_drawn_stock := b_law_drawn_stock, m_law_drawn_stock := PySem.W.mg_of X G a_law_drawn_stock, a_law_is_deed := f_law_is_deed, fd_law_is_deed := _, F_law_is_deed := F_law_is_deed, b_law_is_deed := b_law_is_deed, m_law_is_deed := PySem.W.mg_of X G a_law_is_deed, a_law_near_deed := f_law_near_deed, fd_law_near_deed := _, F_law_near_deed := F_law_near_deed, b_law_near_deed := b_law_near_deed, m_law_near_deed := PySem.W.mg_of X G a_law_near_deed, a_law_number := f_law_number, fd_law_number := _, F_law_number := F_law_number, b_law_number := b_law_number, m_law_number := PySem.W.mg_of X G a_law_number, a_law_script := f_law_script, fd_law_script := _, F_law_script := F_law_script, b_law_script := b_law_script, m_law_script := PySem.W.mg_of X G a_law_script, a_law_right := f_law_right, fd_law_right := _, F_law_right := F_law_right, b_law_right := b_law_right, m_law_right := PySem.W.mg_of X G a_law_right, a_law_spoilt := f_law_spoilt, fd_law_spoilt := _, F_law_spoilt := F_law_spoilt, b_law_spoilt := b_law_spoilt, m_law_spoilt := PySem.W.mg_of X G a_law_spoilt, a_law := _, fd_law := _, F_law := F_law, b_law := b_law, m_law := PySem.W.mg_of X G a_law, i1_Book := xi1_Book, i2_Book := xi2_Book, i3_Book := xi3_Book, i4_Book := xi4_Book, i5_Book := xi5_Book, i6_Book := xi6_Book, c_DIGITS := ⟨_, PySem.W.mg_of X G zc_DIGITS⟩, c_LETTERS := ⟨_, PySem.W.mg_of X G zc_LETTERS⟩, c_LONGEST_WORD := ⟨_, PySem.W.mg_of X G zc_LONGEST_WORD⟩, w_WAYS := w_WAYS, c_WAYS := PySem.W.mg_of X G zc_WAYS, t_WAYS := fun _ => .inr ⟨_, _, _, zt_WAYS, zu_WAYS.1, zu_WAYS.2.1, zu_WAYS.2.2.1, zu_WAYS.2.2.2⟩, n_abs := PySem.W.mg_none_of X G zn_abs, n_all := PySem.W.mg_none_of X G zn_all, n_any := PySem.W.mg_none_of X G zn_any, n_bool := PySem.W.mg_none_of X G zn_bool, n_dict := PySem.W.mg_none_of X G zn_dict, n_enumerate := PySem.W.mg_none_of X G zn_enumerate, n_int := PySem.W.mg_none_of X G zn_int, n_isinstance := PySem.W.mg_none_of X G zn_isinstance, n_len := PySem.W.mg_none_of X G zn_len, n_list := PySem.W.mg_none_of X G zn_list, n_max := PySem.W.mg_none_of X G zn_max, n_min := PySem.W.mg_none_of X G zn_min, n_range := PySem.W.mg_none_of X G zn_range, n_repr := PySem.W.mg_none_of X G zn_repr, n_reversed := PySem.W.mg_none_of X G zn_reversed, n_str := PySem.W.mg_none_of X G zn_str, n_tuple := PySem.W.mg_none_of X G zn_tuple, n_zip := PySem.W.mg_none_of X G zn_zip, C_Book := C_Book, cl_Book := ⟨pg_Book, hd_Book, po_Book, sa_Book⟩, m_Book := PySem.W.mg_of X G aC_Book, na_Book_goods := na_goods_Book, na_Book_barters := na_barters_Book, na_Book_good_numbers := na_good_numbers_Book, na_Book_barter_numbers := na_barter_numbers_Book, a_Book_init := f_Book_init, fd_Book_init := _, F_Book_init := F_Book_init, b_Book_init := b_Book_init, M_Book := ⟨mk_Book, a_Book_init, i_Book_init, kC_Book⟩, a_Book_names := f_Book_names, fd_Book_names := _, F_Book_names := F_Book_names, b_Book_names := b_Book_names, me_Book_names := ⟨a_Book_names, i_Book_names, k_Book_names⟩, a_Book_barters := f_Book_barters, fd_Book_barters := _, F_Book_barters := F_Book_barters, b_Book_barters := b_Book_barters, me_Book_barters := ⟨a_Book_barters, i_Book_barters, k_Book_barters⟩, a_Book_row := f_Book_row, fd_Book_row := _, F_Book_row := F_Book_row, b_Book_row := b_Book_row, me_Book_row := ⟨a_Book_row, i_Book_row, k_Book_row⟩, a_Book_barter_number := f_Book_barter_number, fd_Book_barter_number := _, F_Book_barter_number := F_Book_barter_number, b_Book_barter_number := b_Book_barter_number, me_Book_barter_number := ⟨a_Book_barter_number, i_Book_barter_number, k_Book_barter_number⟩, a_Book_has_barter := f_Book_has_barter, fd_Book_has_barter := _, F_Book_has_barter := F_Book_has_barter, b_Book_has_barter := b_Book_has_barter, me_Book_has_barter := ⟨a_Book_has_barter, i_Book_has_barter, k_Book_has_barter⟩, e_BadDeed := { C := C_BadDeed, fI := fi_BadDeed, fd := _, oex := { cls := ⟨nm_BadDeed, q_BadDeed, N_BadDeed, bs_BadDeed, _, sn_BadDeed, sub_BadDeed, ab_BadDeed, col_BadDeed, dd_BadDeed, m0_BadDeed, m1_BadDeed, m2_BadDeed, m3_BadDeed, m5_BadDeed, xL_BadDeed, rfl⟩, sa := sa_BadDeed, exC := eC_BadDeed, tyC := tC_BadDeed, kC := kC_BadDeed }, xf := ⟨ga_BadDeed, gg_BadDeed, eC_BadDeed, hC_BadDeed⟩, iC := ai_BadDeed, tI := ti_BadDeed, noF := nf_BadDeed, F := Fi_BadDeed, b := bi_BadDeed, m := PySem.W.mg_of X G aC_BadDeed, te := exm_own eC_BadDeed iC_BadDeed tC_BadDeed sC_BadDeed } }, rfl, fun s v => .of_eq rfl, ⟨_, _, _, _, l_law, rfl⟩, np_law, PySem.W.codeHd_of_K X hh_law⟩
theorem walk {l : PySem.W.OpenLaw} {q : Program} {loose : List Str} {XP : (Str → Option Value) → Heap → Prop} {YP : World → Heap → Prop} {d : DefRec} {K : Params → PySem.W.Frag} {pp : Addr} (hn : l.most = some 63) (hdf : d.params.defaults = [])
    (hY : ∀ (w : World) (h : Heap), YP w h → (K w.params).In h ∧ h.get? pp = some (PySem.W.tabObj #[]))
    (F : ∀ (w : World) (mg : Str → Option Value) (fa : Addr) (h : Heap), (K w.params).In h → h.Ns mainGlobals mg → mg d.name = some (.ref fa) →
      ∃ (fd : FuncData) (c : Addr), (K w.params).lookup pp = none ∧ PySem.W.CodeHd h c pp ∧ (∀ (s : Shared) (u : Value), BindsTo s fd ⟨[u], []⟩ [("_law_script_here", u)]) ∧ ∀ base : Heap, (K w.params).In base → base.Ns mainGlobals mg → LamX.TabB base mg c pp → FnG l.prog w (K w.params) mg base 61 fa fd ["_law_script_here"] (spLawT (K w.params) pp)) :
    PySem.W.WalkO q loose XP YP l.row.toRowW d [] (fun f vs => PySem.call f vs) :=
  walk_ofT (n := 63) (k := 61) (p := pp) (x := "_law_script_here") (sp := fun w => spLawT (K w.params) pp) hn (by decide) hdf ⟨rfl, by decide, by decide⟩ hY F fun _ _ a ns hl hp hS => ⟨a, ns, rfl, hS, hl, hp, fun _ => rfl⟩
end My
open PySem PySem.W PyProof.Rows
set_option maxRecDepth 100000 in
set_option maxHeartbeats 0 in
theorem PySem.Challenge.cw_eitherbarter_k35_whole_scripts_holds : PySem.Challenge.rw_eitherbarter_k35_whole_scripts.Holds := by
  w_on; o_law; k_head; (case hw => w_witness2)
  k_fill
  refine My.walk (l := PySem.Challenge.rw_eitherbarter_k35_whole_scripts) (pp := 455) rfl rfl (fun w h Y => ⟨PySem.W.km_in_of Y, PySem.W.km_tabs_of Y 455 (by decide)⟩) ?F
  case F =>
    intro w mg fa h KX G hmg
    refine' Exists.elim (My.tx_mk KX G hmg ?a_wall ?l_wall ?c_wall ?k_wall ?a_combined ?l_combined ?c_combined ?k_combined ?a_is_word ?l_is_word ?c_is_word ?k_is_word ?a_is_integer ?l_is_integer ?c_is_integer ?k_is_integer ?a_is_enough ?l_is_enough ?c_is_enough ?k_is_enough ?a_stock_behind ?l_stock_behind ?c_stock_behind ?k_stock_behind ?a_turned_deed ?l_turned_deed ?c_turned_deed ?k_turned_deed ?a_stocks_along ?l_stocks_along ?c_stocks_along ?k_stocks_along ?a_stocks_so_far ?l_stocks_so_far ?c_stocks_so_far ?k_stocks_so_far ?a_walked ?l_walked ?c_walked ?k_walked ?a_script_back ?l_script_back ?c_script_back ?k_script_back ?a_first_bad ?l_first_bad ?c_first_bad ?k_first_bad ?a_wrong_goods ?l_wrong_goods ?c_wrong_goods ?k_wrong_goods ?a_wrong_barters ?l_wrong_barters ?c_wrong_barters ?k_wrong_barters ?a_wrong_barter ?l_wrong_barter ?c_wrong_barter ?k_wrong_barter ?a_wrong_row ?l_wrong_row ?c_wrong_row ?k_wrong_row ?a_is_mixed ?l_is_mixed ?c_is_mixed ?k_is_mixed ?a_law_source ?l_law_source ?c_law_source ?k_law_source ?a_law_pick ?l_law_pick ?c_law_pick ?k_law_pick ?a_law_of ?l_law_of ?c_law_of ?k_law_of ?a_law_mixed ?l_law_mixed ?c_law_mixed ?k_law_mixed ?a_law_names ?l_law_names ?c_law_names ?k_law_names ?a_law_odd ?l_law_odd ?c_law_odd ?k_law_odd ?a_law_tree ?l_law_tree ?c_law_tree ?k_law_tree ?a_law_leaves ?l_law_leaves ?c_law_leaves ?k_law_leaves ?a_law_forked ?l_law_forked ?c_law_forked ?k_law_forked ?a_law_made ?l_law_made ?c_law_made ?k_law_made ?a_law_book ?l_law_book ?c_law_book ?k_law_book ?a_law_any_row ?l_law_any_row ?c_law_any_row ?k_law_any_row ?a_law_any_book ?l_law_any_book ?c_law_any_book ?k_law_any_book ?a_law_plus ?l_law_plus ?c_law_plus ?k_law_plus ?a_law_row ?l_law_row ?c_law_row ?k_law_row ?a_law_done ?l_law_done ?c_law_done ?k_law_done ?a_law_deeds ?l_law_deeds ?c_law_deeds ?k_law_deeds ?a_law_stock ?l_law_stock ?c_law_stock ?k_law_stock ?a_law_some_book ?l_law_some_book ?c_law_some_book ?k_law_some_book ?a_law_drawn_stock ?l_law_drawn_stock ?c_law_drawn_stock ?k_law_drawn_stock ?a_law_is_deed ?l_law_is_deed ?c_law_is_deed ?k_law_is_deed ?a_law_near_deed ?l_law_near_deed ?c_law_near_deed ?k_law_near_deed ?a_law_number ?l_law_number ?c_law_number ?k_law_number ?a_law_script ?l_law_script ?c_law_script ?k_law_script ?a_law_right ?l_law_right ?c_law_right ?k_law_right ?a_law_spoilt ?l_law_spoilt ?c_law_spoilt ?k_law_spoilt ?a_law ?l_law ?c_law ?k_law 455 ?hh_law ?np_law ?aC_Book ?pg_Book ?hd_Book ?po_Book ?sa_Book ?mk_Book ?kC_Book ?na_goods_Book ?na_barters_Book ?na_good_numbers_Book ?na_barter_numbers_Book ?a_Book_init ?i_Book_init ?l_Book_init ?c_Book_init ?k_Book_init ?a_Book_names ?i_Book_names ?l_Book_names ?c_Book_names ?k_Book_names ?a_Book_barters ?i_Book_barters ?l_Book_barters ?c_Book_barters ?k_Book_barters ?a_Book_row ?i_Book_row ?l_Book_row ?c_Book_row ?k_Book_row ?a_Book_barter_number ?i_Book_barter_number ?l_Book_barter_number ?c_Book_barter_number ?k_Book_barter_number ?a_Book_has_barter ?i_Book_has_barter ?l_Book_has_barter ?c_Book_has_barter ?k_Book_has_barter ?aC_BadDeed ?xL_BadDeed ?sa_BadDeed ?ga_BadDeed ?gg_BadDeed ?nf_BadDeed ?ai_BadDeed ?ti_BadDeed ?li_BadDeed ?ci_BadDeed ?ki_BadDeed ?kC_BadDeed ?eC_BadDeed ?tC_BadDeed ?hC_BadDeed ?iC_BadDeed ?sC_BadDeed ?xi1_Book ?xi2_Book ?xi3_Book ?xi4_Book ?xi5_Book ?xi6_Book ?zc_DIGITS ?zc_LETTERS ?zc_LONGEST_WORD ?zc_WAYS ?zt_WAYS ?zu_WAYS ?zn_abs ?zn_all ?zn_any ?zn_bool ?zn_dict ?zn_enumerate ?zn_int ?zn_isinstance ?zn_len ?zn_list ?zn_max ?zn_min ?zn_range ?zn_repr ?zn_reversed ?zn_str ?zn_tuple ?zn_zip) (fun T hT => ?fin)
    (case a_wall => k_is)
    (case l_wall => k_is)
    (case c_wall => k_is)
    (case k_wall => k_is)
    (case a_combined => k_is)
    (case l_combined => k_is)
    (case c_combined => k_is)
    (case k_combined => k_is)
    (case a_is_word => k_is)
    (case l_is_word => k_is)
    (case c_is_word => k_is)
    (case k_is_word => k_is)
    (case a_is_integer => k_is)
    (case l_is_integer => k_is)
    (case c_is_integer => k_is)
    (case k_is_integer => k_is)
    (case a_is_enough => k_is)
    (case l_is_enough => k_is)
    (case c_is_enough => k_is)
    (case k_is_enough => k_is)
    (case a_stock_behind => k_is)
    (case l_stock_behind => k_is)
    (case c_stock_behind => k_is)
    (case k_stock_behind => k_is)
    (case a_turned_deed => k_is)
    (case l_turned_deed => k_is)
    (case c_turned_deed => k_is)
    (case k_turned_deed => k_is)
    (case a_stocks_along => k_is)
    (case l_stocks_along => k_is)
    (case c_stocks_along => k_is)
    (case k_stocks_along => k_is)
    (case a_stocks_so_far => k_is)
    (case l_stocks_so_far => k_is)
    (case c_stocks_so_far => k_is)
    (case k_stocks_so_far => k_is)
    (case a_walked => k_is)
    (case l_walked => k_is)
    (case c_walked => k_is)
    (case k_walked => k_is)
    (case a_script_back => k_is)
    (case l_script_back => k_is)
    (case c_script_back => k_is)
    (case k_script_back => k_is)
    (case a_first_bad => k_is)
    (case l_first_bad => k_is)
    (case c_first_bad => k_is)
    (case k_first_bad => k_is)
    (case a_wrong_goods => k_is)
    (case l_wrong_goods => k_is)
    (case c_wrong_goods => k_is)
    (case k_wrong_goods => k_is)
    (case a_wrong_barters => k_is)
    (case l_wrong_barters => k_is)
    (case c_wrong_barters => k_is)
    (case k_wrong_barters => k_is)
    (case a_wrong_barter => k_is)
    (case l_wrong_barter => k_is)
    (case c_wrong_barter => k_is)
    (case k_wrong_barter => k_is)
    (case a_wrong_row => k_is)
    (case l_wrong_row => k_is)
    (case c_wrong_row => k_is)
    (case k_wrong_row => k_is)
    (case a_is_mixed => k_is)
    (case l_is_mixed => k_is)
    (case c_is_mixed => k_is)
    (case k_is_mixed => k_is)
    (case a_law_source => k_is)
    (case l_law_source => k_is)
    (case c_law_source => k_is)
    (case k_law_source => k_is)
    (case a_law_pick => k_is)
    (case l_law_pick => k_is)
    (case c_law_pick => k_is)
    (case k_law_pick => k_is)
    (case a_law_of => k_is)
    (case l_law_of => k_is)
    (case c_law_of => k_is)
    (case k_law_of => k_is)
    (case a_law_mixed => k_is)
    (case l_law_mixed => k_is)
    (case c_law_mixed => k_is)
    (case k_law_mixed => k_is)
    (case a_law_names => k_is)
    (case l_law_names => k_is)
    (case c_law_names => k_is)
    (case k_law_names => k_is)
    (case a_law_odd => k_is)
    (case l_law_odd => k_is)
    (case c_law_odd => k_is)
    (case k_law_odd => k_is)
    (case a_law_tree => k_is)
    (case l_law_tree => k_is)
    (case c_law_tree => k_is)
    (case k_law_tree => k_is)
    (case a_law_leaves => k_is)
    (case l_law_leaves => k_is)
    (case c_law_leaves => k_is)
    (case k_law_leaves => k_is)
    (case a_law_forked => k_is)
    (case l_law_forked => k_is)
    (case c_law_forked => k_is)
    (case k_law_forked => k_is)
    (case a_law_made => k_is)
    (case l_law_made => k_is)
    (case c_law_made => k_is)
    (case k_law_made => k_is)
    (case a_law_book => k_is)
    (case l_law_book => k_is)
    (case c_law_book => k_is)
    (case k_law_book => k_is)
    (case a_law_any_row => k_is)
    (case l_law_any_row => k_is)
    (case c_law_any_row => k_is)
    (case k_law_any_row => k_is)
    (case a_law_any_book => k_is)
    (case l_law_any_book => k_is)
    (case c_law_any_book => k_is)
    (case k_law_any_book => k_is)
    (case a_law_plus => k_is)
    (case l_law_plus => k_is)
    (case c_law_plus => k_is)
    (case k_law_plus => k_is)
    (case a_law_row => k_is)
    (case l_law_row => k_is)
    (case c_law_row => k_is)
    (case k_law_row => k_is)
    (case a_law_done => k_is)
    (case l_law_done => k_is)
    (case c_law_done => k_is)
    (case k_law_done => k_is)
    (case a_law_deeds => k_is)
    (case l_law_deeds => k_is)
    (case c_law_deeds => k_is)
    (case k_law_deeds => k_is)
    (case a_law_stock => k_is)
    (case l_law_stock => k_is)
    (case c_law_stock => k_is)
    (case k_law_stock => k_is)
    (case a_law_some_book => k_is)
    (case l_law_some_book => k_is)
    (case c_law_some_book => k_is)
    (case k_law_some_book => k_is)
    (case a_law_drawn_stock => k_is)
    (case l_law_drawn_stock => k_is)
    (case c_law_drawn_stock => k_is)
    (case k_law_drawn_stock => k_is)
    (case a_law_is_deed => k_is)
    (case l_law_is_deed => k_is)
    (case c_law_is_deed => k_is)
    (case k_law_is_deed => k_is)
    (case a_law_near_deed => k_is)
    (case l_law_near_deed => k_is)
    (case c_law_near_deed => k_is)
    (case k_law_near_deed => k_is)
    (case a_law_number => k_is)
    (case l_law_number => k_is)
    (case c_law_number => k_is)
    (case k_law_number => k_is)
    (case a_law_script => k_is)
    (case l_law_script => k_is)
    (case c_law_script => k_is)
    (case k_law_script => k_is)
    (case a_law_right => k_is)
    (case l_law_right => k_is)
    (case c_law_right => k_is)
    (case k_law_right => k_is)
    (case a_law_spoilt => k_is)
    (case l_law_spoilt => k_is)
    (case c_law_spoilt => k_is)
    (case k_law_spoilt => k_is)
    (case a_law => k_is)
    (case l_law => k_is)
    (case c_law => k_is)
    (case k_law => k_is)
    (case hh_law => kernel_rfl)
    (case np_law => kernel_rfl)
    (case aC_Book => k_is)
    (case pg_Book => k_is)
    (case hd_Book => k_is)
    (case po_Book => k_is)
    (case sa_Book => k_is)
    (case mk_Book => k_is)
    (case kC_Book => k_is)
    (case na_goods_Book => k_is)
    (case na_barters_Book => k_is)
    (case na_good_numbers_Book => k_is)
    (case na_barter_numbers_Book => k_is)
    (case a_Book_init => k_is)
    (case i_Book_init => k_is)
    (case l_Book_init => k_is)
    (case c_Book_init => k_is)
    (case k_Book_init => k_is)
    (case a_Book_names => k_is)
    (case i_Book_names => k_is)
    (case l_Book_names => k_is)
    (case c_Book_names => k_is)
    (case k_Book_names => k_is)
    (case a_Book_barters => k_is)
    (case i_Book_barters => k_is)
    (case l_Book_barters => k_is)
    (case c_Book_barters => k_is)
    (case k_Book_barters => k_is)
    (case a_Book_row => k_is)
    (case i_Book_row => k_is)
    (case l_Book_row => k_is)
    (case c_Book_row => k_is)
    (case k_Book_row => k_is)
    (case a_Book_barter_number => k_is)
    (case i_Book_barter_number => k_is)
    (case l_Book_barter_number => k_is)
    (case c_Book_barter_number => k_is)
    (case k_Book_barter_number => k_is)
    (case a_Book_has_barter => k_is)
    (case i_Book_has_barter => k_is)
    (case l_Book_has_barter => k_is)
    (case c_Book_has_barter => k_is)
    (case k_Book_has_barter => k_is)
    (case aC_BadDeed => k_is)
    (case xL_BadDeed => k_is)
    (case sa_BadDeed => k_is)
    (case ga_BadDeed => k_is)
    (case gg_BadDeed => k_is)
    (case nf_BadDeed => k_is)
    (case ai_BadDeed => k_is)
    (case ti_BadDeed => k_is)
    (case li_BadDeed => k_is)
    (case ci_BadDeed => k_is)
    (case ki_BadDeed => k_is)
    (case kC_BadDeed => k_is)
    (case eC_BadDeed => k_is)
    (case tC_BadDeed => k_is)
    (case hC_BadDeed => k_is)
    (case iC_BadDeed => k_is)
    (case sC_BadDeed => k_is)
    (case xi1_Book => k_is)
    (case xi2_Book => k_is)
    (case xi3_Book => k_is)
    (case xi4_Book => k_is)
    (case xi5_Book => k_is)
    (case xi6_Book => k_is)
    (case zc_DIGITS => k_is)
    (case zc_LETTERS => k_is)
    (case zc_LONGEST_WORD => k_is)
    (case zc_WAYS => k_is)
    (case zt_WAYS => k_is)
    (case zu_WAYS => exact ⟨rfl, rfl, by decide, (.cons ⟨_, rfl⟩ (.cons ⟨_, rfl⟩ .nil))⟩)
    (case zn_abs => k_is)
    (case zn_all => k_is)
    (case zn_any => k_is)
    (case zn_bool => k_is)
    (case zn_dict => k_is)
    (case zn_enumerate => k_is)
    (case zn_int => k_is)
    (case zn_isinstance => k_is)
    (case zn_len => k_is)
    (case zn_list => k_is)
    (case zn_max => k_is)
    (case zn_min => k_is)
    (case zn_range => k_is)
    (case zn_repr => k_is)
    (case zn_reversed => k_is)
    (case zn_str => k_is)
    (case zn_tuple => k_is)
    (case zn_zip => k_is)
    (case fin => (obtain ⟨e, hb, hc, np, hh⟩ := hT; subst e; exact ⟨T.fd_law, _, np, hh, hb, fun base _ _ TB => My.ok_law T hc TB⟩))
#print axioms PySem.Challenge.cw_eitherbarter_k35_whole_scripts_holds
