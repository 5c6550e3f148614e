import PyProof.Rows.All
import Wide.All
import OpenK.AllK
import Wide.FinOn
import HandS.ForMost
import HandS.Gcd
import HandS.Wide
import HandS.IsInst
import HandS.Style
import HandS.Zip
import HandS.Evl
import HandS.ExcInit
import HandS.ExcOwn
import HandS.ExcField
import HandS.WordsExc
import HandS.StrMore
import HandS.Sort
import HandS.DictComp
import HandS.TupMul
import HandS.Walk
import HandS.Conv
import HandS.Flow
import HandS.RaiseMore
import HandS.Deep
import HandS.List
import HandS.Rev
import HandS.TryOnly
import HandS.Lambda
import KE.GoesMore
import KE.GoesEnum
import KE.KDictZip
import KE.KDictItemsList
import KE.KNestM
import KE.KExcInit
import PyProof.ExcBaseAll.LookupError
import PyProof.ListNew
import PyProof.ReprRoads
import PyProof.RowDictHeap
import PyProof.ReprBulk
import PyProof.OldK
import HandS.Strs
import HandS.Iter
import KE.KDictPairs
import KE.GoesZip
import HandS.TupAny
import HandS.WideBits
import HandS.SetKeys
import HandS.WordsDict
import HandS.TryMany
import HandS.Text
import KE.IntTextLaws
import PySem.Challenge.RW_eitherbarter_k08_whole_wrong_places_of_t
set_option Elab.async false
set_option linter.all false
set_option maxRecDepth 100000
set_option maxHeartbeats 4000000
namespace My
open PySem PySem.Spec PyProof.Rows L2
/-! ### rules of my own -/
/-- // by any divisor but 0, below 2 ^ 9000 in size -/
def CDivX (_ j : Int) : Prop := j ≠ 0 ∧ j.natAbs.log2 < 9000
section
variable {X : Cx}
theorem op_fdivX : OpR X (binaryOp .FloorDiv) (rI CDivX fun i j => .int (i.fdiv j)) := opI fun _ _ _ _ _ _ _ hc q =>
  floordiv_int hc.1 q (.inl (PyProof.noPylong_of_log2 hc.2))
def rReprB : List V → Hp → VK → Prop := fun xs H Q => ∃ b : Bool, xs = [.bl b] ∧ Q (.str (if b then "True" else "False")) H
theorem call_repr_bl : CallR X (.builtin "repr") rReprB := by
  intro pins s σ H xs us Q I r h
  obtain ⟨b, rfl, q⟩ := h
  obtain ⟨u, rfl, r1⟩ := vals1 r
  cases (show u = Value.bool b from r1)
  exact PySem.P.repr_of_bool ⟨.str _, H, I.tok _, ⟨_, rfl⟩, q⟩
end
theorem iteD {p : Prop} [Decidable p] {A B : Prop} (h1 : p → A) (h2 : ¬ p → B) : if decide p = true then A else B := by
  by_cases h : p
  · rw [decide_eq_true h]; exact iteT (h1 h)
  · rw [decide_eq_false h]; exact iteF (h2 h)
theorem iteN {p : Prop} [Decidable p] {A B : Prop} (h1 : ¬ p → A) (h2 : p → B) : if (!decide p) = true then A else B := by
  by_cases h : p
  · rw [decide_eq_true h]; exact iteF (h2 h)
  · rw [decide_eq_false h]; exact iteT (h1 h)
/-- a while whose test leaves the heap as it is -/
theorem while_b {c : TT} {tb : TS} {D : Ends} {σ : L2.St} {H : Hp} (Pv : L2.St → Hp → Prop) (μ : L2.St → Hp → Nat) (h0 : Pv σ H)
    (hs : ∀ σ H, Pv σ H → ∃ b, (∀ Q : Bool → Hp → Prop, Q b H → c σ H Q) ∧
      (if b = true then tb { D with nx := fun σ' H' => Pv σ' H' ∧ μ σ' H' < μ σ H, ct := fun σ' H' => Pv σ' H' ∧ μ σ' H' < μ σ H, bk := D.nx } σ H else D.nx σ H)) : tWhile c tb D σ H := by
  refine ⟨fun m σ H => m = μ σ H ∧ Pv σ H, ⟨_, rfl, h0⟩, ?_⟩
  rintro m σ H ⟨rfl, p⟩
  obtain ⟨b, hc, ht⟩ := hs σ H p
  refine hc _ ?_
  cases b with
  | true =>
    rw [if_pos rfl] at ht
    exact ⟨_, fun σ' H' ⟨p', l⟩ => ⟨_, l, rfl, p'⟩, ht⟩
  | false =>
    rw [if_neg Bool.false_ne_true] at ht
    exact ht
theorem same_new {H : Hp} {p : Addr} (h : H p = none) (o : HO) : Same H (upd H p o) := fun b u q => by rw [upd_ne (ne_of_none q h)]; exact q
theorem small {n : Nat} (h : n ≤ 1000) : n ≤ sizeLine := Nat.le_of_lt (small1000 h)
/-! ### the source of draws: a dict at s, the cells' list at c -/
def srcD (c : Addr) (l m t : Int) : List (Key × V) := [(.inr "cells", .ref c), (.inr "left", .int l), (.inr "mixed", .int m), (.inr "turn", .int t)]
structure SrcL (H : Hp) (s c : Addr) (l m t : Int) (ns : List Int) : Prop where
  hs : H s = some (.dK (srcD c l m t))
  hc : H c = some (.lst (ns.map V.int))
  l0 : 0 ≤ l
  m0 : 0 ≤ m
  m1 : m < 4294967296
  t0 : 0 ≤ t
  n0 : ∀ n ∈ ns, 0 ≤ n
  len : ns.length ≤ 63
def Src (H : Hp) (s c : Addr) : Prop := ∃ l m t ns, SrcL H s c l m t ns
theorem k_cl : ¬ ((Sum.inr "cells" : Key) = (Sum.inr "left" : Key)) := by decide +kernel
theorem k_cm : ¬ ((Sum.inr "cells" : Key) = (Sum.inr "mixed" : Key)) := by decide +kernel
theorem k_ct : ¬ ((Sum.inr "cells" : Key) = (Sum.inr "turn" : Key)) := by decide +kernel
theorem k_lm : ¬ ((Sum.inr "left" : Key) = (Sum.inr "mixed" : Key)) := by decide +kernel
theorem k_lt : ¬ ((Sum.inr "left" : Key) = (Sum.inr "turn" : Key)) := by decide +kernel
theorem k_mt : ¬ ((Sum.inr "mixed" : Key) = (Sum.inr "turn" : Key)) := by decide +kernel
theorem get_cells (c : Addr) (l m t : Int) : valV (srcD c l m t) (Sum.inr "cells") = some (.ref c) := valV_pos rfl
theorem get_left (c : Addr) (l m t : Int) : valV (srcD c l m t) (Sum.inr "left") = some (.int l) := by
  unfold srcD; rw [valV_neg k_cl, valV_pos rfl]
theorem get_mixed (c : Addr) (l m t : Int) : valV (srcD c l m t) (Sum.inr "mixed") = some (.int m) := by
  unfold srcD; rw [valV_neg k_cm, valV_neg k_lm, valV_pos rfl]
theorem get_turn (c : Addr) (l m t : Int) : valV (srcD c l m t) (Sum.inr "turn") = some (.int t) := by
  unfold srcD; rw [valV_neg k_ct, valV_neg k_lt, valV_neg k_mt, valV_pos rfl]
theorem put_there {kvs : List (Key × V)} {k : Key} {u : V} (v : V) (h : valV kvs k = some u) : putK kvs k v = kvs.map (fun kv => if kv.1 = k then (kv.1, v) else kv) := by
  unfold putK
  rw [valV_any, h]
  exact if_pos rfl
theorem put_left (c : Addr) (l m t v : Int) : putK (srcD c l m t) (Sum.inr "left") (.int v) = srcD c v m t := by
  rw [put_there _ (get_left c l m t)]
  show [if (Sum.inr "cells" : Key) = (Sum.inr "left" : Key) then ((Sum.inr "cells" : Key), V.int v) else (Sum.inr "cells", V.ref c), if (Sum.inr "left" : Key) = (Sum.inr "left" : Key) then ((Sum.inr "left" : Key), V.int v) else (Sum.inr "left", V.int l),
    if (Sum.inr "mixed" : Key) = (Sum.inr "left" : Key) then ((Sum.inr "mixed" : Key), V.int v) else (Sum.inr "mixed", V.int m), if (Sum.inr "turn" : Key) = (Sum.inr "left" : Key) then ((Sum.inr "turn" : Key), V.int v) else (Sum.inr "turn", V.int t)] = _
  rw [if_neg k_cl, if_pos rfl, if_neg (Ne.symm k_lm), if_neg (Ne.symm k_lt)]
  rfl
theorem put_mixed (c : Addr) (l m t v : Int) : putK (srcD c l m t) (Sum.inr "mixed") (.int v) = srcD c l v t := by
  rw [put_there _ (get_mixed c l m t)]
  show [if (Sum.inr "cells" : Key) = (Sum.inr "mixed" : Key) then ((Sum.inr "cells" : Key), V.int v) else (Sum.inr "cells", V.ref c), if (Sum.inr "left" : Key) = (Sum.inr "mixed" : Key) then ((Sum.inr "left" : Key), V.int v) else (Sum.inr "left", V.int l),
    if (Sum.inr "mixed" : Key) = (Sum.inr "mixed" : Key) then ((Sum.inr "mixed" : Key), V.int v) else (Sum.inr "mixed", V.int m), if (Sum.inr "turn" : Key) = (Sum.inr "mixed" : Key) then ((Sum.inr "turn" : Key), V.int v) else (Sum.inr "turn", V.int t)] = _
  rw [if_neg k_cm, if_neg k_lm, if_pos rfl, if_neg (Ne.symm k_mt)]
  rfl
theorem put_turn (c : Addr) (l m t v : Int) : putK (srcD c l m t) (Sum.inr "turn") (.int v) = srcD c l m v := by
  rw [put_there _ (get_turn c l m t)]
  show [if (Sum.inr "cells" : Key) = (Sum.inr "turn" : Key) then ((Sum.inr "cells" : Key), V.int v) else (Sum.inr "cells", V.ref c), if (Sum.inr "left" : Key) = (Sum.inr "turn" : Key) then ((Sum.inr "left" : Key), V.int v) else (Sum.inr "left", V.int l),
    if (Sum.inr "mixed" : Key) = (Sum.inr "turn" : Key) then ((Sum.inr "mixed" : Key), V.int v) else (Sum.inr "mixed", V.int m), if (Sum.inr "turn" : Key) = (Sum.inr "turn" : Key) then ((Sum.inr "turn" : Key), V.int v) else (Sum.inr "turn", V.int t)] = _
  rw [if_neg k_ct, if_neg k_lt, if_neg k_mt, if_pos rfl]
  rfl
theorem srcD_made (c : Addr) (m : Int) : mergeK [] (srcD c 1 m 0) = srcD c 1 m 0 := by
  have p1 : putK ([] : List (Key × V)) (Sum.inr "cells" : Key) (V.ref c) = [((Sum.inr "cells" : Key), V.ref c)] := by rw [putK_new _ valV_nil]; rfl
  have p2 : putK ([((Sum.inr "cells" : Key), V.ref c)] : List (Key × V)) (Sum.inr "left" : Key) (V.int 1) = [((Sum.inr "cells" : Key), V.ref c), ((Sum.inr "left" : Key), V.int 1)] := by
    rw [putK_new _ (by rw [valV_neg k_cl, valV_nil])]; rfl
  have p3 : putK ([((Sum.inr "cells" : Key), V.ref c), ((Sum.inr "left" : Key), V.int 1)] : List (Key × V)) (Sum.inr "mixed" : Key) (V.int m) = [((Sum.inr "cells" : Key), V.ref c), ((Sum.inr "left" : Key), V.int 1), ((Sum.inr "mixed" : Key), V.int m)] := by
    rw [putK_new _ (by rw [valV_neg k_cm, valV_neg k_lm, valV_nil])]; rfl
  have p4 : putK ([((Sum.inr "cells" : Key), V.ref c), ((Sum.inr "left" : Key), V.int 1), ((Sum.inr "mixed" : Key), V.int m)] : List (Key × V)) (Sum.inr "turn" : Key) (V.int 0) = srcD c 1 m 0 := by
    rw [putK_new _ (by rw [valV_neg k_ct, valV_neg k_lt, valV_neg k_mt, valV_nil])]; rfl
  show putK (putK (putK (putK [] (Sum.inr "cells" : Key) (V.ref c)) (Sum.inr "left" : Key) (V.int 1)) (Sum.inr "mixed" : Key) (V.int m)) (Sum.inr "turn" : Key) (V.int 0) = srcD c 1 m 0
  rw [p1, p2, p3, p4]
theorem SrcL.ne {H : Hp} {s c : Addr} {l m t : Int} {ns : List Int} (h : SrcL H s c l m t ns) : s ≠ c := ne_of h.hs h.hc (by intro z; cases z)
/-- all but the source stands as it stood; the source is one -/
structure Go (s c : Addr) (H H' : Hp) : Prop where
  keep : ∀ a o, a ≠ s → a ≠ c → H a = some o → H' a = some o
  src : Src H' s c
theorem Src.ne_tup {H : Hp} {s c a : Addr} {xs : List V} (h : Src H s c) (e : H a = some (.tup xs)) : a ≠ s ∧ a ≠ c := by
  obtain ⟨l, m, t, ns, h⟩ := h
  exact ⟨ne_of e h.hs (by intro z; cases z), ne_of e h.hc (by intro z; cases z)⟩
theorem Src.ne_none {H : Hp} {s c a : Addr} (h : Src H s c) (e : H a = none) : a ≠ s ∧ a ≠ c := by
  obtain ⟨l, m, t, ns, h⟩ := h
  refine ⟨fun q => ?_, fun q => ?_⟩
  · rw [q, h.hs] at e
    cases e
  · rw [q, h.hc] at e
    cases e
theorem Src.same {H H' : Hp} {s c : Addr} (h : Src H s c) (e : Same H H') : Src H' s c := by
  obtain ⟨l, m, t, ns, h⟩ := h
  exact ⟨l, m, t, ns, e _ _ h.hs, e _ _ h.hc, h.l0, h.m0, h.m1, h.t0, h.n0, h.len⟩
theorem Go.refl {H : Hp} {s c : Addr} (h : Src H s c) : Go s c H H := ⟨fun _ _ _ _ e => e, h⟩
theorem Go.of {H H' : Hp} {s c : Addr} (h : Src H s c) (e : Same H H') : Go s c H H' := ⟨fun a o _ _ q => e a o q, h.same e⟩
theorem Go.trans {H H1 H2 : Hp} {s c : Addr} (a : Go s c H H1) (b : Go s c H1 H2) : Go s c H H2 := ⟨fun x o h1 h2 e => b.keep x o h1 h2 (a.keep x o h1 h2 e), b.src⟩
theorem Go.then {H H1 H2 : Hp} {s c : Addr} (a : Go s c H H1) (b : Same H1 H2) : Go s c H H2 := a.trans (.of a.src b)
theorem Go.tup {H H' : Hp} {s c a : Addr} {xs : List V} (g : Go s c H H') (h : Src H s c) (e : H a = some (.tup xs)) : H' a = some (.tup xs) :=
  g.keep _ _ (h.ne_tup e).1 (h.ne_tup e).2 e
theorem Go.lst {H H' : Hp} {s c a : Addr} {xs : List V} (g : Go s c H H') (h : Src H s c) (e : H a = some (.lst xs)) (n : a ≠ c) : H' a = some (.lst xs) := by
  obtain ⟨l, m, t, ns, h⟩ := h
  exact g.keep _ _ (ne_of e h.hs (by intro z; cases z)) n e
theorem Go.free {H H' : Hp} {s c a : Addr} (g : Go s c H H') (e : H' a = none) : H a = none := by
  have n := g.src.ne_none e
  cases q : H a with
  | none => rfl
  | some o =>
    rw [g.keep _ _ n.1 n.2 q] at e
    cases e
/-! ### what the draws promise -/
def spPick : Sp := fun vs H Q _ => ∃ (s c : Addr) (n : Int), vs = [.ref s, .int n] ∧ Src H s c ∧ 1 ≤ n ∧ n < 1000000 ∧
  ∀ (k : Int) (H' : Hp), 0 ≤ k → k < n → Go s c H H' → Q (.int k) H'
def spOf (K : PySem.W.Frag) : Sp := fun vs H Q _ => ∃ (s c a : Addr) (xs : List V), vs = [.ref s, .ref a] ∧ Src H s c ∧ H a = some (.lst xs) ∧ a ≠ c ∧ 1 ≤ xs.length ∧ xs.length < 1000000 ∧
  ∀ (i : Nat) (x : V) (H' : Hp), xs[i]? = some x → Go s c H H' → Q x H'
def spSource (K : PySem.W.Frag) : Sp := fun vs H Q _ => ∃ (a : Addr) (ns : List Int), vs = [.ref a] ∧ SqL K H a (ns.map V.int) ∧ ns.length ≤ 63 ∧
  ∀ (s c : Addr) (H' : Hp), Same H H' → H s = none → H c = none → Src H' s c → Q (.ref s) H'
def spLaw (K : PySem.W.Frag) : Sp := fun vs H Q _ => ∃ (a : Addr) (ns : List Int), vs = [.ref a] ∧ SqL K H a (ns.map V.int) ∧ ns.length ≤ 63 ∧ ∀ H', Q (.bl true) H'
end My
namespace My
open PySem PySem.Spec PyProof.Rows L2
section
variable {X : Cx}
theorem pe_gstr {x : Str} {z : Str} {pos : Pos} (hg : Gl X x) (hm : ∃ t, X.mg x = some (.str z t)) (hd : (x == ("__debug__" : Str)) = false := by decide) : PE X (.Name x pos) (tC (.str z)) := by
  obtain ⟨t, e⟩ := hm
  exact pe_glob hg e ⟨t, rfl⟩ hd
theorem pe_gint {x : Str} {i : Int} {pos : Pos} (hg : Gl X x) (hm : ∃ t, X.mg x = some (.int i t)) (hd : (x == ("__debug__" : Str)) = false := by decide) : PE X (.Name x pos) (tC (.int i)) := by
  obtain ⟨t, e⟩ := hm
  exact pe_glob hg e ⟨t, rfl⟩ hd
end
/-! ### a class of errors with one field, kept by its own __init__ -/
def classBody : Stmt → List Stmt
  | .ClassDef _ _ _ b .. => b
  | _ => []
def initOf (st : Stmt) : Stmt := (classBody st).getD 0 (.Pass ⟨0, 0, 0, 0⟩)
structure OwnE (K : PySem.W.Frag) (mg : Str → Option Value) (x q f : Str) (st : Stmt) where
  C : Addr
  fI : Addr
  fd : FuncData
  oex : OexC K C
  xf : XfC K C
  iC : PySem.W.findIn K (.ref C) "__init__" = some (some (.ref fI))
  tI : PySem.W.typeIn K (.ref fI) = some (.type "function")
  noF : PySem.W.findIn K (.ref C) f = some none
  F : Fun K "__init__" q (initOf st) fI fd
  b : Binds K fd ["self", f] []
  m : mg x = some (.ref C)
  te : PySem.W.exmOne K (.ref C) (.ref C) = some true
/-- an error of the class at C whose field f is v -/
def spInit (C : Addr) (f : Str) : Sp := fun vs H Q _ => ∃ (a : Addr) (v : V), vs = [.ref a, v] ∧ H a = some (exo a C none) ∧
  ∀ dx, H dx = none → dx ≠ a → Q .non (upd (upd H dx (exd dx [(f, v)])) a (exo a C (some dx)))
end My
namespace My
open PySem PySem.Spec PyProof.Rows L2
/-- an error of the class at S is one that «except S» takes -/
theorem exm_own {K : PySem.W.Frag} {S : Addr} (h1 : PySem.W.subIn K (.ref S) (.type "BaseException") = some true) (h2 : PySem.W.isClsIn K S = true) (h3 : PySem.W.typeIn K (.ref S) = some (.type "type")) (h4 : PySem.W.subIn K (.ref S) (.ref S) = some true) : PySem.W.exmOne K (.ref S) (.ref S) = some true := by
  have h2' : (PySem.W.clsIn K S).isSome = true := h2
  unfold PySem.W.exmOne
  unfold PySem.W.kitCls
  simp [h1, h2', h3, h4]
end My
namespace My
open PySem PySem.Spec PyProof.Rows L2
/-! ### zip of two sequences, each a list or a tuple -/
def SqK (k : Bool) (K : PySem.W.Frag) (H : Hp) (a : Addr) (xs : List V) : Prop := match k with
  | true => SqT K H a xs
  | false => SqL K H a xs
def ItK (k : Bool) (h : Heap) (it a : Addr) (i : Nat) : Prop := match k with
  | true => h.IsTupleIter it a i
  | false => h.IsListIter it a i
def HeK (k : Bool) (h : Heap) (a : Addr) (its : Array Value) : Prop := match k with
  | true => h.IsTuple a its
  | false => h.IsList a its
theorem drawK {prog : Program} {w : World} {A : Around} (hh : A.handled = none) (k : Bool) (it l : Addr) (hne : l ≠ it) (items : Array Value) :
    Draws prog w A it [it, l] items.size (fun i v => items[i]? = some v) (fun i h => ItK k h it l i ∧ HeK k h l items) := by
  cases k with
  | true => exact Draws.tuple hh it l hne items
  | false => exact Draws.list hh it l hne items
theorem ItK.to {k : Bool} {h h' : Heap} {it a : Addr} {i : Nat} (x : ItK k h it a i) (q : ∀ o, h.get? it = some o → h'.get? it = some o) : ItK k h' it a i := by
  cases k with
  | true => exact Heap.IsTupleIter.at x q
  | false => exact Heap.IsListIter.at x q
theorem ItK.ob {k : Bool} {h : Heap} {it a : Addr} {i : Nat} (x : ItK k h it a i) : ∃ o, h.get? it = some o ∧ ∀ v, o.data ≠ .cell v := by
  cases k with
  | true => obtain ⟨o, e, _, d⟩ := x; exact ⟨o, e, fun v q => by rw [d] at q; cases q⟩
  | false => obtain ⟨o, e, _, d⟩ := x; exact ⟨o, e, fun v q => by rw [d] at q; cases q⟩
section
variable {X : Cx} {pins : List (Addr × Obj)} {σ : L2.St} {H : Hp} {s : Shared}
theorem readK (I : Inv X pins σ H s) {k : Bool} {a : Addr} {xs : List V} (h : SqK k X.K H a xs) : ∃ its : List Value, Vals xs its ∧ HeK k s.heap a its.toArray ∧ a < s.heap.objs.size := by
  cases k with
  | true =>
    obtain ⟨its, r, p, _⟩ := I.tuple (show SqT X.K H a xs from h)
    obtain ⟨o, e, _⟩ := id p
    exact ⟨its, r, p, Heap.lt_size e⟩
  | false =>
    obtain ⟨its, r, p, _⟩ := I.list (show SqL X.K H a xs from h)
    exact ⟨its, r, p.isList, p.lt⟩
theorem injK (I : Inv X pins σ H s) {k : Bool} {a : Addr} {xs ys : List V} (h : SqK k X.K H a xs) (h' : SqK k X.K H a ys) : xs = ys := by
  cases k with
  | true => exact I.tuple_inj h h'
  | false => exact I.list_inj h h'
end
/-- the sequences at a and b as they stand at each turn -/
def ItzM (k l : Bool) (K : PySem.W.Frag) (a b : Addr) : It :=
  ⟨fun n M => ∃ (p q : List V) (u v : V), SqK k K M a p ∧ SqK l K M b q ∧ p[n]? = some u ∧ q[n]? = some v,
    fun n M y M' => ∃ (C : Addr) (u v : V), y = .ref C ∧ M C = none ∧ M' = upd M C (.tup [u, v]) ∧ (∀ p, SqK k K M a p → p[n]? = some u) ∧ ∀ q, SqK l K M b q → q[n]? = some v,
    fun n M => ∃ p q : List V, SqK k K M a p ∧ SqK l K M b q ∧ (n = p.length ∨ n = q.length) ∧ n ≤ p.length ∧ n ≤ q.length⟩
def ZSt (k l : Bool) (z e f i j a b : Addr) (n : Nat) (h : Heap) : Prop :=
  IsZip h z e f .none ∧ IsTupOf2 h e (.ref i) (.ref j) ∧ (∃ x y, IsTupOf2 h f x y) ∧ ItK k h i a n ∧ ItK l h j b n
theorem zsep {z e f i j a b : Addr} (D : ZipApart z e f i j a b) : ZipSep2 z e f i j [i, a] [j, b] where
  TIz := D.TIz
  TOz := D.TOz
  TITO := D.TITO
  TIi1 := D.TIi1
  mem1 := by simp
  zf1 := by simp [D.i1z.symm, D.l1z.symm]
  Tf1 := by simp [D.TOi1, D.l1TO.symm]
  TIi2 := D.TIi2
  mem2 := by simp
  zf2 := by simp [D.i2z.symm, D.l2z.symm]
  Tf2 := by simp [D.TOi2, D.l2TO.symm]
  sep1_2 := by simp [D.i12, D.l2i1.symm]
  sep2_1 := by simp [D.i12.symm, D.l1i2.symm]
theorem in5 {z e f i j c : Addr} (h : c ∈ [z, e, f, i, j]) : c = z ∨ c = e ∨ c = f ∨ c = i ∨ c = j := by simpa using h
theorem turn_zipM {P : Program} {w : World} {K : PySem.W.Frag} {elts : List Expr} {kk : Nat} {tpos : Pos} {k l : Bool} {a b z e f i j : Addr} (D : ZipApart z e f i j a b) :
    Turn P w K (.Tuple elts kk tpos) (ItzM k l K a b) [z, e, f, i, j] z (ZSt k l z e f i j a b) where
  mem := by simp
  obj := by
    intro n h S c hc
    obtain ⟨S1, S2, ⟨x, y, S3⟩, S4, S5⟩ := S
    rcases in5 hc with rfl | rfl | rfl | rfl | rfl
    · exact ⟨_, S1, fun v q => nomatch q⟩
    · exact ⟨_, S2, fun v q => nomatch q⟩
    · exact ⟨_, S3, fun v q => nomatch q⟩
    · exact S4.ob
    · exact S5.ob
  keep := by
    intro n h h' S q
    obtain ⟨S1, S2, ⟨x, y, S3⟩, S4, S5⟩ := S
    exact ⟨q _ (by simp) _ S1, q _ (by simp) _ S2, ⟨x, y, q _ (by simp) _ S3⟩, S4.to (q _ (by simp)), S5.to (q _ (by simp))⟩
  item := by
    intro X hP hw hK hc n pins s σ M E I fr S go
    subst hP hw hK
    obtain ⟨S1, S2, ⟨x0, y0, S3⟩, S4, S5⟩ := S
    obtain ⟨p, q, u, v, Lp, Lq, eu, ev⟩ := go
    obtain ⟨is, rp, hp, _⟩ := readK I Lp
    obtain ⟨js, rq, hq, _⟩ := readK I Lq
    have lp : n < is.toArray.size := by
      have := (List.getElem?_eq_some_iff.mp eu).1
      have e := rp.length
      rw [List.size_toArray]; omega
    have lq : n < js.toArray.size := by
      have := (List.getElem?_eq_some_iff.mp ev).1
      have e := rq.length
      rw [List.size_toArray]; omega
    have zl : z < s.heap.objs.size := Heap.lt_size S1
    have hd1 : X.A.in1.handled = none := I.ok.hd hc
    refine wpAny_pyNext_zipD2_item (zsep D) (drawK hd1 k i a D.l1i1 is.toArray) (drawK hd1 l j b D.l2i2 js.toArray) S1 S2 S3 ⟨S4, hp⟩ ⟨S5, hq⟩ lp lq ?_
    intro u' v' g tk Pu Pv z2 f2 s4 s5 hT sz kp
    obtain ⟨w1, hw1, r1⟩ := rp.get eu
    obtain ⟨w2, hw2, r2⟩ := rq.get ev
    obtain rfl : u' = w1 := by
      have h1 : is[n]? = some u' := by simpa using Pu
      rw [hw1] at h1; exact (Option.some.inj h1).symm
    obtain rfl : v' = w2 := by
      have h1 : js[n]? = some v' := by simpa using Pv
      rw [hw2] at h1; exact (Option.some.inj h1).symm
    refine ⟨_, rfl, wpAny_letOwnedTupleGo_zip (s := { s with heap := g, toks := tk }) z2 fun g' z3 sb => ?_⟩
    have nz : s.heap.objs.size ≠ z := Nat.ne_of_gt zl
    have hT' : g'.get? s.heap.objs.size = some { cls := .type "tuple", data := .seq #[u', v'] } := (sb.2 _ nz).trans hT
    have ok : ObjOk X.prog X.w (upd M s.heap.objs.size (.tup [u, v])) g' s.heap.objs.size (.tup [u, v]) :=
      ⟨(by show 2 ≤ sizeLine; decide), [u', v'], .cons r1 (.cons r2 .nil), _, hT', rfl, _, rfl⟩
    have J : Inv X pins σ (upd M s.heap.objs.size (.tup [u, v])) { s with heap := g', toks := tk } := by
      refine I.turnedNew (t' := tk) (ch := [z, e, f, i, j]) (fun c o hb q => ?_) fr (Nat.le_refl _) ok
      have nb : c ≠ z ∧ c ≠ e ∧ c ≠ f ∧ c ≠ i ∧ c ≠ j := by simpa using hb
      exact (sb.2 c nb.1).trans (kp c o nb.1 nb.2.2.1 nb.2.2.2.1 nb.2.2.2.2 q)
    refine ⟨.ref s.heap.objs.size, _, J, rfl, ⟨_, u, v, rfl, I.hok.fresh (Nat.le_refl _), rfl, fun p' hp' => ?_, fun q' hq' => ?_⟩, ?_, fun c hcm => ?_⟩
    · rw [injK I hp' Lp]; exact eu
    · rw [injK I hq' Lq]; exact ev
    · refine ⟨z3, (sb.2 _ D.TIz).trans (kp _ _ D.TIz D.TITO D.TIi1 D.TIi2 S2), ⟨_, _, (sb.2 _ D.TOz).trans f2⟩, ?_, ?_⟩
      · exact s4.1.to fun o q => (sb.2 _ D.i1z).trans q
      · exact s5.1.to fun o q => (sb.2 _ D.i2z).trans q
    · have lt : c < s.heap.objs.size := by
        rcases in5 hcm with rfl | rfl | rfl | rfl | rfl
        · exact zl
        · exact Heap.lt_size S2
        · exact Heap.lt_size S3
        · obtain ⟨o, q, _⟩ := S4.ob; exact Heap.lt_size q
        · obtain ⟨o, q, _⟩ := S5.ob; exact Heap.lt_size q
      rw [upd_ne (Nat.ne_of_lt lt)]
      exact (fr c hcm).1
  done := by
    intro X hP hw hK hc n pins s σ M E I fr S stop
    subst hP hw hK
    obtain ⟨S1, S2, ⟨x0, y0, S3⟩, S4, S5⟩ := S
    obtain ⟨p, q, Lp, Lq, en, n1, n2⟩ := stop
    obtain ⟨is, rp, hp, _⟩ := readK I Lp
    obtain ⟨js, rq, hq, _⟩ := readK I Lq
    have ep := rp.length
    have eq := rq.length
    have hd1 : X.A.in1.handled = none := I.ok.hd hc
    refine wpAny_pyNext_zipD2_end (zsep D) (drawK hd1 k i a D.l1i1 is.toArray) (drawK hd1 l j b D.l2i2 js.toArray) S1 S2 S3 ⟨S4, hp⟩ ⟨S5, hq⟩ (by rw [List.size_toArray]; omega) (by rw [List.size_toArray]; omega) (by rw [List.size_toArray, List.size_toArray]; omega) ?_
    intro g tk kp
    refine ⟨rfl, I.turnedL (t' := tk) (ch := [z, e, f, i, j]) (fun c o hb q => ?_) fr⟩
    have nb : c ≠ z ∧ c ≠ e ∧ c ≠ f ∧ c ≠ i ∧ c ≠ j := by simpa using hb
    exact kp c o nb.1 nb.2.2.1 nb.2.2.2.1 nb.2.2.2.2 q
  self := fun A n s Q E S h => wpAny_pyIter_zip S.1 h
theorem beginK (k : Bool) (a : Addr) (its : Array Value) : ∃ o, Begins (.ref a) o (fun h => HeK k h a its) ∧ ∀ (h : Heap) (it : Addr), h.get? it = some o → ItK k h it a 0 := by
  cases k with
  | true => exact ⟨_, begins_tuple a its, fun h it e => ⟨_, e, rfl, rfl⟩⟩
  | false => exact ⟨_, begins_list a its, fun h it e => ⟨_, e, rfl, rfl⟩⟩
def iZipM (K : PySem.W.Frag) (ta : TA) : TI := fun σ M R => ta σ M fun vs M1 => ∃ (k l : Bool) (a b : Addr) (p q : List V), vs = [.ref a, .ref b] ∧ SqK k K M1 a p ∧ SqK l K M1 b q ∧ R (ItzM k l K a b) M1
theorem pi_zipM {X : Cx} {e e2 : Expr} {ta : TA} {p pos tpos : Pos} {elts : List Expr} {kk : Nat} (hg : Gl X "zip") (hm : X.mg "zip" = none) (ha : PA X [e, e2] ta)
    (hs : starEach [e, e2] X.env = (false, eval e X.env) :: starEach [e2] X.env := by rfl) (hpl : (backTo pos (starEach [e2] X.env)).any (·.1) = false := by rfl) :
    PI X (.Tuple elts kk tpos) (.Call (.Name "zip" p) [e, e2] [] pos) (iZipM X.K ta) := by
  refine ⟨fun pins s σ M R I h => Call_ (ld_blt I hg hm PyProof.Rows.boot_zip (PyProof.Rows.callWith_type1 (thn (ha.run pos pins s σ M _ I h) fun us s1 hh => ?_) hs hpl))⟩
  obtain ⟨vs, M1, I1, r1, k, l, a, b, xs, ys, ev, Lx, Ly, q⟩ := hh
  subst ev
  obtain ⟨u1, u2, rfl, e1, e2⟩ := vals2 r1
  cases (show u1 = Value.ref a from e1)
  cases (show u2 = Value.ref b from e2)
  obtain ⟨is, rp, hp, la⟩ := readK I1 Lx
  obtain ⟨js, rq, hq, lb⟩ := readK I1 Ly
  obtain ⟨o1, B1, t1⟩ := beginK k a is.toArray
  obtain ⟨o2, B2, t2⟩ := beginK l b js.toArray
  refine zip_begins2 B1 B2 hp hq fun g z1 z2 z3 g1 g2 sz kp => wpAny_pyIter_zip z1 ?_
  have J : Inv X pins σ M1 { s1 with heap := g } := I1.kept (t' := s1.toks) kp
  refine ⟨s1.heap.objs.size + 4, [s1.heap.objs.size + 4, s1.heap.objs.size + 2, s1.heap.objs.size + 3, s1.heap.objs.size, s1.heap.objs.size + 1], _, _, M1, rfl, J, turn_zipM (PySem.W.ktu_apart s1.heap.objs.size a b la lb), ⟨z1, z2, ⟨_, _, z3⟩, t1 _ _ g1, t2 _ _ g2⟩, fun c hcm => ?_, q⟩
  have le : s1.heap.objs.size ≤ c := by
    rcases in5 hcm with rfl | rfl | rfl | rfl | rfl <;> first | exact Nat.le_add_right _ _ | exact Nat.le_refl _
  exact I1.fpOk le (I1.hok.fresh le)
/-- a loop over zip of two sequences of one length -/
theorem for_zipM {k l : Bool} {K : PySem.W.Frag} {a b : Addr} {p q : List V} {g : TG} {tb : TS} {D : Ends} {σ : L2.St} {M : Hp} (hl : p.length = q.length) (Pv : Nat → L2.St → Hp → Prop) (h0 : Pv 0 σ M) (hq : ∀ n σ M, Pv n σ M → SqK k K M a p ∧ SqK l K M b q)
    (hs : ∀ (n : Nat) (u v : V) (C : Addr) (σ : L2.St) (M : Hp), p[n]? = some u → q[n]? = some v → Pv n σ M → M C = none → g (.ref C) σ (upd M C (.tup [u, v])) fun σ2 M2 => tb { D with nx := Pv (n + 1), ct := Pv (n + 1), bk := D.nx } σ2 M2) (hd : ∀ σ M, Pv p.length σ M → D.nx σ M) :
    ∃ W : Nat → Nat → L2.St → Hp → Prop, (∃ m, W 0 m σ M) ∧ ∀ n m σ M, W n m σ M →
      ((ItzM k l K a b).stop n M ∧ D.nx σ M) ∨ ((ItzM k l K a b).go n M ∧ ∃ N : L2.St → Hp → Prop, (∀ σ' M', N σ' M' → ∃ m', m' < m ∧ W (n + 1) m' σ' M') ∧ ∀ y M', (ItzM k l K a b).yld n M y M' → g y σ M' fun σ2 M2 => tb { D with nx := N, ct := N, bk := D.nx } σ2 M2) := by
  refine ⟨fun n m σ M => m + n = p.length ∧ Pv n σ M, ⟨p.length, by simp, h0⟩, ?_⟩
  rintro n m σ M ⟨em, pv⟩
  obtain ⟨Lp, Lq⟩ := hq n σ M pv
  by_cases c : n < p.length
  · have eu : p[n]? = some p[n] := List.getElem?_eq_getElem c
    have ev : q[n]? = some (q[n]'(by omega)) := List.getElem?_eq_getElem (by omega)
    refine .inr ⟨⟨p, q, _, _, Lp, Lq, eu, ev⟩, Pv (n + 1), fun σ' M' pv' => ⟨m - 1, by omega, by omega, pv'⟩, fun y M' hy => ?_⟩
    obtain ⟨C, u, v, rfl, nC, rfl, f1, f2⟩ := hy
    exact hs n u v C σ M (f1 p Lp) (f2 q Lq) pv nC
  · have e : n = p.length := by omega
    subst e
    exact .inl ⟨⟨p, q, Lp, Lq, .inl rfl, Nat.le_refl _, by omega⟩, hd σ M pv⟩
end My
namespace My
open PySem PySem.Spec PyProof.Rows L2
/-! ### own classes of errors over any built-in one, kept by an __init__ of their own -/
/-- what the written part says of the class at C over the built-in errors of mro B -/
structure OexG (K : PySem.W.Frag) (C : Addr) (newId : String) (B : List Value) : Prop where
  cls : ∃ nm q N bs bm sn sub ab col dd k0 k1 k2 k3 k5, K.lookup C = some (excClassObj nm q C N bs bm true sn sub ab col dd k0 k1 k2 k3 k5 newId) ∧ PySem.W.excTail B bm = true
  sa : PySem.W.findIn K (.ref C) "__setattr__" = some (some (.builtin "object.__setattr__"))
  exC : PySem.W.subIn K (.ref C) (.type "BaseException") = some true
  tyC : PySem.W.typeIn K (.ref C) = some (.type "type")
  kC : PySem.W.keepIn K (.ref C) = true
/-- the mro of LookupError -/
abbrev leM : List Value := [.type "LookupError", .type "Exception", .type "BaseException", .type "object"]
section
variable {prog : Program} {w : World} {A : Around} {R : Result → Shared → Prop} {hp : Heap} {g : Array GenState} {d : Drawn} {t : Nat} {os : OsState} {B : List Value} {b0 : String}
/-- the first store into such an error: its dict is laid -/
theorem osaG {K : PySem.W.Frag} {name : Str} {tk : Tok} {v : Value} {x C : Addr} {fv : Array Value} {cd : ClassData} (SF : StoreFacts b0 B "object.__setattr__" "object")
    (X : K.In hp) (hx : hp.get? x = some { cls := .ref C, data := .fields fv }) (hcd : PySem.W.clsIn K C = some cd) (bm : List Value) (hm : cd.mro = .ref C :: bm) (hb : PySem.W.excTail B bm = true) (hh : cd.hasDict = true) (ha : PySem.W.findIn K (.ref C) name = some none)
    (hq : ∀ h' tk' dx, (∀ b o, b ≠ x → hp.get? b = some o → h'.get? b = some o) → hp.objs.size ≤ dx → dx ≠ x → h'.get? x = some { cls := .ref C, dict := some dx, data := .fields fv } →
      h'.Ns1 dx (fun y => if y = name then some v else none) → R (.ok (.ret .none)) ⟨h', g, d, tk', os⟩) :
    codeAny (model prog w) A (.call (.builtin "object.__setattr__") ⟨[.ref x, .str name tk, v], []⟩) R ⟨hp, g, d, t, os⟩ := by
  have I : PySem.W.InstAt hp x { cls := .ref C, data := .fields fv } C none := ⟨hx, rfl, rfl, trivial⟩
  have hxs : x ≠ hp.objs.size := Nat.ne_of_lt (Heap.lt_size hx)
  have hcls : PySem.W.Looks (model prog w) hp (classData C) cd := PySem.W.looks_clsIn X hcd
  have ov : PySem.W.excOver K C B = true := by
    unfold PySem.W.excOver
    rw [hcd]
    show (match cd.mro with | .ref C' :: bm => C' == C && PySem.W.excTail B bm | _ => false) = true
    rw [hm]
    show ((C == C) && PySem.W.excTail B bm) = true
    rw [hb, beq_self_eq_true]
    rfl
  have tk0 : PySem.W.takerIn K C name = some none := by
    unfold PySem.W.takerIn
    rw [ha]
    rfl
  refine PySem.W.osa_openX (r := none) SF X I ov tk0 fun bb => ?_
  obtain ⟨nm, bs, mro, ns, qn, hd, sn, sb, ab, col, del⟩ := cd
  dsimp only at hh
  subst hh
  show wpAny _ _ (Builtin.ObjectAttr.storeInOwnDict _ _ _ _ _ _) _ _ _
  unfold Builtin.ObjectAttr.storeInOwnDict Builtin.ObjectAttr.ownDictForStores
  repeat (first | with_reducible refine PySem.HandSPX.store_in_new ?_ ?_ | with_reducible refine wpAny_loadPart_at hx ?_ | with_reducible refine hcls.at ?_ | wp_step)
  · exact ⟨_, #[], _, (Heap.get?_update_ne _ _ _ _ hxs.symm).trans (Heap.get?_push_at rfl rfl), rfl, fun e he => absurd he (by simp), fun _ => rfl⟩
  · intro h' tk' hn' hs
    have hx1 : (hp.push { cls := .type "dict", data := .dict #[] }).get? x = some { cls := .ref C, data := .fields fv } := Heap.get?_push_of_some _ hx
    exact hq h' tk' hp.objs.size (fun b o hb ho => (hs.2 b (Nat.ne_of_lt (Heap.lt_size ho))).trans ((Heap.get?_update_ne _ _ _ _ hb).trans (Heap.get?_push_of_some _ ho))) (Nat.le_refl _) hxs.symm ((hs.2 x hxs).trans (Heap.get?_update_self _ hx1 rfl)) hn'
end
end My
namespace My
open PySem PySem.Spec PyProof.Rows L2
section
variable {X : Cx} {pins : List (Addr × Obj)} {σ : L2.St} {H : Hp} {s : Shared} {a C : Addr} {f : Str} {y : V} {u : Value} {A : Around} {newId b0 : String} {B : List Value}
/-- self.f = y, the first one, for errors over any base -/
theorem ostG {Q : Unit → Shared → Prop} {E : Value → Shared → Prop} (SF : StoreFacts b0 B "object.__setattr__" "object") (T : OexG X.K C newId B) (I : Inv X pins σ H s) (ea : H a = some (exo a C none)) (no : PySem.W.findIn X.K (.ref C) f = some none) (ry : RelV y u)
    (k : ∀ dx s', H dx = none → dx ≠ a → Inv X pins σ (L2.upd (L2.upd H dx (exd dx [(f, y)])) a (exo a C (some dx))) s' → Q () s') : wpAny (model X.prog X.w) A (setAttr (.ref a) f u) Q E s := by
  obtain ⟨nm, q, N, bs, bm, sn, sub, ab, col, dd, k0, k1, k2, k3, k5, hC, hb⟩ := T.cls
  have hcl : PySem.W.clsIn X.K C = some { name := nm, bases := bs, mro := .ref C :: bm, ns := N, qualname := q, hasDict := true, slotNames := sn, subclasses := sub, abstract := ab, collection := col, hasDel := false } := by
    unfold PySem.W.clsIn; rw [hC] <;> rfl
  obtain ⟨t1, ho⟩ := exo_at I.hok ea
  obtain ⟨hp, g, d, t, os⟩ := s
  refine PySem.W.set_plain I.kIn (ox := { cls := .ref C, dict := none, data := .fields #[.ref t1, .none, .none, .none, .bool false, .none] }) (od := none) ⟨ho, rfl, rfl, trivial⟩ T.sa (osaG SF I.kIn ho hcl bm rfl hb rfl no fun h' tk' dx kp dn dne hx hn => ?_)
  have hd : H dx = none := I.hok.fresh dn
  have nd : ∀ {b : Addr} {o : Obj}, hp.get? b = some o → b ≠ dx := fun {b o} z => Nat.ne_of_lt (Nat.lt_of_lt_of_le (Heap.lt_size z) dn)
  have na : ∀ {b : Addr}, H b = none → b ≠ a := fun {b} n z => by rw [z, ea] at n; cases n
  have U : Un X.fs [] H (L2.upd (L2.upd H dx (exd dx [(f, y)])) a (exo a C (some dx))) hp h' := by
    refine ⟨fun b o z n _ _ => kp b o (na n) z, fun b o z n _ _ => ⟨o.slots, kp b o (na n) z⟩, fun b o z n _ => ?_, fun b o z _ => ?_, fun b xs z => ?_, fun b o v z => ?_, fun b ps z => ⟨#[], ?_⟩⟩
    · rw [upd_ne (na n), upd_ne (nd z)]; exact n
    · by_cases hba : b = a
      · exact ⟨_, by rw [hba]; exact hx⟩
      · exact ⟨o, kp b o hba z⟩
    · rw [upd_ne (at_ne ea z exo_tup), upd_ne (ne_of_none z hd)]; exact z
    · rw [upd_ne (at_ne ea z exo_frz), upd_ne (ne_of_none z hd)]; exact z
    · rw [upd_ne (at_ne ea z exo_tbl), upd_ne (ne_of_none z hd), z]; simp
  refine k dx _ hd dne (I.un (t' := tk') U fun b o z => ?_)
  by_cases hba : b = a
  · subst hba
    rw [upd_same] at z
    cases z
    exact exo_ok hx
  rw [upd_ne hba] at z
  by_cases hbd : b = dx
  · subst hbd
    rw [upd_same] at z
    cases z
    exact exd_ok hn (relO_put (fs := []) ry fun g => True.intro)
  rw [upd_ne hbd] at z
  refine (I.hok b o z).stay (fun c v hc z2 => kp c v ?_ z2) (fun c hc => ?_) (fun c xs hc => ?_)
  · rcases hc with hc | hc
    · rw [hc]; exact hba
    · exact at_ne ea hc exo_own
  · rw [upd_ne (at_ne ea hc exo_own), upd_ne (ne_of_none hc hd)]; exact hc
  · rw [upd_ne (at_ne ea hc exo_tup), upd_ne (ne_of_none hc hd)]; exact hc
end
/-- self.f = e, the one store of such an __init__ -/
def tOstG (K : PySem.W.Frag) (newId : String) (B : List Value) (f : Str) (to te : TE) : TS := fun D σ H => te σ H fun y H1 => to σ H1 fun x H2 => ∃ a C : Addr, x = .ref a ∧ OexG K C newId B ∧ PySem.W.findIn K (.ref C) f = some none ∧
  H2 a = some (exo a C none) ∧ ∀ dx, H2 dx = none → dx ≠ a → D.nx σ (L2.upd (L2.upd H2 dx (exd dx [(f, y)])) a (exo a C (some dx)))
section
variable {X : Cx} {o e : Expr} {es : List Expr} {to te : TE} {ta : TA} {f : Str} {p p' pos : Pos} {newId initId b0 : String} {B : List Value}
theorem ps_ostG (SF : StoreFacts b0 B "object.__setattr__" "object") (ho : PE X o to) (he : PE X e te) (hs : swapsWith e (some (.Attribute o f p')) pos.line X.env = pure false := by rfl) : PS X (.Assign [.Attribute o f p'] e pos) (tOstG X.K newId B f to te) := by
  refine ⟨fun pins s σ H D I h => plainObj_wpAny_Assign_Attribute (thn (he.run pins s σ H _ I h) fun v s1 ⟨y, H1, I1, r1, q1⟩ => thn (ho.run pins s1 σ H1 _ I1 q1) fun u s2 ⟨x, H2, I2, r2, a, C, ex, T, no, ea, q⟩ => ?_) hs⟩
  subst ex
  obtain rfl : u = Value.ref a := r2
  exact ostG SF T I2 ea no r1 fun dx s' n ne J => ⟨σ, _, J, q dx n ne⟩
/-- C(e, ..), an error over any base being made -/
theorem pmk_G {CX : CXT} {x : Str} {C fI : Addr} {k : Nat} {fd : FuncData} {ps : List Str} {sp : Sp} {ds : List Value} {dvs : List V} (FB : ExcBaseFacts b0 newId initId B) (T : OexG X.K C newId B) (iC : PySem.W.findIn X.K (.ref C) "__init__" = some (some (.ref fI))) (tI : PySem.W.typeIn X.K (.ref fI) = some (.type "function"))
    (F1 : FnOk X.prog X.w X.K X.mg X.base CX k fI fd ps sp) (hr : Room (k + 1) X.A) (hb : Binds X.K fd ps ds) (hd : Vals dvs ds) (hx : Passes CX X (fun _ _ _ => False)) (hg : Gl X x) (hm : X.mg x = some (.ref C)) (ha : PA X (e :: es) ta)
    (hdb : (x == ("__debug__" : Str)) = false := by decide) (he : starEach (e :: es) X.env = (false, eval e X.env) :: starEach es X.env := by rfl) (hpl : (backTo pos (starEach es X.env)).any (·.1) = false := by rfl) : PMk X (.Call (.Name x p) (e :: es) [] pos) (tMkO C sp dvs ta) := by
  intro pins s σ H Q I h
  obtain ⟨nm, q, N, bs, bm, sn, sub, ab, col, dd, k0, k1, k2, k3, k5, hC, hbm⟩ := T.cls
  refine wpAny_Call_Name_kw (ld_glob I hg hm ?_ hdb)
  refine PySem.W.callWith_K (h₀ := X.base) I.ok.mod.kin T.kC (thn (ha.run pos pins s σ H _ I h) fun us s1 ⟨vs, H1, I1, r1, hz, q1⟩ => ⟨I1.kIn, (show wpAny _ _ (call (.ref C) us) _ _ _ from ?_)⟩) he hpl
  obtain ⟨hp, g, dr, tk, os⟩ := s1
  have hsz : hp.objs.size ≤ hp.objs.size + 1 := Nat.le_succ _
  have hq := q1 (hp.objs.size + 1) (I1.hok.fresh hsz)
  have kk : ∀ b o, hp.get? b = some o → ((hp.push (PySem.W.kdv_tup us)).push (PySem.HandSPX.excO C hp.objs.size)).get? b = some o := fun b o z => Heap.get?_push_of_some _ (Heap.get?_push_of_some _ z)
  have hget : ((hp.push (PySem.W.kdv_tup us)).push (PySem.HandSPX.excO C hp.objs.size)).get? (hp.objs.size + 1) = some (PySem.HandSPX.excO C hp.objs.size) := by heap_get
  have I2 := I1.laid (t' := tk) (a := hp.objs.size + 1) (o := exo (hp.objs.size + 1) C none) (h' := (hp.push (PySem.W.kdv_tup us)).push (PySem.HandSPX.excO C hp.objs.size)) kk hsz (exo_ok hget)
  have r2 : Vals (V.ref (hp.objs.size + 1) :: (vs ++ dvs)) (Value.ref (hp.objs.size + 1) :: (us ++ ds)) := .cons rfl (r1.append hd)
  have hl : (Value.ref (hp.objs.size + 1) :: us ++ ds).length = ps.length := by
    have z := r2.length; rw [F1.len _ _ _ _ hq] at z; exact z.symm
  have hus : us.length ≤ sizeLine := by rw [← Paired.length r1, sizeLine_eq]; omega
  refine wpAny_call (PySem.HandSPX.call_own FB (fun Y => PySem.W.excTail_contains Y bm hbm) (I1.kIn _ _ hC) (PySem.W.looks_findIn I1.kIn iC) (fun self => PySem.W.bind_fn I1.kIn self tI) hus
    (codeAny_mono (F1.run _ X.stack _ _ ⟨Value.ref (hp.objs.size + 1) :: us, []⟩ (Value.ref (hp.objs.size + 1) :: (us ++ ds)) _ _ (fun _ _ _ => False) (hr.make C us []) (I2.env0.make C us []) (hb _ (Value.ref (hp.objs.size + 1) :: us) I2.kIn hl) r2 hq) fun r s' hq' => ?_))
  rcases r with er | fl
  · exact hx pins σ _ _ er s' I2 hq'
  cases fl with
  | ret u =>
    obtain ⟨v, H2, os2, bare2, un2, hok2, rv, ev, d, fs, ea, ed, hd1, q2⟩ := hq'
    subst ev
    obtain ⟨h2, g2, d2, t2, os'⟩ := s'
    exact ⟨rv, mk_end (raises_own T.exC T.tyC) I1 hsz kk un2 hok2 os2 bare2 ea ed hd1 q2⟩
  | _ => exact False.elim hq'
end
/-! ### a class of errors over LookupError with one field, kept by its own __init__ -/
structure OwnL (K : PySem.W.Frag) (mg : Str → Option Value) (x q f : Str) (st : Stmt) where
  C : Addr
  fI : Addr
  fd : FuncData
  oex : OexG K C "LookupError.__new__" leM
  xf : XfC K C
  iC : PySem.W.findIn K (.ref C) "__init__" = some (some (.ref fI))
  tI : PySem.W.typeIn K (.ref fI) = some (.type "function")
  noF : PySem.W.findIn K (.ref C) f = some none
  F : Fun K "__init__" q (initOf st) fI fd
  b : Binds K fd ["self", f] []
  m : mg x = some (.ref C)
  te : PySem.W.exmOne K (.ref C) (.ref C) = some true
end My
namespace My
open PySem PySem.Spec PyProof.Rows L2 HT
/-! ### slices of a tuple with a step -/
section
variable {prog : Program} {w : World} {A : Around} {E : Value → Shared → Prop} {s : Shared}
theorem sliceApplied_step {sl : Addr} {vl vu vs : Value} {lo hi : Option Int} {st : Int} {n : Nat} {Q : Int × Int × Nat → Shared → Prop} (hs : s.heap.IsSliceOf sl vl vu vs) (pl : IsPart vl lo) (pu : IsPart vu hi) (ps : IsPart vs (some st)) (h0 : st ≠ 0)
    (h : Q ((Builtin.Slice.sliceAdjust lo hi st (n : Int)).1, st, Builtin.Slice.slicePlaces (Builtin.Slice.sliceAdjust lo hi st (n : Int)).1 (Builtin.Slice.sliceAdjust lo hi st (n : Int)).2 st) s) : wpAny (model prog w) A (Builtin.Slice.sliceApplied (.ref sl) (pure (n : Int))) Q E s := by
  obtain ⟨os, hos, hcs, hds⟩ := id hs
  unfold Builtin.Slice.sliceApplied Builtin.Slice.sliceFields
  refine wpAny_bind (wpAny_bind (wpAny_field hos hds (x := vl) rfl (wpAny_bind (wpAny_field hos hds (x := vu) rfl (wpAny_bind (wpAny_field hos hds (x := vs) rfl (wpAny_pure ?_)))))))
  refine wpAny_bind (slicePart_ ps ?_)
  show wpAny _ _ (if (st == 0) = true then _ else _) _ _ s
  rw [if_neg (fun z => h0 (eq_of_beq z))]
  refine wpAny_bind (slicePart_ pl (wpAny_bind (slicePart_ pu (wpAny_bind (wpAny_pure ?_)))))
  exact wpAny_pure h
end
/-- the places of a slice with a step -/
def stepAt (n : Nat) (lo hi : Option Int) (st : Int) : List Nat :=
  (List.range (Builtin.Slice.slicePlaces (Builtin.Slice.sliceAdjust lo hi st (n : Int)).1 (Builtin.Slice.sliceAdjust lo hi st (n : Int)).2 st)).map fun (m : Nat) => ((Builtin.Slice.sliceAdjust lo hi st (n : Int)).1 + (m : Int) * st).toNat
def stepV {α : Type} (xs : List α) (lo hi : Option Int) (st : Int) : List α := (stepAt xs.length lo hi st).filterMap fun i => xs[i]?
theorem vals_pick {xs : List V} {us : List Value} (r : Vals xs us) : ∀ is : List Nat, Vals (is.filterMap fun i => xs[i]?) (is.filterMap fun i => us[i]?)
  | [] => .nil
  | i :: is => by
    cases e : xs[i]? with
    | none =>
      have e2 : us[i]? = none := by
        rw [List.getElem?_eq_none_iff] at e ⊢
        rw [← r.length]; exact e
      rw [List.filterMap_cons_none e, List.filterMap_cons_none e2]
      exact vals_pick r is
    | some x =>
      obtain ⟨u, e2, ru⟩ := r.get e
      rw [List.filterMap_cons_some e, List.filterMap_cons_some e2]
      exact .cons ru (vals_pick r is)
theorem filter_le {α : Type} (xs : List α) : ∀ is : List Nat, (is.filterMap fun i => xs[i]?).length ≤ is.length := fun is => List.length_filterMap_le _ _
/-- t[lo:hi:st], not in single steps -/
def tStpT (K : PySem.W.Frag) (te : TE) (tl th ts : TO) : TE := fun σ H Q => te σ H fun x H1 => tl σ H1 fun l H2 => th σ H2 fun u H3 => ts σ H3 fun o H4 => ∃ a xs st, x = .ref a ∧ o = some st ∧ SqT K H4 a xs ∧ st ≠ 0 ∧ st ≠ 1 ∧ (stepAt xs.length l u st).length ≤ sizeLine ∧ ∀ p, H4 p = none → Q (.ref p) (L2.upd H4 p (.tup (stepV xs l u st)))
section
variable {X : Cx} {e : Expr} {te : TE} {lo hi stp : Option Expr} {tl th ts : TO} {p2 pos : Pos}
theorem pe_stpT (fl : Bool) (he : PE X e te) (hl : PO X lo tl) (hh : PO X hi th) (hst : PO X stp ts)
    (hsub : ∀ a sl : Addr, subscripted (.Slice lo hi stp p2) false (.ref a) (.ref sl) = operate (if fl = true then [.ref a, .ref sl] else [.ref sl, .ref a]) (getItem (.ref a) (.ref sl)) := by intro a sl; with_unfolding_all rfl) : PE X (.Subscript e (.Slice lo hi stp p2) pos) (tStpT X.K te tl th ts) := by
  refine ⟨fun pins s σ H Q I h => ?_⟩
  refine Subscript_ (thn (he.run pins s σ H _ I h) fun v s1 ⟨x, H1, I1, r1, q1⟩ => ?_)
  refine wpAny_Slice (thn (hl.run pins s1 σ H1 _ I1 q1) fun vl s2 ⟨l, H2, I2, pl, q2⟩ => thn (hh.run pins s2 σ H2 _ I2 q2) fun vu s3 ⟨u, H3, I3, pu, q3⟩ => thn (hst.run pins s3 σ H3 _ I3 q3) fun vs s4 ⟨o, H4, I4, ps, q4⟩ => ?_)
  obtain ⟨a, xs, st, ex, eo, hx, n0, n1, hz4, q⟩ := q4
  subst ex eo
  cases r1
  have I5 : Inv X pins σ H4 { s4 with heap := s4.heap.push { cls := .type "slice", data := .fields #[vl, vu, vs] } } := I4.kept (t' := s4.toks) fun b ob q => Heap.get?_push_of_some _ q
  obtain ⟨its, r, ht, hz⟩ := I5.tuple hx
  have hlen : its.toArray.size = xs.length := by rw [List.size_toArray]; exact r.length.symm
  have hs : ({ s4 with heap := s4.heap.push { cls := .type "slice", data := .fields #[vl, vu, vs] } } : Shared).heap.IsSliceOf s4.heap.objs.size vl vu vs := Heap.IsSliceOf.new ..
  obtain ⟨os, hos, hcs, hds⟩ := id hs
  have hTs : ({ s4 with heap := s4.heap.push { cls := .type "slice", data := .fields #[vl, vu, vs] } } : Shared).TypeIs (.ref s4.heap.objs.size) "slice" := ⟨os, hos, hcs⟩
  show wpAny (model X.prog X.w) X.A (subscriptTail e (.Slice lo hi stp p2) (.ref a) (.ref s4.heap.objs.size)) (EP X pins σ Q) X.xe { s4 with heap := s4.heap.push { cls := .type "slice", data := .fields #[vl, vu, vs] } }
  refine tail_any (ops := if fl = true then [.ref a, .ref s4.heap.objs.size] else [.ref s4.heap.objs.size, .ref a]) ht.typeIs PyProof.Rows.slot_tuple_getitem.lookup ?_ (hsub _ _)
  generalize hS : ({ s4 with heap := s4.heap.push { cls := .type "slice", data := .fields #[vl, vu, vs] } } : Shared) = S at *
  unfold getItem
  try with_reducible refine wpAny_holding ?_
  first | refine wpAny_bind (wpAny_pure ?_) | skip
  refine wpAny_bind (wpAny_sequenceKey ht.typeIs (by decide) ?_)
  refine wpAny_bind (wpAny_callSpecial?_slot (name := Str.ofString "__getitem__") ht.typeIs PyProof.Rows.slot_tuple_getitem
    (wpAny_call_entry PyProof.Rows.slot_tuple_getitem ht.typeIs entry_tuple_getitem ?_ (args_tuple_getitem _ _)))
  show wpAny _ _ (Builtin.Tuple.tupleItemsOf (.ref a) >>= _) _ _ S
  refine wpAny_bind (tupleItemsOf_ ht ?_)
  refine wpAny_bind (wpAny_typeOf hTs ?_)
  rw [if_pos (by decide)]
  refine wpAny_bind (sliceApplied_step hs pl pu ps n0 ?_)
  have hno : ¬ (((Builtin.Slice.sliceAdjust l u st (its.toArray.size : Int)).1 == 0 && st == 1 && Builtin.Slice.slicePlaces (Builtin.Slice.sliceAdjust l u st (its.toArray.size : Int)).1 (Builtin.Slice.sliceAdjust l u st (its.toArray.size : Int)).2 st == its.toArray.size) = true) := fun z => by
    rw [Bool.and_eq_true, Bool.and_eq_true] at z
    exact n1 (eq_of_beq z.1.2)
  show wpAny _ _ (if ((Builtin.Slice.sliceAdjust l u st (its.toArray.size : Int)).1 == 0 && st == 1 && Builtin.Slice.slicePlaces (Builtin.Slice.sliceAdjust l u st (its.toArray.size : Int)).1 (Builtin.Slice.sliceAdjust l u st (its.toArray.size : Int)).2 st == its.toArray.size) = true then _ else _) _ _ S
  rw [if_neg hno]
  have eS : ((List.range (Builtin.Slice.slicePlaces (Builtin.Slice.sliceAdjust l u st (its.toArray.size : Int)).1 (Builtin.Slice.sliceAdjust l u st (its.toArray.size : Int)).2 st)).filterMap fun (k : Nat) => its.toArray[((Builtin.Slice.sliceAdjust l u st (its.toArray.size : Int)).1 + (k : Int) * st).toNat]?) = (stepAt xs.length l u st).filterMap fun i => its[i]? := by
    unfold stepAt
    rw [hlen, List.filterMap_map]
    congr 1
    funext k
    simp
  have rv := vals_pick r (stepAt xs.length l u st)
  have hsz : ((stepAt xs.length l u st).filterMap fun i => its[i]?).length ≤ sizeLine := Nat.le_trans (filter_le its _) hz4
  have fin : (EP X pins σ Q) (.ref S.heap.objs.size) { S with heap := S.heap.push { cls := .type "tuple", data := .seq ((stepAt xs.length l u st).filterMap fun i => its[i]?).toArray } } := by
    refine ⟨.ref S.heap.objs.size, _, I5.laid (t' := S.toks) (o := .tup (stepV xs l u st)) (fun b ob q => Heap.get?_push_of_some _ q) (Nat.le_refl _) ?_, rfl, q _ (I5.hok.fresh (Nat.le_refl _))⟩
    exact ⟨Nat.le_trans (filter_le xs _) hz4, _, rv, IsTup.new _ _⟩
  have htake : sizeOk (.seq ((stepAt xs.length l u st).filterMap fun i => its[i]?).toArray) := by
    show ((stepAt xs.length l u st).filterMap fun i => its[i]?).toArray.size ≤ sizeLine
    rw [List.size_toArray]; exact hsz
  rw [eS]
  first
    | exact wpAny_bind (m := Builtin.Tuple.tupleExact _) (wpAny_newObj_type (wpAny_pure ⟨_, rfl, wpAny_pure fin⟩) htake)
    | exact wpAny_bind (m := Builtin.Tuple.tupleExact _) (wpAny_newObj_type (wpAny_bind (wpAny_pure (wpAny_pure ⟨_, rfl, wpAny_pure fin⟩))) htake)
    | exact wpAny_bind (wpAny_bind (m := Builtin.Tuple.tupleExact _) (wpAny_newObj_type (wpAny_pure (wpAny_pure ⟨_, rfl, wpAny_pure fin⟩)) htake))
    | exact wpAny_bind (wpAny_bind (m := Builtin.Tuple.tupleExact _) (wpAny_newObj_type (wpAny_pure ⟨_, rfl, wpAny_pure fin⟩) htake))
end
end My
namespace My
open PySem PySem.Spec PyProof.Rows L2
/-! ### an attribute as one of some targets -/
def gFld (K : PySem.W.Frag) (to : TE) (f : Str) : TG := fun v σ H Q => to σ H fun x H1 => ∃ a C dx fs, x = .ref a ∧ H1 a = some (.ins C dx fs) ∧ Cls K C ∧ NoAttr K C f ∧ fs.length < 1000 ∧ Q σ (L2.upd H1 a (.ins C dx (putF f v fs)))
section
variable {X : Cx} {o : Expr} {f : Str} {pos : Pos} {to : TE}
theorem pg_fld (ho : PE X o to) : PG X (.Attribute o f pos) (gFld X.K to f) := by
  refine ⟨fun pins s σ H v u Q I r h => ?_⟩
  rw [assign_Attribute]
  refine wpAny_bind (wpAny_holding (thn (ho.run pins s σ H _ I h) fun ov s1 ⟨x, H1, I1, r1, a, C, dx, fs, ex, ea, c, n, l, q⟩ => ?_))
  subst ex
  obtain rfl : ov = Value.ref a := r1
  refine wpAny_bind (wpAny_standAt (wpAny_bind (wpAny_holding (setattr_ok I1 ea c n l r fun s3 I3 => ?_))))
  exact wpAny_release ⟨σ, _, I3, q⟩
end
end My
namespace My
open PySem PySem.Spec PyProof.Rows L2
/-- an error of the class at R is none that «except S» takes -/
theorem exm_pair {K : PySem.W.Frag} {R S : Addr} (h1 : PySem.W.subIn K (.ref S) (.type "BaseException") = some true) (h2 : PySem.W.isClsIn K S = true) (h3 : PySem.W.typeIn K (.ref S) = some (.type "type")) (h4 : PySem.W.subIn K (.ref R) (.ref S) = some false) : PySem.W.exmOne K (.ref R) (.ref S) = some false := by
  have h2' : (PySem.W.clsIn K S).isSome = true := h2
  unfold PySem.W.exmOne
  unfold PySem.W.kitCls
  simp [h1, h2', h3, h4]
/-! ### several clauses «except C as e» -/
/-- what the clauses wish of an exception of the body, one after the other -/
def wMix (K : PySem.W.Frag) (Wout : WX) (D : Ends) : List (Value × Option Nat × (Addr → Value → Option Addr → TS)) → WX
  | [] => Wout
  | (c, none, ts) :: r => fun cls d σ H => ∃ b, PySem.W.exmOne K cls c = some b ∧ (b = true → ∀ a, H a = none → ts a cls d D σ H) ∧ (b = false → wMix K Wout D r cls d σ H)
  | (c, some i, ts) :: r => fun cls d σ H => ∃ b, PySem.W.exmOne K cls c = some b ∧
    (b = true → ∀ a, H a = none → ts a cls d { nx := fun σ' H' => D.nx (σ'.set i none) H', rt := D.rt, bk := fun σ' H' => D.bk (σ'.set i none) H', ct := fun σ' H' => D.ct (σ'.set i none) H' } (σ.set i (some (.ref a))) H) ∧
    (b = false → wMix K Wout D r cls d σ H)
inductive HdsMx (X : Cx) : List ExceptHandler → List (Value × Option Nat × (Addr → Value → Option Addr → TS)) → Prop
  | nil : HdsMx X [] []
  | cons {x n : Str} {c : Value} {i : Nat} {ts : Addr → Value → Option Addr → TS} {b₀ : Stmt} {suite : List Stmt} {np pos' : Pos} {hds : List ExceptHandler} {l : List (Value × Option Nat × (Addr → Value → Option Addr → TS))} (hi : X.N[i]? = some n) (hln : X.env.kindOf n = some .local) (hc : Names X x c)
      (hsu : ∀ (a : Addr) (oe : Obj) (cls : Value) (d : Option Addr) (pn : List (Addr × Obj)), Zc cls d oe → (∃ vs, oe.data = .fields vs) → PSs (X.suite a ((a, oe) :: pn)) (b₀ :: suite) (ts a cls d)) (r : HdsMx X hds l) :
      HdsMx X (.ExceptHandler (some (.Name x np)) (some n) (b₀ :: suite) pos' :: hds) ((c, some i, ts) :: l)
  | consN {x : Str} {c : Value} {ts : Addr → Value → Option Addr → TS} {b₀ : Stmt} {suite : List Stmt} {np pos' : Pos} {hds : List ExceptHandler} {l : List (Value × Option Nat × (Addr → Value → Option Addr → TS))} (hc : Names X x c)
      (hsu : ∀ (a : Addr) (oe : Obj) (cls : Value) (d : Option Addr) (pn : List (Addr × Obj)), Zc cls d oe → (∃ vs, oe.data = .fields vs) → PSs (X.suite a ((a, oe) :: pn)) (b₀ :: suite) (ts a cls d)) (r : HdsMx X hds l) :
      HdsMx X (.ExceptHandler (some (.Name x np)) none (b₀ :: suite) pos' :: hds) ((c, none, ts) :: l)
section
variable {X : Cx} {body : List Stmt} {h₀ : ExceptHandler} {hds : List ExceptHandler} {l : List (Value × Option Nat × (Addr → Value → Option Addr → TS))} {pos : Pos} {tb : WX → TS} {Wout : WX}
theorem ps_try_mix (hs : X.stack = X.env :: X.outer) (hf : X.env.frame = some X.env.locals) (hN : X.N.Nodup) (tk : Takes X Wout)
    (hb : ∀ (W : WX) (pn : List (Addr × Obj)) (xe : Value → Shared → Prop), Takes (X.tr pn xe) W → PassesOwn (model X.prog X.w) X.A X.env xe → PSs (X.tr pn xe) body (tb W))
    (hh : HdsMx X (h₀ :: hds) l) : PS X (.Try body (h₀ :: hds) [] [] pos) (fun D σ H => tb (wMix X.K Wout D l) D σ H) := by
  refine ⟨fun pins s σ H D I h => ?_⟩
  have ok := I.ok
  have hfr : X.A.frames = some (X.env :: X.outer) := by rw [ok.frames, hs]
  refine wpAny_Try_except ?_
  refine wpAny_mono ((hb (wMix X.K Wout D l) (X.pn ++ pins) (fun e s₁ => wpAny (model X.prog X.w) X.A (noteFrame e X.env) (fun _ s₂ => wpAny (model X.prog X.w) X.A (setFlight e none) (fun _ s₃ =>
    wpAny (model X.prog X.w) X.A (handleBy e X.env (h₀ :: hds)) (SP X pins D) X.xe s₃) X.xe s₂) X.xe s₁) (fun u s' xx => ?_) PassesOwn.looking).run [] s σ H D (I.toTry _) h) (fun f s1 hsp => ?_) (fun e s1 he => he)
  · obtain ⟨a, B, sI, pins', σ', H', cls, d, rfl, J', nb, up, sky, na, os, ag, w⟩ := xx
    have J : Inv X pins σ' H' sI := J'.ofTry ok
    have sky' : Sky B (X.env :: X.outer) a (Zc cls d) X.env.locals s'.heap := by rw [← hs]; exact sky
    show wpAny (model X.prog X.w) X.A (noteFrame (.ref a) X.env) _ _ _
    refine Sky.land Zc.steady hfr hf sky' fun h3 fl3 up3 => ?_
    have J3 : Inv X pins σ' H' { s' with heap := h3 } := J.landed nb fl3.1 (up.trans up3) os ag
    obtain ⟨oe3, vs3, he3, hz3, hd3⟩ := fl3.there
    have notFr : ∀ {h : Heap} {o : Obj} {vs : Array Value}, h.FunFrames B (X.env :: X.outer) → h.get? a = some o → o.data = .fields vs → a ∉ frs (X.env :: X.outer) := fun {h o vs} ff e dd hm => by
      obtain ⟨_, o', e', hnf⟩ := ff.mem hm
      rw [e] at e'; cases e'
      exact hnf _ dd
    have nfr := notFr fl3.2.2.1 he3 hd3
    have nL : a ≠ X.env.locals := fun z => nfr (List.mem_filterMap.mpr ⟨X.env, List.mem_cons_self, by rw [hf, z]⟩)
    have nF : a ∉ X.fs := fun hm => by
      obtain ⟨e, he, q⟩ := List.mem_filterMap.mp hm
      exact nfr (List.mem_filterMap.mpr ⟨e, List.mem_cons_of_mem _ he, q⟩)
    have S3 := J3.suite he3 hd3 na nL nF
    have go : ∀ {hds' : List ExceptHandler} {l' : List (Value × Option Nat × (Addr → Value → Option Addr → TS))}, HdsMx X hds' l' → wMix X.K Wout D l' cls d σ' H' →
        wpAny (model X.prog X.w) X.A (handleBy (.ref a) X.env hds') (SP X pins D) X.xe { s' with heap := h3 } := by
      intro hds' l' hk
      induction hk with
      | nil =>
        intro w
        refine wpAny_handleBy_nil ?_
        obtain ⟨k1, k2, k3, oe, vs, T, oT, ts', he, hz, hd, h1, hr⟩ := id fl3
        unfold PySem.passOn
        refine wpAny_bind (wpAny_field he hd h1 ?_)
        rw [if_neg (show ¬ ((Value.ref T == Value.none) = true) from by simp)]
        have fin : wpAny (model X.prog X.w) X.A (setFlight (.ref a) X.env.frame) (fun _ s4 => wpAny (model X.prog X.w) X.A (throw (.ref a) : Sem Flow) (SP X pins D) X.xe s4) X.xe { s' with heap := h3 } := by
          rw [hf]
          refine HandSPX.setFlight_upZ fl3 fun h4 hh4 up4 => wpAny_throw (tk _ _ ?_)
          exact ⟨a, B, sI, pins, σ', H', cls, d, rfl, J, nb, (up.trans up3).trans up4, .inr (.inr (by rw [hs]; exact hh4)), na, os, ag, w⟩
        first
          | exact wpAny_bind (wpAny_pure (wpAny_bind fin))
          | exact wpAny_bind fin
      | @cons x n c i ts b₀ suite np pos' hds2 l2 hi hln hc hsu r ih =>
        intro w
        have hloc : Loc X.env.scope n := .inl hln
        obtain ⟨b, hb1, hyes, hno⟩ := w
        refine wpAny_handleBy_cons (codeAny_handlers_test ?_) (by intro q; cases q)
        have LT : PySem.W.Looks (model X.prog X.w) h3 (typeOf (.ref a)) cls := fun A Q E s k q => wpAny_typeOf_ref (k _ _ he3) (by rw [hz3.1]; exact q)
        have LM := PySem.W.exm_one (M := model X.prog X.w) (J3.kIn) LT hb1
        have test : ∀ {Q : Value → Shared → Prop} {E : Value → Shared → Prop}, Q c { s' with heap := h3 } → wpAny (model X.prog X.w) (X.A.mark (some (.ref a))) (eval (.Name x np) X.env) Q E { s' with heap := h3 } := fun {Q E} q => by
          obtain ⟨hg, hdbg, hm | ⟨hm, hv, hnn⟩⟩ := hc
          · exact ld_glob (X := X.suite a ((a, oe3) :: (X.pn ++ pins))) S3 hg hm q hdbg
          · exact ld_blt (X := X.suite a ((a, oe3) :: (X.pn ++ pins))) S3 hg hm hv q hnn hdbg
        refine test (LM.here ?_)
        cases b with
        | true =>
          refine codeAny_handlers_suite_as ?_
          refine HandSPX.lands_againZ fl3 fun h4 fl4 up4 => ?_
          have J4 : Inv X pins σ' H' { s' with heap := h4 } := J.landed nb fl4.1 ((up.trans up3).trans up4) os ag
          obtain ⟨oe4, vs4, he4, hz4, hd4⟩ := fl4.there
          have S4 := J4.suite he4 hd4 na nL nF
          refine store_ok (X := X.suite a ((a, oe4) :: (X.pn ++ pins))) (v := .ref a) S4 hN hi hloc rfl (fun s5 S5 => ?_) (.inr hln)
          refine wpAny_mono ((hsu a oe4 cls d (X.pn ++ pins) hz4 ⟨_, hd4⟩).run [] s5 _ H' _ S5 (hyes rfl a na)) (fun f s6 hsp => ?_) (fun _ _ z => False.elim z)
          have end_ : ∀ {σ6 : L2.St} {H6 : Hp} {Q : Shared → Prop}, Inv (X.suite a ((a, oe4) :: (X.pn ++ pins))) [] σ6 H6 s6 → (∀ s7, Inv X pins (σ6.set i none) H6 s7 → Q s7) →
              wpAny (model X.prog X.w) X.A (do bindName X.env n .none; unbindBehindTheSuite X.env n pos') (fun _ s7 => Q s7) X.xe s6 := fun {σ6 H6 Q} S6 hq => gone_ok (S6.unsuite ok) hN hi hln hq
          cases f with
          | next =>
            obtain ⟨σ6, H6, S6, q6⟩ := hsp
            exact end_ S6 fun s7 J7 => ⟨_, _, J7, q6⟩
          | brk =>
            obtain ⟨σ6, H6, S6, q6⟩ := hsp
            exact end_ S6 fun s7 J7 => ⟨_, _, J7, q6⟩
          | cont =>
            obtain ⟨σ6, H6, S6, q6⟩ := hsp
            exact end_ S6 fun s7 J7 => ⟨_, _, J7, q6⟩
          | ret u =>
            obtain ⟨v6, σ6, H6, S6, r6, q6⟩ := hsp
            exact end_ S6 fun s7 J7 => ⟨_, _, _, J7, r6, q6⟩
        | false =>
          show wpAny _ X.A (handleBy (.ref a) X.env hds2) _ _ _
          exact ih (hno rfl)
      | @consN x c ts b₀ suite np pos' hds2 l2 hc hsu r ih =>
        intro w
        obtain ⟨b, hb1, hyes, hno⟩ := w
        refine wpAny_handleBy_cons (codeAny_handlers_test ?_) (by intro q; cases q)
        have LT : PySem.W.Looks (model X.prog X.w) h3 (typeOf (.ref a)) cls := fun A Q E s k q => wpAny_typeOf_ref (k _ _ he3) (by rw [hz3.1]; exact q)
        have LM := PySem.W.exm_one (M := model X.prog X.w) (J3.kIn) LT hb1
        have test : ∀ {Q : Value → Shared → Prop} {E : Value → Shared → Prop}, Q c { s' with heap := h3 } → wpAny (model X.prog X.w) (X.A.mark (some (.ref a))) (eval (.Name x np) X.env) Q E { s' with heap := h3 } := fun {Q E} q => by
          obtain ⟨hg, hdbg, hm | ⟨hm, hv, hnn⟩⟩ := hc
          · exact ld_glob (X := X.suite a ((a, oe3) :: (X.pn ++ pins))) S3 hg hm q hdbg
          · exact ld_blt (X := X.suite a ((a, oe3) :: (X.pn ++ pins))) S3 hg hm hv q hnn hdbg
        refine test (LM.here ?_)
        cases b with
        | true =>
          refine codeAny_handlers_suite ?_
          refine HandSPX.lands_againZ fl3 fun h4 fl4 up4 => ?_
          have J4 : Inv X pins σ' H' { s' with heap := h4 } := J.landed nb fl4.1 ((up.trans up3).trans up4) os ag
          obtain ⟨oe4, vs4, he4, hz4, hd4⟩ := fl4.there
          have S4 := J4.suite he4 hd4 na nL nF
          refine wpAny_mono ((hsu a oe4 cls d (X.pn ++ pins) hz4 ⟨_, hd4⟩).run [] _ _ H' _ S4 (hyes rfl a na)) (fun f s6 hsp => ?_) (fun _ _ z => False.elim z)
          cases f with
          | next =>
            obtain ⟨σ6, H6, S6, q6⟩ := hsp
            exact ⟨_, _, S6.unsuite ok, q6⟩
          | brk =>
            obtain ⟨σ6, H6, S6, q6⟩ := hsp
            exact ⟨_, _, S6.unsuite ok, q6⟩
          | cont =>
            obtain ⟨σ6, H6, S6, q6⟩ := hsp
            exact ⟨_, _, S6.unsuite ok, q6⟩
          | ret u =>
            obtain ⟨v6, σ6, H6, S6, r6, q6⟩ := hsp
            exact ⟨_, _, _, S6.unsuite ok, r6, q6⟩
        | false =>
          show wpAny _ X.A (handleBy (.ref a) X.env hds2) _ _ _
          exact ih (hno rfl)
    exact go hh w
  · cases f with
    | next =>
      obtain ⟨σ', H', J', q⟩ := hsp
      exact wpAny_execs_nil ⟨σ', H', J'.ofTry ok, q⟩
    | brk =>
      obtain ⟨σ', H', J', q⟩ := hsp
      exact ⟨σ', H', J'.ofTry ok, q⟩
    | cont =>
      obtain ⟨σ', H', J', q⟩ := hsp
      exact ⟨σ', H', J'.ofTry ok, q⟩
    | ret u =>
      obtain ⟨v, σ', H', J', r, q⟩ := hsp
      exact ⟨v, σ', H', J'.ofTry ok, r, q⟩
end
end My
namespace My
open PySem PySem.Spec PyProof.Rows L2
/-! ### a name is given a dict made by a comprehension -/
section
variable {X : Cx}
theorem ps_setDc {i : Nat} {y : Str} {py : Pos} {kx vx tg iter : Expr} {ifs : List Expr} {scope : Scope} {own : List (Str × Nat)} {pos spos : Pos} {wi : TI} {g : TG} {tt : TT} {tk tv : TE} (hc : X.calm = true) (hN : X.N.Nodup) (hy : X.N[i]? = some y) (hyl : X.env.scope.names.lookup y = some .local)
    (hsw : swapsWith (.DictComp kx vx [⟨tg, iter, ifs, 0⟩] scope pos) (some (.Name y py)) spos.line X.env = pure true) (hi : PI X tg iter wi) (ok : BlkOk X.N X.env.scope scope own)
    (hg : ∀ (s : Shared) (H : Hp) (C : Addr) (cl : List (Str × Addr)) (fp : List Addr), PG (X.blk s H scope (compEnvC scope cl C X.env) fp) tg g) (ht : ∀ (s : Shared) (H : Hp) (C : Addr) (cl : List (Str × Addr)) (fp : List Addr), PTs (X.blk s H scope (compEnvC scope cl C X.env) fp) ifs tt)
    (hk : ∀ (s : Shared) (H : Hp) (C : Addr) (cl : List (Str × Addr)) (fp : List Addr), PE (X.blk s H scope (compEnvC scope cl C X.env) fp) kx tk)
    (he : ∀ (s : Shared) (H : Hp) (C : Addr) (cl : List (Str × Addr)) (fp : List Addr), PE (X.blk s H scope (compEnvC scope cl C X.env) fp) vx tv) (hs : ∀ x, foldedSetIterable iter X.env x = pure x := by intro _; rfl) :
    PS X (.Assign [.Name y py] (.DictComp kx vx [⟨tg, iter, ifs, 0⟩] scope pos) spos) (tAsg (tDc wi g tt tk tv (own.map (·.2))) (gName i)) := by
  refine ⟨fun pins s σ H D I h => ?_⟩
  rw [exec_Assign_Name_used _ _ _ _ hsw]
  refine wpAny_bind (wpAny_standAt (wpAny_bind ?_))
  show wpAny _ X.A (do let _ ← comprehension (.DictComp kx vx [⟨tg, iter, ifs, 0⟩] scope pos) scope X.env (firstIterPos [⟨tg, iter, ifs, 0⟩] pos) newDict false (eval iter X.env) (some (assign (.Name y py) X.env))) _ _ s
  have h : tDc wi g tt tk tv (own.map (·.2)) σ H (fun x H1 => gName i x σ H1 D.nx) := h
  refine wpAny_bind (thn (dc_core (Qf := fun _ s' => SP X pins D .next s') hc hN I hi ok hg ht hk he hs h fun L C s' m H' I' q hn f => ?_) fun _ s' hq => wpAny_pure (wpAny_pure hq))
  show wpAny _ _ (assign (.Name y py) X.env (.ref L)) _ _ _
  refine wpAny_assign_Name (store_ok2 (v := V.ref L) I' hN hy (.inl hyl) rfl (fun s2 I2 ⟨a, sb, ha⟩ => ?_) (.inr hyl))
  obtain ⟨f0, f1, f2, f3, f4, f5⟩ := f
  have haC : C ≠ a := by
    rcases ha with z | z
    · rw [z]; exact f1
    · exact fun e => f4 y a z e.symm
  refine ⟨m, hn.sameBut sb haC, fun h3 sb3 => ?_⟩
  exact ⟨_, H', I2.turned (t' := s2.toks) (fun b o hb e => (sb3.2 b hb).trans e) f0 f1 f3 f4 f5, q⟩
theorem sw_trueD {kx vx : Expr} {gs : List Comprehension} {scope : Scope} {pos py : Pos} {y : Str} {l : Nat} {env : Env} (hk : env.scope.kind = .function) (hy : env.scope.names.lookup y = some .local) (hl : (py.line == pos.line) = true)
    (ha : (scope.names.any fun (n, k) => n == y && (k == .local || k == .cell)) = false) : swapsWith (.DictComp kx vx gs scope pos) (some (.Name y py)) l env = pure true := by
  have ky : env.kindOf y = some .local := hy
  have hb : env.blockKind = .function := by unfold Env.blockKind; rw [hk]; rfl
  unfold swapsWith
  simp only [hb, ky, ha, Expr.pos, hl]
  rfl
end
end My
namespace My
open PySem PySem.Spec PyProof.Rows L2
def top (i : Nat) : Stmt := PySem.Challenge.pw_eitherbarter_k08_whole_wrong_places_of_t.main.body.getD i (.Pass ⟨0, 0, 0, 0⟩)
abbrev s_wall : Stmt := top 0
abbrev s_is_word : Stmt := top 11
abbrev s_is_integer : Stmt := top 12
abbrev s_wrong_goods : Stmt := top 15
abbrev s_wrong_barters : Stmt := top 16
abbrev s_wrong_barter : Stmt := top 17
abbrev s_wrong_row : Stmt := top 18
abbrev s_is_mixed : Stmt := top 19
abbrev s_scanned : Stmt := top 23
abbrev s_lexeme_at : Stmt := top 24
abbrev s_run_end : Stmt := top 25
abbrev s_read_book : Stmt := top 28
abbrev s_read_parts : Stmt := top 29
abbrev s_read_side : Stmt := top 30
abbrev s_read_part : Stmt := top 31
abbrev s_wrong_told : Stmt := top 32
abbrev s_are_parts : Stmt := top 33
abbrev s_told_row : Stmt := top 34
abbrev s_law_source : Stmt := top 36
abbrev s_law_pick : Stmt := top 37
abbrev s_law_of : Stmt := top 38
abbrev s_law_spaced : Stmt := top 39
abbrev s_law_run : Stmt := top 40
abbrev s_law_is_word : Stmt := top 41
abbrev s_law_lexeme : Stmt := top 42
abbrev s_law_wrong_place : Stmt := top 43
abbrev s_law_rules : Stmt := top 44
abbrev s_law_drawn_signs : Stmt := top 45
abbrev s_law_spoilt_signs : Stmt := top 46
abbrev s_law_told : Stmt := top 47
abbrev s_law_hand_right : Stmt := top 48
abbrev s_law : Stmt := top 49
theorem sc_wall : FnScope ["k"] ["k"] (defScope s_wall) := ⟨rfl, rfl, rfl, by decide +kernel, rfl, by decide +kernel, by decide +kernel⟩
theorem sc_is_word : FnScope ["value", "sign"] ["value"] (defScope s_is_word) := ⟨rfl, rfl, rfl, by decide +kernel, rfl, by decide +kernel, by decide +kernel⟩
theorem sc_is_integer : FnScope ["value"] ["value"] (defScope s_is_integer) := ⟨rfl, rfl, rfl, by decide +kernel, rfl, by decide +kernel, by decide +kernel⟩
theorem sc_wrong_goods : FnScope ["goods", "told", "k", "good"] ["goods"] (defScope s_wrong_goods) := ⟨rfl, rfl, rfl, by decide +kernel, rfl, by decide +kernel, by decide +kernel⟩
theorem sc_wrong_barters : FnScope ["barters", "many", "told", "k", "barter", "path"] ["barters", "many"] (defScope s_wrong_barters) := ⟨rfl, rfl, rfl, by decide +kernel, rfl, by decide +kernel, by decide +kernel⟩
theorem sc_wrong_barter : FnScope ["barter", "told", "many", "name", "row", "path"] ["barter", "told", "many"] (defScope s_wrong_barter) := ⟨rfl, rfl, rfl, by decide +kernel, rfl, by decide +kernel, by decide +kernel⟩
theorem sc_wrong_row : FnScope ["row", "many", "j", "entry"] ["row", "many"] (defScope s_wrong_row) := ⟨rfl, rfl, rfl, by decide +kernel, rfl, by decide +kernel, by decide +kernel⟩
theorem sc_is_mixed : FnScope ["entries", "entry"] ["entries"] (defScope s_is_mixed) := ⟨rfl, rfl, rfl, by decide +kernel, rfl, by decide +kernel, by decide +kernel⟩
theorem sc_scanned : FnScope ["text", "found", "place", "lexeme"] ["text"] (defScope s_scanned) := ⟨rfl, rfl, rfl, by decide +kernel, rfl, by decide +kernel, by decide +kernel⟩
theorem sc_lexeme_at : FnScope ["text", "place", "sign", "end"] ["text", "place"] (defScope s_lexeme_at) := ⟨rfl, rfl, rfl, by decide +kernel, rfl, by decide +kernel, by decide +kernel⟩
theorem sc_run_end : FnScope ["text", "place", "signs"] ["text", "place", "signs"] (defScope s_run_end) := ⟨rfl, rfl, rfl, by decide +kernel, rfl, by decide +kernel, by decide +kernel⟩
theorem sc_read_book : FnScope ["text", "goods", "told", "path", "numbers", "barters", "name", "taken", "given", "j", "good"] ["text"] (defScope s_read_book) := ⟨rfl, rfl, rfl, by decide +kernel, rfl, by decide +kernel, by decide +kernel⟩
theorem sc_read_parts : FnScope ["reader", "goods", "told", "name", "taken", "given"] ["reader"] (defScope s_read_parts) := ⟨rfl, rfl, rfl, by decide +kernel, rfl, by decide +kernel, by decide +kernel⟩
theorem sc_read_side : FnScope ["reader", "parts"] ["reader"] (defScope s_read_side) := ⟨rfl, rfl, rfl, by decide +kernel, rfl, by decide +kernel, by decide +kernel⟩
theorem sc_read_part : FnScope ["reader", "digits"] ["reader"] (defScope s_read_part) := ⟨rfl, rfl, rfl, by decide +kernel, rfl, by decide +kernel, by decide +kernel⟩
theorem sc_wrong_told : FnScope ["goods", "told", "known", "k", "good", "names", "name", "taken", "given"] ["goods", "told"] (defScope s_wrong_told) := ⟨rfl, rfl, rfl, by decide +kernel, rfl, by decide +kernel, by decide +kernel⟩
theorem sc_are_parts : FnScope ["known", "parts", "told", "digits", "good"] ["known", "parts"] (defScope s_are_parts) := ⟨rfl, rfl, rfl, by decide +kernel, rfl, by decide +kernel, by decide +kernel⟩
theorem sc_told_row : FnScope ["numbers", "taken", "given", "row", "digits", "good"] ["numbers", "taken", "given"] (defScope s_told_row) := ⟨rfl, rfl, rfl, by decide +kernel, rfl, by decide +kernel, by decide +kernel⟩
theorem sc_law_source : FnScope ["_law_script", "_law_mixed", "_law_cell"] ["_law_script"] (defScope s_law_source) := ⟨rfl, rfl, rfl, by decide +kernel, rfl, by decide +kernel, by decide +kernel⟩
theorem sc_law_pick : FnScope ["_law_source_here", "_law_many", "_law_left", "_law_mixed"] ["_law_source_here", "_law_many"] (defScope s_law_pick) := ⟨rfl, rfl, rfl, by decide +kernel, rfl, by decide +kernel, by decide +kernel⟩
theorem sc_law_of : FnScope ["_law_source_here", "_law_some"] ["_law_source_here", "_law_some"] (defScope s_law_of) := ⟨rfl, rfl, rfl, by decide +kernel, rfl, by decide +kernel, by decide +kernel⟩
theorem sc_law_spaced : FnScope ["_law_source_here", "_law_signs", "_law_text", "_law_last", "_law_one", "_law_gaps"] ["_law_source_here", "_law_signs"] (defScope s_law_spaced) := ⟨rfl, rfl, rfl, by decide +kernel, rfl, by decide +kernel, by decide +kernel⟩
theorem sc_law_run : FnScope ["_law_text", "_law_place", "_law_signs"] ["_law_text", "_law_place", "_law_signs"] (defScope s_law_run) := ⟨rfl, rfl, rfl, by decide +kernel, rfl, by decide +kernel, by decide +kernel⟩
theorem sc_law_is_word : FnScope ["_law_value", "_law_sign"] ["_law_value"] (defScope s_law_is_word) := ⟨rfl, rfl, rfl, by decide +kernel, rfl, by decide +kernel, by decide +kernel⟩
theorem sc_law_lexeme : FnScope ["_law_text", "_law_place", "_law_figures", "_law_end", "_law_word"] ["_law_text", "_law_place"] (defScope s_law_lexeme) := ⟨rfl, rfl, rfl, by decide +kernel, rfl, by decide +kernel, by decide +kernel⟩
theorem sc_law_wrong_place : FnScope ["_law_rules_here", "_law_text", "_law_form", "_law_stack", "_law_lexeme_here", "_law_top", "_law_fits", "_law_row"] ["_law_rules_here", "_law_text", "_law_form"] (defScope s_law_wrong_place) := ⟨rfl, rfl, rfl, by decide +kernel, rfl, by decide +kernel, by decide +kernel⟩
theorem sc_law_rules : FnScope ["_law_rules_here"] [] (defScope s_law_rules) := ⟨rfl, rfl, rfl, by decide +kernel, rfl, by decide +kernel, by decide +kernel⟩
theorem sc_law_drawn_signs : FnScope ["_law_source_here", "_law_rules_here", "_law_form", "_law_stack", "_law_found", "_law_words", "_law_top", "_law_rows", "_law_short", "_law_some", "_law_row"] ["_law_source_here", "_law_rules_here", "_law_form"] (defScope s_law_drawn_signs) := ⟨rfl, rfl, rfl, by decide +kernel, rfl, by decide +kernel, by decide +kernel⟩
theorem sc_law_spoilt_signs : FnScope ["_law_source_here", "_law_signs", "_law_odd", "_law_at", "_law_other", "_law_own"] ["_law_source_here", "_law_signs"] (defScope s_law_spoilt_signs) := ⟨rfl, rfl, rfl, by decide +kernel, rfl, by decide +kernel, by decide +kernel⟩
theorem sc_law_told : FnScope ["_law_text", "error"] ["_law_text"] (defScope s_law_told) := ⟨rfl, rfl, rfl, by decide +kernel, rfl, by decide +kernel, by decide +kernel⟩
theorem sc_law_hand_right : FnScope ["_law_rules_here", "_law_some", "_law_text", "_law_place"] ["_law_rules_here"] (defScope s_law_hand_right) := ⟨rfl, rfl, rfl, by decide +kernel, rfl, by decide +kernel, by decide +kernel⟩
theorem sc_law : FnScope ["_law_script", "_law_source_here", "_law_rules_here", "_law_turn", "_law_signs", "_law_lap", "_law_text", "_law_cut", "_law_due"] ["_law_script"] (defScope s_law) := ⟨rfl, rfl, rfl, by decide +kernel, rfl, by decide +kernel, by decide +kernel⟩
abbrev s_Book_init : Stmt := inClass (top 14) 0
theorem sc_Book_init : FnScope ["self", "goods", "barters", "path", "j", "good", "k", "name", "row"] ["self", "goods", "barters"] (defScope s_Book_init) := ⟨rfl, rfl, rfl, by decide +kernel, rfl, by decide +kernel, by decide +kernel⟩
abbrev s_Book_names : Stmt := inClass (top 14) 4
theorem sc_Book_names : FnScope ["self", "barter"] ["self"] (defScope s_Book_names) := ⟨rfl, rfl, rfl, by decide +kernel, rfl, by decide +kernel, by decide +kernel⟩
abbrev s_Reader_init : Stmt := inClass (top 26) 0
theorem sc_Reader_init : FnScope ["self", "text"] ["self", "text"] (defScope s_Reader_init) := ⟨rfl, rfl, rfl, by decide +kernel, rfl, by decide +kernel, by decide +kernel⟩
abbrev s_Reader_sees : Stmt := inClass (top 26) 1
theorem sc_Reader_sees : FnScope ["self", "lexeme"] ["self", "lexeme"] (defScope s_Reader_sees) := ⟨rfl, rfl, rfl, by decide +kernel, rfl, by decide +kernel, by decide +kernel⟩
abbrev s_Reader_take : Stmt := inClass (top 26) 2
theorem sc_Reader_take : FnScope ["self", "lexeme"] ["self", "lexeme"] (defScope s_Reader_take) := ⟨rfl, rfl, rfl, by decide +kernel, rfl, by decide +kernel, by decide +kernel⟩
abbrev s_Reader_take_sort : Stmt := inClass (top 26) 3
theorem sc_Reader_take_sort : FnScope ["self", "sort"] ["self", "sort"] (defScope s_Reader_take_sort) := ⟨rfl, rfl, rfl, by decide +kernel, rfl, by decide +kernel, by decide +kernel⟩
abbrev s_Reader_take_list : Stmt := inClass (top 26) 5
theorem sc_Reader_take_list : FnScope ["self", "sort", "told"] ["self", "sort"] (defScope s_Reader_take_list) := ⟨rfl, rfl, rfl, by decide +kernel, rfl, by decide +kernel, by decide +kernel⟩
abbrev s_Reader_take_end : Stmt := inClass (top 26) 6
theorem sc_Reader_take_end : FnScope ["self"] ["self"] (defScope s_Reader_take_end) := ⟨rfl, rfl, rfl, by decide +kernel, rfl, by decide +kernel, by decide +kernel⟩
abbrev s_Reader_wrong_place : Stmt := inClass (top 26) 7
theorem sc_Reader_wrong_place : FnScope ["self"] ["self"] (defScope s_Reader_wrong_place) := ⟨rfl, rfl, rfl, by decide +kernel, rfl, by decide +kernel, by decide +kernel⟩
abbrev s_BadText : Stmt := top 4
theorem sc_BadText : FnScope ["self", "place"] ["self", "place"] (defScope (initOf s_BadText)) := ⟨rfl, rfl, rfl, by decide +kernel, rfl, by decide +kernel, by decide +kernel⟩
abbrev s_BadBook : Stmt := top 3
theorem sc_BadBook : FnScope ["self", "path"] ["self", "path"] (defScope (initOf s_BadBook)) := ⟨rfl, rfl, rfl, by decide +kernel, rfl, by decide +kernel, by decide +kernel⟩
structure Tx (K : PySem.W.Frag) (mg : Str → Option Value) where
  a_wall : Addr
  fd_wall : FuncData
  F_wall : Fun K "_wall" "_wall" s_wall a_wall fd_wall
  b_wall : Binds K fd_wall ["k"] []
  m_wall : mg "_wall" = some (.ref a_wall)
  a_is_word : Addr
  fd_is_word : FuncData
  F_is_word : Fun K "is_word" "is_word" s_is_word a_is_word fd_is_word
  b_is_word : Binds K fd_is_word ["value"] []
  m_is_word : mg "is_word" = some (.ref a_is_word)
  a_is_integer : Addr
  fd_is_integer : FuncData
  F_is_integer : Fun K "is_integer" "is_integer" s_is_integer a_is_integer fd_is_integer
  b_is_integer : Binds K fd_is_integer ["value"] []
  m_is_integer : mg "is_integer" = some (.ref a_is_integer)
  a_wrong_goods : Addr
  fd_wrong_goods : FuncData
  F_wrong_goods : Fun K "wrong_goods" "wrong_goods" s_wrong_goods a_wrong_goods fd_wrong_goods
  b_wrong_goods : Binds K fd_wrong_goods ["goods"] []
  m_wrong_goods : mg "wrong_goods" = some (.ref a_wrong_goods)
  a_wrong_barters : Addr
  fd_wrong_barters : FuncData
  F_wrong_barters : Fun K "wrong_barters" "wrong_barters" s_wrong_barters a_wrong_barters fd_wrong_barters
  b_wrong_barters : Binds K fd_wrong_barters ["barters", "many"] []
  m_wrong_barters : mg "wrong_barters" = some (.ref a_wrong_barters)
  a_wrong_barter : Addr
  fd_wrong_barter : FuncData
  F_wrong_barter : Fun K "wrong_barter" "wrong_barter" s_wrong_barter a_wrong_barter fd_wrong_barter
  b_wrong_barter : Binds K fd_wrong_barter ["barter", "told", "many"] []
  m_wrong_barter : mg "wrong_barter" = some (.ref a_wrong_barter)
  a_wrong_row : Addr
  fd_wrong_row : FuncData
  F_wrong_row : Fun K "wrong_row" "wrong_row" s_wrong_row a_wrong_row fd_wrong_row
  b_wrong_row : Binds K fd_wrong_row ["row", "many"] []
  m_wrong_row : mg "wrong_row" = some (.ref a_wrong_row)
  a_is_mixed : Addr
  fd_is_mixed : FuncData
  F_is_mixed : Fun K "is_mixed" "is_mixed" s_is_mixed a_is_mixed fd_is_mixed
  b_is_mixed : Binds K fd_is_mixed ["entries"] []
  m_is_mixed : mg "is_mixed" = some (.ref a_is_mixed)
  a_scanned : Addr
  fd_scanned : FuncData
  F_scanned : Fun K "scanned" "scanned" s_scanned a_scanned fd_scanned
  b_scanned : Binds K fd_scanned ["text"] []
  m_scanned : mg "scanned" = some (.ref a_scanned)
  a_lexeme_at : Addr
  fd_lexeme_at : FuncData
  F_lexeme_at : Fun K "lexeme_at" "lexeme_at" s_lexeme_at a_lexeme_at fd_lexeme_at
  b_lexeme_at : Binds K fd_lexeme_at ["text", "place"] []
  m_lexeme_at : mg "lexeme_at" = some (.ref a_lexeme_at)
  a_run_end : Addr
  fd_run_end : FuncData
  F_run_end : Fun K "run_end" "run_end" s_run_end a_run_end fd_run_end
  b_run_end : Binds K fd_run_end ["text", "place", "signs"] []
  m_run_end : mg "run_end" = some (.ref a_run_end)
  a_read_book : Addr
  fd_read_book : FuncData
  F_read_book : Fun K "read_book" "read_book" s_read_book a_read_book fd_read_book
  b_read_book : Binds K fd_read_book ["text"] []
  m_read_book : mg "read_book" = some (.ref a_read_book)
  a_read_parts : Addr
  fd_read_parts : FuncData
  F_read_parts : Fun K "read_parts" "read_parts" s_read_parts a_read_parts fd_read_parts
  b_read_parts : Binds K fd_read_parts ["reader"] []
  m_read_parts : mg "read_parts" = some (.ref a_read_parts)
  a_read_side : Addr
  fd_read_side : FuncData
  F_read_side : Fun K "read_side" "read_side" s_read_side a_read_side fd_read_side
  b_read_side : Binds K fd_read_side ["reader"] []
  m_read_side : mg "read_side" = some (.ref a_read_side)
  a_read_part : Addr
  fd_read_part : FuncData
  F_read_part : Fun K "read_part" "read_part" s_read_part a_read_part fd_read_part
  b_read_part : Binds K fd_read_part ["reader"] []
  m_read_part : mg "read_part" = some (.ref a_read_part)
  a_wrong_told : Addr
  fd_wrong_told : FuncData
  F_wrong_told : Fun K "wrong_told" "wrong_told" s_wrong_told a_wrong_told fd_wrong_told
  b_wrong_told : Binds K fd_wrong_told ["goods", "told"] []
  m_wrong_told : mg "wrong_told" = some (.ref a_wrong_told)
  a_are_parts : Addr
  fd_are_parts : FuncData
  F_are_parts : Fun K "are_parts" "are_parts" s_are_parts a_are_parts fd_are_parts
  b_are_parts : Binds K fd_are_parts ["known", "parts"] []
  m_are_parts : mg "are_parts" = some (.ref a_are_parts)
  a_told_row : Addr
  fd_told_row : FuncData
  F_told_row : Fun K "told_row" "told_row" s_told_row a_told_row fd_told_row
  b_told_row : Binds K fd_told_row ["numbers", "taken", "given"] []
  m_told_row : mg "told_row" = some (.ref a_told_row)
  a_law_source : Addr
  fd_law_source : FuncData
  F_law_source : Fun K "_law_source" "_law_source" s_law_source a_law_source fd_law_source
  b_law_source : Binds K fd_law_source ["_law_script"] []
  m_law_source : mg "_law_source" = some (.ref a_law_source)
  a_law_pick : Addr
  fd_law_pick : FuncData
  F_law_pick : Fun K "_law_pick" "_law_pick" s_law_pick a_law_pick fd_law_pick
  b_law_pick : Binds K fd_law_pick ["_law_source_here", "_law_many"] []
  m_law_pick : mg "_law_pick" = some (.ref a_law_pick)
  a_law_of : Addr
  fd_law_of : FuncData
  F_law_of : Fun K "_law_of" "_law_of" s_law_of a_law_of fd_law_of
  b_law_of : Binds K fd_law_of ["_law_source_here", "_law_some"] []
  m_law_of : mg "_law_of" = some (.ref a_law_of)
  a_law_spaced : Addr
  fd_law_spaced : FuncData
  F_law_spaced : Fun K "_law_spaced" "_law_spaced" s_law_spaced a_law_spaced fd_law_spaced
  b_law_spaced : Binds K fd_law_spaced ["_law_source_here", "_law_signs"] []
  m_law_spaced : mg "_law_spaced" = some (.ref a_law_spaced)
  a_law_run : Addr
  fd_law_run : FuncData
  F_law_run : Fun K "_law_run" "_law_run" s_law_run a_law_run fd_law_run
  b_law_run : Binds K fd_law_run ["_law_text", "_law_place", "_law_signs"] []
  m_law_run : mg "_law_run" = some (.ref a_law_run)
  a_law_is_word : Addr
  fd_law_is_word : FuncData
  F_law_is_word : Fun K "_law_is_word" "_law_is_word" s_law_is_word a_law_is_word fd_law_is_word
  b_law_is_word : Binds K fd_law_is_word ["_law_value"] []
  m_law_is_word : mg "_law_is_word" = some (.ref a_law_is_word)
  a_law_lexeme : Addr
  fd_law_lexeme : FuncData
  F_law_lexeme : Fun K "_law_lexeme" "_law_lexeme" s_law_lexeme a_law_lexeme fd_law_lexeme
  b_law_lexeme : Binds K fd_law_lexeme ["_law_text", "_law_place"] []
  m_law_lexeme : mg "_law_lexeme" = some (.ref a_law_lexeme)
  a_law_wrong_place : Addr
  fd_law_wrong_place : FuncData
  F_law_wrong_place : Fun K "_law_wrong_place" "_law_wrong_place" s_law_wrong_place a_law_wrong_place fd_law_wrong_place
  b_law_wrong_place : Binds K fd_law_wrong_place ["_law_rules_here", "_law_text", "_law_form"] []
  m_law_wrong_place : mg "_law_wrong_place" = some (.ref a_law_wrong_place)
  a_law_rules : Addr
  fd_law_rules : FuncData
  F_law_rules : Fun K "_law_rules" "_law_rules" s_law_rules a_law_rules fd_law_rules
  b_law_rules : Binds K fd_law_rules [] []
  m_law_rules : mg "_law_rules" = some (.ref a_law_rules)
  a_law_drawn_signs : Addr
  fd_law_drawn_signs : FuncData
  F_law_drawn_signs : Fun K "_law_drawn_signs" "_law_drawn_signs" s_law_drawn_signs a_law_drawn_signs fd_law_drawn_signs
  b_law_drawn_signs : Binds K fd_law_drawn_signs ["_law_source_here", "_law_rules_here", "_law_form"] []
  m_law_drawn_signs : mg "_law_drawn_signs" = some (.ref a_law_drawn_signs)
  a_law_spoilt_signs : Addr
  fd_law_spoilt_signs : FuncData
  F_law_spoilt_signs : Fun K "_law_spoilt_signs" "_law_spoilt_signs" s_law_spoilt_signs a_law_spoilt_signs fd_law_spoilt_signs
  b_law_spoilt_signs : Binds K fd_law_spoilt_signs ["_law_source_here", "_law_signs"] []
  m_law_spoilt_signs : mg "_law_spoilt_signs" = some (.ref a_law_spoilt_signs)
  a_law_told : Addr
  fd_law_told : FuncData
  F_law_told : Fun K "_law_told" "_law_told" s_law_told a_law_told fd_law_told
  b_law_told : Binds K fd_law_told ["_law_text"] []
  m_law_told : mg "_law_told" = some (.ref a_law_told)
  a_law_hand_right : Addr
  fd_law_hand_right : FuncData
  F_law_hand_right : Fun K "_law_hand_right" "_law_hand_right" s_law_hand_right a_law_hand_right fd_law_hand_right
  b_law_hand_right : Binds K fd_law_hand_right ["_law_rules_here"] []
  m_law_hand_right : mg "_law_hand_right" = some (.ref a_law_hand_right)
  a_law : Addr
  fd_law : FuncData
  F_law : Fun K "law" "law" s_law a_law fd_law
  b_law : Binds K fd_law ["_law_script"] []
  m_law : mg "law" = some (.ref a_law)
  C_Book : Addr
  cl_Book : Cls K C_Book
  m_Book : mg "Book" = some (.ref C_Book)
  na_Book_goods : NoAttr K C_Book "_goods"
  na_Book_barters : NoAttr K C_Book "_barters"
  na_Book_good_numbers : NoAttr K C_Book "_good_numbers"
  na_Book_barter_numbers : NoAttr K C_Book "_barter_numbers"
  C_Reader : Addr
  cl_Reader : Cls K C_Reader
  m_Reader : mg "Reader" = some (.ref C_Reader)
  na_Reader_found : NoAttr K C_Reader "_found"
  na_Reader_stop : NoAttr K C_Reader "_stop"
  na_Reader_length : NoAttr K C_Reader "_length"
  na_Reader_at : NoAttr K C_Reader "_at"
  a_Book_init : Addr
  fd_Book_init : FuncData
  F_Book_init : Fun K "__init__" "Book.__init__" s_Book_init a_Book_init fd_Book_init
  b_Book_init : Binds K fd_Book_init ["self", "goods", "barters"] []
  M_Book : Mk K C_Book a_Book_init
  a_Book_names : Addr
  fd_Book_names : FuncData
  F_Book_names : Fun K "names" "Book.names" s_Book_names a_Book_names fd_Book_names
  b_Book_names : Binds K fd_Book_names ["self"] []
  me_Book_names : Meth K C_Book "names" a_Book_names
  a_Reader_init : Addr
  fd_Reader_init : FuncData
  F_Reader_init : Fun K "__init__" "Reader.__init__" s_Reader_init a_Reader_init fd_Reader_init
  b_Reader_init : Binds K fd_Reader_init ["self", "text"] []
  M_Reader : Mk K C_Reader a_Reader_init
  a_Reader_sees : Addr
  fd_Reader_sees : FuncData
  F_Reader_sees : Fun K "sees" "Reader.sees" s_Reader_sees a_Reader_sees fd_Reader_sees
  b_Reader_sees : Binds K fd_Reader_sees ["self", "lexeme"] []
  me_Reader_sees : Meth K C_Reader "sees" a_Reader_sees
  a_Reader_take : Addr
  fd_Reader_take : FuncData
  F_Reader_take : Fun K "take" "Reader.take" s_Reader_take a_Reader_take fd_Reader_take
  b_Reader_take : Binds K fd_Reader_take ["self", "lexeme"] []
  me_Reader_take : Meth K C_Reader "take" a_Reader_take
  a_Reader_take_sort : Addr
  fd_Reader_take_sort : FuncData
  F_Reader_take_sort : Fun K "take_sort" "Reader.take_sort" s_Reader_take_sort a_Reader_take_sort fd_Reader_take_sort
  b_Reader_take_sort : Binds K fd_Reader_take_sort ["self", "sort"] []
  me_Reader_take_sort : Meth K C_Reader "take_sort" a_Reader_take_sort
  a_Reader_take_list : Addr
  fd_Reader_take_list : FuncData
  F_Reader_take_list : Fun K "take_list" "Reader.take_list" s_Reader_take_list a_Reader_take_list fd_Reader_take_list
  b_Reader_take_list : Binds K fd_Reader_take_list ["self", "sort"] []
  me_Reader_take_list : Meth K C_Reader "take_list" a_Reader_take_list
  a_Reader_take_end : Addr
  fd_Reader_take_end : FuncData
  F_Reader_take_end : Fun K "take_end" "Reader.take_end" s_Reader_take_end a_Reader_take_end fd_Reader_take_end
  b_Reader_take_end : Binds K fd_Reader_take_end ["self"] []
  me_Reader_take_end : Meth K C_Reader "take_end" a_Reader_take_end
  a_Reader_wrong_place : Addr
  fd_Reader_wrong_place : FuncData
  F_Reader_wrong_place : Fun K "wrong_place" "Reader.wrong_place" s_Reader_wrong_place a_Reader_wrong_place fd_Reader_wrong_place
  b_Reader_wrong_place : Binds K fd_Reader_wrong_place ["self"] []
  me_Reader_wrong_place : Meth K C_Reader "wrong_place" a_Reader_wrong_place
  e_BadText : OwnE K mg "BadText" "BadText.__init__" "place" s_BadText
  e_BadBook : OwnE K mg "BadBook" "BadBook.__init__" "path" s_BadBook
  xm_BadBook_BadText : PySem.W.exmOne K (.ref e_BadBook.C) (.ref e_BadText.C) = some false
  c_BLANKS : ∃ t, mg "BLANKS" = some (.str " \n" t)
  c_DIGITS : ∃ t, mg "DIGITS" = some (.str "0123456789" t)
  c_LETTERS : ∃ t, mg "LETTERS" = some (.str "abcdefghijklmnopqrstuvwxyz" t)
  c_LONGEST_WORD : ∃ t, mg "LONGEST_WORD" = some (.int 12 t)
  c_SIGNS : ∃ t, mg "SIGNS" = some (.str "(){},;" t)
  n_abs : mg "abs" = none
  n_all : mg "all" = none
  n_any : mg "any" = none
  n_bool : mg "bool" = none
  n_enumerate : mg "enumerate" = none
  n_int : mg "int" = none
  n_isinstance : mg "isinstance" = none
  n_len : mg "len" = none
  n_list : mg "list" = none
  n_max : mg "max" = none
  n_range : mg "range" = none
  n_str : mg "str" = none
  n_tuple : mg "tuple" = none
end My
namespace My
open PySem PySem.Spec PyProof.Rows L2
/-! ### lexemes, as functions of plain lists -/
abbrev SGN : Str := "(){},;"
abbrev LTR : Str := "abcdefghijklmnopqrstuvwxyz"
abbrev DIG : Str := "0123456789"
abbrev BLK : Str := " \n"
def inS (z : Str) (c : Nat) : Bool := decide (c ∈ z.cps.toList)
def txt (l : List Nat) : Str := ⟨l.toArray⟩
theorem txt_self (z : Str) : txt z.cps.toList = z := by
  obtain ⟨a⟩ := z
  show (⟨a.toList.toArray⟩ : Str) = ⟨a⟩
  rw [Array.toArray_toList]
theorem txt_len (l : List Nat) : (txt l).length = l.length := by
  show l.toArray.size = l.length
  rw [List.size_toArray]
theorem str_len (z : Str) : z.cps.toList.length = z.length := by
  show z.cps.toList.length = z.cps.size
  rw [Array.length_toList]
def runL (p : Nat → Bool) : List Nat → Nat
  | [] => 0
  | c :: r => if p c = true then runL p r + 1 else 0
theorem runL_le (p : Nat → Bool) : ∀ t : List Nat, runL p t ≤ t.length
  | [] => Nat.le_refl _
  | c :: r => by
    have ih := runL_le p r
    show (if p c = true then runL p r + 1 else 0) ≤ r.length + 1
    by_cases h : p c = true
    · rw [if_pos h]; omega
    · rw [if_neg h]; omega
theorem runL_yes {p : Nat → Bool} {c : Nat} {r : List Nat} (h : p c = true) : runL p (c :: r) = runL p r + 1 := if_pos h
theorem runL_no {p : Nat → Bool} {c : Nat} {r : List Nat} (h : p c = false) : runL p (c :: r) = 0 := if_neg (by rw [h]; exact Bool.false_ne_true)
theorem runL_nil {p : Nat → Bool} : runL p [] = 0 := rfl
def lexC (c : Nat) (r : List Nat) : Option (Str × Nat) :=
  if inS SGN c = true then some ("sign", 1)
  else if inS LTR c = true then (if runL (inS (LTR ++ DIG)) (c :: r) ≤ 12 then some ("word", runL (inS (LTR ++ DIG)) (c :: r)) else none)
  else if inS DIG c = true then some ("number", if c = 48 then 1 else runL (inS DIG) (c :: r)) else none
def lexL : List Nat → Option (Str × Nat)
  | [] => none
  | c :: r => lexC c r
theorem in_cat (c : Nat) : inS (LTR ++ DIG) c = (inS LTR c || inS DIG c) := by
  show decide (c ∈ (LTR.cps ++ DIG.cps).toList) = (decide (c ∈ LTR.cps.toList) || decide (c ∈ DIG.cps.toList))
  rw [Array.toList_append]
  by_cases h1 : c ∈ LTR.cps.toList <;> by_cases h2 : c ∈ DIG.cps.toList <;> simp [h1, h2]
theorem lexL_pos {c : Nat} {r : List Nat} {k : Str} {n : Nat} (h : lexL (c :: r) = some (k, n)) : 1 ≤ n ∧ n ≤ (c :: r).length := by
  have h : lexC c r = some (k, n) := h
  unfold lexC at h
  by_cases h1 : inS SGN c = true
  · rw [if_pos h1] at h
    cases h; exact ⟨Nat.le_refl _, Nat.succ_le_succ (Nat.zero_le _)⟩
  rw [if_neg h1] at h
  by_cases h2 : inS LTR c = true
  · rw [if_pos h2] at h
    by_cases h3 : runL (inS (LTR ++ DIG)) (c :: r) ≤ 12
    · rw [if_pos h3] at h
      cases h
      refine ⟨?_, runL_le _ _⟩
      rw [runL_yes (by rw [in_cat, h2]; rfl)]
      omega
    · rw [if_neg h3] at h
      cases h
  rw [if_neg h2] at h
  by_cases h3 : inS DIG c = true
  · rw [if_pos h3] at h
    cases h
    by_cases h4 : c = 48
    · rw [if_pos h4]; exact ⟨Nat.le_refl _, Nat.succ_le_succ (Nat.zero_le _)⟩
    · rw [if_neg h4]
      refine ⟨?_, runL_le _ _⟩
      rw [runL_yes h3]
      omega
  · rw [if_neg h3] at h
    cases h
abbrev Tk := Str × List Nat × Nat
def scanF : Nat → List Nat → Nat → List Tk × Option Nat
  | 0, _, _ => ([], none)
  | _ + 1, [], _ => ([], none)
  | f + 1, c :: r, p => if inS BLK c = true then scanF f r (p + 1) else match lexL (c :: r) with
    | none => ([], some p)
    | some (k, n) => ((k, (c :: r).take n, p) :: (scanF f ((c :: r).drop n) (p + n)).1, (scanF f ((c :: r).drop n) (p + n)).2)
theorem scanF_enough : ∀ (f g : Nat) (t : List Nat) (p : Nat), t.length < f → t.length < g → scanF f t p = scanF g t p
  | 0, _, _, _, h, _ => absurd h (Nat.not_lt_zero _)
  | _ + 1, 0, _, _, _, h => absurd h (Nat.not_lt_zero _)
  | f + 1, g + 1, [], p, _, _ => rfl
  | f + 1, g + 1, c :: r, p, h1, h2 => by
    have l : (c :: r).length = r.length + 1 := rfl
    unfold scanF
    by_cases hb : inS BLK c = true
    · rw [if_pos hb, if_pos hb]
      exact scanF_enough f g r (p + 1) (by omega) (by omega)
    · rw [if_neg hb, if_neg hb]
      cases e : lexL (c :: r) with
      | none => rfl
      | some q =>
        obtain ⟨k, n⟩ := q
        have ⟨n1, n2⟩ := lexL_pos e
        have ih := scanF_enough f g ((c :: r).drop n) (p + n) (by rw [List.length_drop]; omega) (by rw [List.length_drop]; omega)
        show ((k, (c :: r).take n, p) :: (scanF f ((c :: r).drop n) (p + n)).1, (scanF f ((c :: r).drop n) (p + n)).2) = ((k, (c :: r).take n, p) :: (scanF g ((c :: r).drop n) (p + n)).1, (scanF g ((c :: r).drop n) (p + n)).2)
        rw [ih]
def scan (t : List Nat) (p : Nat) : List Tk × Option Nat := scanF (t.length + 1) t p
theorem scan_nil (p : Nat) : scan [] p = ([], none) := rfl
theorem scan_blank {c : Nat} {r : List Nat} {p : Nat} (h : inS BLK c = true) : scan (c :: r) p = scan r (p + 1) := by
  show scanF (r.length + 1 + 1) (c :: r) p = _
  unfold scanF
  rw [if_pos h]
  rfl
theorem scan_none {c : Nat} {r : List Nat} {p : Nat} (h : inS BLK c = false) (e : lexL (c :: r) = none) : scan (c :: r) p = ([], some p) := by
  show scanF (r.length + 1 + 1) (c :: r) p = _
  unfold scanF
  rw [if_neg (by rw [h]; exact Bool.false_ne_true), e]
theorem scan_some {c : Nat} {r : List Nat} {p : Nat} {k : Str} {n : Nat} (h : inS BLK c = false) (e : lexL (c :: r) = some (k, n)) :
    scan (c :: r) p = ((k, (c :: r).take n, p) :: (scan ((c :: r).drop n) (p + n)).1, (scan ((c :: r).drop n) (p + n)).2) := by
  have ⟨n1, n2⟩ := lexL_pos e
  have l : (c :: r).length = r.length + 1 := rfl
  have q : scanF (r.length + 1) ((c :: r).drop n) (p + n) = scan ((c :: r).drop n) (p + n) := scanF_enough _ _ _ _ (by rw [List.length_drop]; omega) (Nat.lt_succ_self _)
  show scanF (r.length + 1 + 1) (c :: r) p = _
  unfold scanF
  rw [if_neg (by rw [h]; exact Bool.false_ne_true), e]
  show ((k, (c :: r).take n, p) :: (scanF (r.length + 1) ((c :: r).drop n) (p + n)).1, (scanF (r.length + 1) ((c :: r).drop n) (p + n)).2) = _
  rw [q]
/-- where the reading stops -/
def stopAt (t : List Nat) (o : Option Nat) : Nat := o.getD t.length
theorem at_drop {t : List Nat} {p : Nat} (h : p < t.length) : t.drop p = t[p] :: t.drop (p + 1) := List.drop_eq_getElem_cons h
/-! the tuples of lexemes, in the heap -/
def tkV (t : Tk) : List V := [.str t.1, .str (txt t.2.1), .int (t.2.2 : Nat)]
inductive Tks (H : Hp) : List V → List Tk → Prop
  | nil : Tks H [] []
  | cons {a : Addr} {t : Tk} {xs : List V} {ts : List Tk} (e : H a = some (.tup (tkV t))) (h : Tks H xs ts) : Tks H (.ref a :: xs) (t :: ts)
theorem Tks.keep {H H' : Hp} (g : ∀ a xs, H a = some (.tup xs) → H' a = some (.tup xs)) : ∀ {xs : List V} {ts : List Tk}, Tks H xs ts → Tks H' xs ts
  | _, _, .nil => .nil
  | _, _, .cons e h => .cons (g _ _ e) (h.keep g)
theorem Tks.same {H H' : Hp} {xs : List V} {ts : List Tk} (h : Tks H xs ts) (g : Same H H') : Tks H' xs ts := h.keep fun a _ e => g a _ e
theorem Tks.length {H : Hp} : ∀ {xs : List V} {ts : List Tk}, Tks H xs ts → xs.length = ts.length
  | _, _, .nil => rfl
  | _, _, .cons _ h => congrArg (· + 1) h.length
theorem Tks.snoc {H : Hp} {a : Addr} {t : Tk} (e : H a = some (.tup (tkV t))) : ∀ {xs : List V} {ts : List Tk}, Tks H xs ts → Tks H (xs ++ [.ref a]) (ts ++ [t])
  | _, _, .nil => .cons e .nil
  | _, _, .cons e' h => .cons e' (h.snoc e)
/-- the list at a, which is new, holds these -/
structure TkL (H : Hp) (a : Addr) (ts : List Tk) : Prop where
  at_ : ∃ xs, H a = some (.lst xs) ∧ Tks H xs ts
end My

namespace My
open PySem PySem.Spec PyProof.Rows L2
/-! ### over the signs of a text -/
theorem lc_str {z : Str} {g : TG} {tt : TT} {te : TE} {vs : List Nat} {σ : L2.St} {H1 : Hp} {D : Addr} {Qd : Hp → Prop} (Pv : Nat → Hp → Prop) (h0 : Pv 0 (L2.upd H1 D (.lst [])))
    (hs : ∀ i c H, z.cps.toList[i]? = some c → Pv i H → g (.str ⟨#[c]⟩) (wipe σ vs) H fun σ2 H2 => wipe σ2 vs = wipe σ vs ∧ tt σ2 H2 fun b H3 =>
      if b = true then te σ2 H3 (fun y H4 => ∃ acc, H4 D = some (.lst acc) ∧ acc.length < sizeLine ∧ Pv (i + 1) (L2.upd H4 D (.lst (acc ++ [y])))) else Pv (i + 1) H3)
    (hd : ∀ H, Pv z.length H → Qd H) :
    ∃ W : Nat → Nat → Hp → Prop, (∃ m, W 0 m (L2.upd H1 D (.lst []))) ∧ ∀ i m H, W i m H → ((Its z).stop i H ∧ Qd H) ∨
      ((Its z).go i H ∧ ∃ N : Hp → Prop, (∀ H', N H' → ∃ m', m' < m ∧ W (i + 1) m' H') ∧ ∀ x H', (Its z).yld i H x H' → g x (wipe σ vs) H' fun σ2 H2 => wipe σ2 vs = wipe σ vs ∧ tt σ2 H2 fun b H3 =>
        if b = true then te σ2 H3 (fun y H4 => ∃ acc, H4 D = some (.lst acc) ∧ acc.length < sizeLine ∧ N (L2.upd H4 D (.lst (acc ++ [y])))) else N H3) := by
  refine ⟨fun i m H => m = z.length - i ∧ i ≤ z.length ∧ Pv i H, ⟨z.length, rfl, Nat.zero_le _, h0⟩, fun i m H ⟨em, hi, p⟩ => ?_⟩
  by_cases hlt : i < z.length
  · refine .inr ⟨hlt, Pv (i + 1), fun H' p' => ⟨z.length - (i + 1), by omega, rfl, hlt, p'⟩, fun x H' ⟨e1, c, e2, e3⟩ => ?_⟩
    rw [e1, e3]
    exact hs i c H (by rw [Array.getElem?_toList]; exact e2) p
  · have e : i = z.length := by omega
    exact .inl ⟨Nat.le_of_not_lt hlt, hd H (e ▸ p)⟩
theorem for_str {z : Str} {g : TG} {tb : TS} {D : Ends} {σ : L2.St} {H : Hp} (Pv : Nat → L2.St → Hp → Prop) (h0 : Pv 0 σ H)
    (hs : ∀ i c σ H, z.cps.toList[i]? = some c → Pv i σ H → g (.str ⟨#[c]⟩) σ H fun σ2 H2 => tb { D with nx := Pv (i + 1), ct := Pv (i + 1), bk := D.nx } σ2 H2) (hd : ∀ σ H, Pv z.length σ H → D.nx σ H) :
    ∃ W : Nat → Nat → L2.St → Hp → Prop, (∃ m, W 0 m σ H) ∧ ∀ i m σ H, W i m σ H → ((Its z).stop i H ∧ D.nx σ H) ∨
      ((Its z).go i H ∧ ∃ N : L2.St → Hp → Prop, (∀ σ' H', N σ' H' → ∃ m', m' < m ∧ W (i + 1) m' σ' H') ∧ ∀ x H', (Its z).yld i H x H' → g x σ H' fun σ2 H2 => tb { D with nx := N, ct := N, bk := D.nx } σ2 H2) := by
  refine ⟨fun i m σ H => m = z.length - i ∧ i ≤ z.length ∧ Pv i σ H, ⟨z.length, rfl, Nat.zero_le _, h0⟩, fun i m σ H ⟨em, hi, p⟩ => ?_⟩
  by_cases hlt : i < z.length
  · refine .inr ⟨hlt, Pv (i + 1), fun σ' H' p' => ⟨z.length - (i + 1), by omega, rfl, hlt, p'⟩, fun x H' ⟨e1, c, e2, e3⟩ => ?_⟩
    rw [e1, e3]
    exact hs i c σ H (by rw [Array.getElem?_toList]; exact e2) p
  · have e : i = z.length := by omega
    exact .inl ⟨Nat.le_of_not_lt hlt, hd σ H (e ▸ p)⟩
end My

namespace My
open PySem PySem.Spec PyProof.Rows L2
/-! ### a def that is called where nothing is being shown: its body may show values -/
structure FnG (P : Program) (w : World) (K : PySem.W.Frag) (mg : Str → Option Value) (base : Heap) (k : Nat) (f : Addr) (fd : FuncData) (ps : List Str) (sp : Sp) : Prop where
  len : ∀ vs H Q E, sp vs H Q E → vs.length = ps.length
  run : ∀ (A : Around), A.guards = some [] → Room k A → ∀ (outer : List Env) (s : Shared) (H : Hp), Env0 P w K mg base A outer s H → ∀ (args : Args) (us : List Value), BindsTo s fd args (ps.zip us) →
    ∀ (vs : List V), Vals vs us → ∀ (Q : VK) (E : XK), sp vs H Q E → codeAny (model P w) A (.call (.ref f) args) (CR CX0 outer P w H s Q E) s
section
variable {P : Program} {w : World} {K : PySem.W.Frag} {mg : Str → Option Value} {base : Heap}
theorem FnG.of {x qual : Str} {st : Stmt} {f : Addr} {fd : FuncData} {N ps : List Str} {k : Nat} {sp : Sp} (F : Fun K x qual st f fd) (S : FnScope N ps (defScope st)) (len : ∀ vs H Q E, sp vs H Q E → vs.length = ps.length)
    (body : ∀ (cdv : Value) (A : Around) (outer : List Env) (s : Shared) (H : Hp) (vs : List V) (Q : VK) (E : XK), A.guards = some [] → Room k (A.deeper (envOfC qual (defScope st) s.heap.objs.size f cdv)) → sp vs H Q E →
      ∃ t, PSs (cxOf CX0 P w K mg base N qual (defScope st) f cdv A outer s H E).nox (defBody st) t ∧ t { nx := fun _ H' => Q .non H', rt := Q } (start N vs) H) :
    FnG P w K mg base (k + 1) f fd ps sp := by
  obtain ⟨oc, od, kV, doc, pm, an, cdv, ct, osl, rfl, lk, hcd⟩ := F.ex
  refine ⟨len, fun A hg hr outer s H e0 args us hb vs r Q E hsp => ?_⟩
  have KX : K.In s.heap := e0.mod.kin.keeps fun b o q => (e0.bs b o q).1
  have nl : s.heap.NoLimit := e0.mod.nolimit.keeps fun b o q => (e0.bs b o q).1
  have kinds : ∀ y ∈ ps.zip us, (defScope st).names.lookup y.1 = some .local ∨ ((defScope st).names.lookup y.1 = some .cell ∧ ((cellsFrom (s.heap.objs.size + 1) (defScope st).names []).lookup y.1).isSome = true) := by
    rintro ⟨n, v⟩ hy
    have q := S.par n (List.of_mem_zip hy).1
    exact q.imp id fun q => ⟨q, PySem.W.cellsFrom_some _ _ _ (.inl q)⟩
  refine codeAny_call_function hr.depth (KX _ _ lk) rfl S.co S.gen rfl (PySem.W.codeRec_of KX hcd) (hb _ _ _ _ (wpAny_newFunctionEnv_cells S.kind kinds fun env he s1 x => ?_))
  subst he
  refine ⟨nl.keeps x.toInCall.keep, codeAny_func ?_⟩
  obtain ⟨t, ht, hq⟩ := body cdv A outer s H vs Q E hg (hr.deeper _) hsp
  have I : Inv (cxOf CX0 P w K mg base N qual (defScope st) f cdv A outer s H E) [] (start N vs) H s1 := inv_start S hr.hd e0 (len _ _ _ _ hsp) r x
  refine wpAny_mono (ht.nox.run [] s1 (start N vs) H _ I hq) (fun fl s' hs => ?_) (fun e s' hs => hs)
  have last : ∀ {σ' : L2.St} {H' : Hp} {v : V} {u : Value}, Inv (cxOf CX0 P w K mg base N qual (defScope st) f cdv A outer s H E) [] σ' H' s' → RelV v u → Q v H' → CE outer P w H s Q u s' := fun J rv q => ⟨_, _, J.os, J.bare, J.base, J.hok, rv, q⟩
  rcases fl with _ | _ | _ | u
  all_goals first
    | (obtain ⟨v, σ', H', J, rv, q⟩ := hs; exact last J rv q)
    | (obtain ⟨σ', H', J, q⟩ := hs; exact last (v := V.non) (u := Value.none) J rfl q)
    | (obtain ⟨_, _, _, q⟩ := hs; exact False.elim q)
/-- the law's def, called by the one who asks for the proof -/
theorem law_runG {k : Nat} {fa a : Addr} {fd : FuncData} {x : Str} {sp : Sp} {mb : Str → Option Value} {s₁ : Shared} {vs : List Value} {ns : List Int}
    (KX : K.In s₁.heap) (hns : s₁.heap.Ns mainGlobals mg) (hb : s₁.heap.Ns builtinsNs mb) (hbb : ∀ x : Str, x ≠ "__name__" → mb x = bootBuiltins x) (nl : s₁.heap.NoLimit) (hg : s₁.gens = #[])
    (ha : s₁.heap.get? a = some { cls := .type "list", data := .seq vs.toArray }) (hi : IntsAre vs ns) (hl : ns.length ≤ sizeLine) (hr : Room k callerA)
    (F : ∀ base : Heap, K.In base → base.Ns mainGlobals mg → FnG P w K mg base k fa fd [x] sp) (bind : ∀ (s : Shared) (u : Value), BindsTo s fd ⟨[u], []⟩ [(x, u)])
    (hsp : ∀ H : Hp, Only H → SqL K H a (ns.map V.int) → sp [.ref a] H (fun v _ => v = .bl true) fun _ _ _ => False) :
    codeAny (model P w) callerA (.call (.ref fa) ⟨[.ref a], []⟩) (fun r s' => r = .ok (.ret (.bool true)) ∧ OldK s₁.heap s'.heap ∧ s'.os = s₁.os ∧ AllBare s'.gens) s₁ := by
  have rv := vals_ints hi
  have lv := hi.length
  have core : ∀ H : Hp, Only H ∧ SqL K H a (ns.map V.int) ∧ HOk P w H s₁.heap ∧ (∀ b, H b ≠ none → b = a) ∧ (H a ≠ none → K.lookup a = none) →
      codeAny (model P w) callerA (.call (.ref fa) ⟨[.ref a], []⟩) (fun r s' => r = .ok (.ret (.bool true)) ∧ OldK s₁.heap s'.heap ∧ s'.os = s₁.os ∧ AllBare s'.gens) s₁ := by
    rintro H ⟨hO, hS, hok, hA, hK⟩
    have no : ∀ {b : Addr}, b ≠ a → H b = none := fun {b} n => by
      cases q : H b with
      | none => rfl
      | some u => exact absurd (hA b fun z => by rw [q] at z; cases z) n
    have dicts : ∀ {b : Addr} {o : Obj} {es : Array DictEntry} {ep : Nat}, s₁.heap.get? b = some o → o.data = .dict es ep → (hidT s₁.heap H).get? b = some o := fun {b o es ep} e d => hidT_get e (no fun z => by
      rw [z, ha] at e
      have e' := Option.some.inj e
      rw [← e'] at d
      exact Data.noConfusion d)
    have nsK : ∀ {b : Addr} {m : Str → Option Value}, s₁.heap.Ns b m → (hidT s₁.heap H).Ns b m := fun z => by
      obtain ⟨o, es, ep, e, d, r⟩ := z
      exact ⟨o, es, ep, dicts e d, d, r⟩
    have inK : K.In (hidT s₁.heap H) := fun b o e => by
      refine hidT_get (KX b o e) ?_
      by_cases hb : b = a
      · cases q : H b with
        | none => rfl
        | some u =>
          have z := hK (by rw [← hb, q]; exact fun z => nomatch z)
          rw [hb, z] at e
          cases e
      · exact no hb
    obtain ⟨mc, c1, c2⟩ := nl
    have e0 : Env0 P w K mg (hidT s₁.heap H) callerA [] s₁ H :=
      { frames := rfl, mod := ⟨inK, nsK hns, ⟨mb, nsK hb, hbb⟩, ⟨mc, nsK c1, c2⟩⟩, bs := fun b o e => of_hidT e, bsz := Nat.le_of_eq (hidT_size _ _), funs := trivial, frf := fun b z => absurd z List.not_mem_nil, hok := hok, bare := .of_eq hg }
    refine codeAny_mono ((F _ inK (nsK hns)).run callerA rfl hr [] s₁ H e0 ⟨[.ref a], []⟩ [.ref a] (bind s₁ (.ref a)) [.ref a] (.cons rfl .nil) _ _ (hsp H hO hS)) fun r s' h => ?_
    rcases r with e | fl
    · exact False.elim h
    rcases fl with _ | _ | _ | u
    all_goals first
      | exact False.elim h
      | skip
    obtain ⟨v, H', os, bare, un, hok', r', q⟩ := h
    have q' : v = .bl true := q
    rw [q'] at r'
    have r2 : u = Value.bool true := r'
    refine ⟨by rw [r2], OldK.of_keep fun b o e => ?_, os, bare⟩
    rcases hO b with z | ⟨ob, xs, z⟩
    · exact un.keep b o e z List.not_mem_nil List.not_mem_nil
    · have z1 := (hok b _ z).1
      have z2 := (hok' b _ (un.frzs b ob _ z)).1
      rw [e] at z1
      cases z1
      exact z2
  cases hk : K.lookup a with
  | some o =>
    have e := KX a o hk
    rw [ha] at e
    cases e
    exact core (fun _ => none) ⟨fun _ => .inl rfl, .inr ⟨_, vs.toArray, _, hk, rfl, rfl, rfl, by rw [List.size_toArray, lv]; exact hl, by simpa using rv⟩, (fun b u z => nomatch z), fun b z => absurd rfl z, fun z => absurd rfl z⟩
  | none =>
    have at_ : ∀ {b : Addr} {u : HO}, (if b = a then some (HO.frz { cls := .type "list", data := .seq vs.toArray } (.lst (ns.map V.int))) else none) = some u → b = a ∧ u = HO.frz { cls := .type "list", data := .seq vs.toArray } (.lst (ns.map V.int)) := fun {b u} z => by
      by_cases h : b = a
      · rw [if_pos h] at z; exact ⟨h, (Option.some.inj z).symm⟩
      · rw [if_neg h] at z; cases z
    refine core (fun b => if b = a then some (.frz { cls := .type "list", data := .seq vs.toArray } (.lst (ns.map V.int))) else none) ⟨fun b => ?_, .inl (.inr ⟨_, if_pos rfl⟩), fun b u z => ?_, fun b z => ?_, fun _ => hk⟩
    · by_cases h : b = a
      · exact .inr ⟨_, _, if_pos h⟩
      · exact .inl (if_neg h)
    · obtain ⟨rfl, rfl⟩ := at_ z
      exact ⟨ha, by rw [List.length_map]; exact hl, vs, _, rv, ha⟩
    · by_cases h : b = a
      · exact h
      · exact absurd (if_neg h) z
end
/-- the walk's goal from the law's promise, the values being shown within -/
theorem walk_ofG {l : PySem.W.OpenLaw} {n k : Nat} {q : Program} {loose : List Str} {XP : (Str → Option Value) → Heap → Prop} {YP : World → Heap → Prop} {d : DefRec} {K : Params → PySem.W.Frag} {sp : World → Sp} {x : Str}
    (hn : l.most = some n) (hn2 : n ≤ sizeLine) (hdf : d.params.defaults = []) (hr : Room k callerA) (hY : ∀ (w : World) (h : Heap), YP w h → (K w.params).In h)
    (F : ∀ (w : World) (mg : Str → Option Value) (fa : Addr) (h : Heap), (K w.params).In h → h.Ns mainGlobals mg → mg d.name = some (.ref fa) → ∃ fd : FuncData, (∀ (s : Shared) (u : Value), BindsTo s fd ⟨[u], []⟩ [(x, u)]) ∧
      ∀ base : Heap, (K w.params).In base → base.Ns mainGlobals mg → FnG l.prog w (K w.params) mg base k fa fd [x] (sp w))
    (hsp : ∀ (w : World) (H : Hp) (a : Addr) (ns : List Int), ns.length ≤ n → Only H → SqL (K w.params) H a (ns.map V.int) → sp w [.ref a] H (fun v _ => v = .bl true) fun _ _ _ => False) :
    PySem.W.WalkO q loose XP YP l.row.toRowW d [] (fun f vs => PySem.call f vs) :=
  Att.attach_call hn hdf fun w s₀ s₁ mg mb fa o pm cd doc a vs ns G Y _ _ _ hmg ho hi hlen hg => by
    obtain ⟨fd, b, hF⟩ := F w mg fa _ (hY w _ Y) G.T.g hmg
    exact law_runG (hY w _ Y) G.T.g G.T.b G.T.builtins G.T.nolimit hg ho hi (Nat.le_trans hlen hn2) hr hF b fun H hO hS => hsp w H a ns hlen hO hS
end My

namespace My
open PySem PySem.Spec PyProof.Rows L2
/-! ### repr of data at any depth -/
mutual
theorem Dp.noDict {K : PySem.W.Frag} {H : Hp} : ∀ {v : V} {d : PyData}, Dp K H v d → d.hasDict = false
  | _, _, .non => rfl
  | _, _, .bl _ => rfl
  | _, _, .int _ => rfl
  | _, _, .str _ => rfl
  | _, _, .lst _ h => My.DpAll.noDict h
  | _, _, .tup _ h => My.DpAll.noDict h
theorem DpAll.noDict {K : PySem.W.Frag} {H : Hp} : ∀ {vs : List V} {ds : List PyData}, DpAll K H vs ds → PyData.hasDictAll ds = false
  | _, _, .nil => rfl
  | _, _, .cons h hs => by
    show (_ || _) = false
    rw [My.Dp.noDict h, My.DpAll.noDict hs]
    rfl
end
section
variable {X : Cx}
def rReprD (K : PySem.W.Frag) : List V → Hp → VK → Prop := fun xs H Q => ∃ (a : Addr) (d : PyData), xs = [.ref a] ∧ Dp K H (.ref a) d ∧ d.showable = true ∧ d.depth ≤ 60 ∧ d.shown.length ≤ sizeLine ∧ Q (.str d.shown) H
theorem call_repr_D (hg : X.A.guards = some []) (hu : X.A.units + 64 < cLine) : CallR X (.builtin "repr") (rReprD X.K) := by
  intro pins s σ H xs us Q I r h
  obtain ⟨a, d, rfl, dp, sh, dd, sz, q⟩ := h
  obtain ⟨u, rfl, r1⟩ := vals1 r
  cases (show u = Value.ref a from r1)
  obtain ⟨as, hr⟩ := Dp.reads I d _ _ dp rfl
  have nd := My.Dp.noDict dp
  exact repr_of_reads' hr sh (fun z => by rw [nd] at z; cases z) hg (by omega) (fun _ _ e => e) (fun h' u tk hk => ⟨.str d.shown, H, I.kept hk, ⟨u, rfl⟩, q⟩) sz
end
theorem seqT {K : PySem.W.Frag} {H H' : Hp} {a : Addr} {xs : List V} (e : Same H H') (h : SqT K H a xs) : SqT K H' a xs := by
  rcases h with h | h
  · refine .inl ?_
    rcases h with h | h
    · exact .inl (e _ _ h)
    · obtain ⟨o, h⟩ := h
      exact .inr ⟨o, e _ _ h⟩
  · exact .inr h
mutual
theorem Dp.same {K : PySem.W.Frag} {H H' : Hp} (e : Same H H') : ∀ {v : V} {d : PyData}, Dp K H v d → Dp K H' v d
  | _, _, .non => .non
  | _, _, .bl b => .bl b
  | _, _, .int i => .int i
  | _, _, .str x => .str x
  | _, _, .lst h hs => .lst (e.seq h) (My.DpAll.same e hs)
  | _, _, .tup h hs => .tup (seqT e h) (My.DpAll.same e hs)
theorem DpAll.same {K : PySem.W.Frag} {H H' : Hp} (e : Same H H') : ∀ {vs : List V} {ds : List PyData}, DpAll K H vs ds → DpAll K H' vs ds
  | _, _, .nil => .nil
  | _, _, .cons h hs => .cons (My.Dp.same e h) (My.DpAll.same e hs)
end
end My

namespace My
open PySem PySem.Spec PyProof.Rows L2
section
variable {X : Cx} {es : List Expr} {t : TA} {pos : Pos}
/-- a list display whose list is told to lie above the table of modules -/
def tLstN (t : TA) : TE := fun σ H Q => t σ H fun xs H1 => xs.length ≤ sizeLine ∧ ∀ p, H1 p = none → sysModules < p → Q (.ref p) (L2.upd H1 p (.lst xs))
theorem pe_lstN (h : PA X es t) : PE X (.List es pos) (tLstN t) := by
  refine ⟨fun pins s σ H Q I hq => wpAny_List_spliced (thn (h.run pos pins s σ H _ I hq) ?_)⟩
  rintro us s1 ⟨xs, H1, I1, r, z, q⟩
  have fr : H1 s1.heap.objs.size = none := I1.hok.fresh (Nat.le_refl _)
  refine ⟨by rw [← r.length]; exact z, .ref s1.heap.objs.size, L2.upd H1 s1.heap.objs.size (.lst xs), ?_, rfl, q _ fr I1.big⟩
  exact I1.laid (t' := s1.toks) (fun b u e => Heap.get?_push_of_some _ e) (Nat.le_refl _) ⟨z, us, 0, r, Heap.get?_push_size _ rfl⟩
/-- list(..) of a list or tuple, likewise -/
theorem call_list_ofN : CallR X (.type "list") (fun xs H Q => ∃ p ys, xs = [.ref p] ∧ (SqL X.K H p ys ∨ SqT X.K H p ys) ∧ ∀ l, H l = none → sysModules < l → Q (.ref l) (L2.upd H l (.lst ys))) := by
  intro pins s σ H xs us Q I r h
  obtain ⟨p, ys, rfl, hq, q⟩ := h
  obtain ⟨u, rfl, rx⟩ := vals1 r
  cases rx
  have big := I.big
  have fr : H s.heap.objs.size = none := I.hok.fresh (Nat.le_refl _)
  have fin : ∀ (its : List Value), Vals ys its → ys.length ≤ sizeLine → ∀ (h' : Heap) (c' : Nat), (∀ b o', s.heap.get? b = some o' → h'.get? b = some o') → h'.get? s.heap.objs.size = some { cls := .type "list", dict := none, data := .seq its.toArray c', slots := #[] } →
      EP X pins σ Q (.ref s.heap.objs.size) { s with heap := h' } := by
    intro its r' hz h' c' kp e
    refine ⟨.ref s.heap.objs.size, L2.upd H s.heap.objs.size (.lst ys), I.laid (t' := s.toks) kp (Nat.le_refl _) ?_, rfl, q _ fr big⟩
    exact (show ObjOk X.prog X.w _ h' _ (.lst ys) from ⟨hz, its, c', r', e⟩)
  rcases hq with hq | hq
  · obtain ⟨its, r', pl, hz⟩ := I.list hq
    have hlen := r'.length
    obtain ⟨o, ho, hc, n, hd⟩ := pl.isList
    exact call_list_seq p (.inl rfl) ho hc hd (fun h' c' kp e => fin its r' hz h' c' kp e) (by rw [List.size_toArray]; omega)
  · obtain ⟨its, r', pl, hz⟩ := I.tuple hq
    have hlen := r'.length
    obtain ⟨o, ho, hc, n, hd⟩ := pl
    exact call_list_seq p (.inr rfl) ho hc hd (fun h' c' kp e => fin its r' hz h' c' kp e) (by rw [List.size_toArray]; omega)
end
end My

namespace My
open PySem PySem.Spec PyProof.Rows L2
/-! ### values at any depth, dicts among them -/
/-- the dicts that occur -/
inductive DctE : List (Key × V) → List (PyData × PyData) → Prop
  | none : DctE [] []
  | one : DctE [(.inl 0, .int 1)] [(.int 0, .int 1)]
mutual
inductive Dq (H : Hp) : V → PyData → Prop
  | non : Dq H .non .none
  | bl (b : Bool) : Dq H (.bl b) (.bool b)
  | int (i : Int) : Dq H (.int i) (.int i)
  | str (x : Str) : Dq H (.str x) (.str x)
  | lst {a : Addr} {xs : List V} {ds : List PyData} : H a = some (.lst xs) → sysModules < a → DqAll H xs ds → Dq H (.ref a) (.list ds)
  | tup {a : Addr} {xs : List V} {ds : List PyData} : H a = some (.tup xs) → DqAll H xs ds → Dq H (.ref a) (.tuple ds)
  | dct {a : Addr} {kvs : List (Key × V)} {es : List (PyData × PyData)} : H a = some (.dK kvs) → DctE kvs es → Dq H (.ref a) (.dict es)
inductive DqAll (H : Hp) : List V → List PyData → Prop
  | nil : DqAll H [] []
  | cons {v : V} {vs : List V} {d : PyData} {ds : List PyData} : Dq H v d → DqAll H vs ds → DqAll H (v :: vs) (d :: ds)
end
mutual
theorem Dq.same {H H' : Hp} (e : Same H H') : ∀ {v : V} {d : PyData}, Dq H v d → Dq H' v d
  | _, _, .non => .non
  | _, _, .bl b => .bl b
  | _, _, .int i => .int i
  | _, _, .str x => .str x
  | _, _, .lst h n hs => .lst (e _ _ h) n (DqAll.same e hs)
  | _, _, .tup h hs => .tup (e _ _ h) (DqAll.same e hs)
  | _, _, .dct h x => .dct (e _ _ h) x
theorem DqAll.same {H H' : Hp} (e : Same H H') : ∀ {vs : List V} {ds : List PyData}, DqAll H vs ds → DqAll H' vs ds
  | _, _, .nil => .nil
  | _, _, .cons h hs => .cons (Dq.same e h) (DqAll.same e hs)
end
theorem DqAll.length {H : Hp} : ∀ {vs : List V} {ds : List PyData}, DqAll H vs ds → vs.length = ds.length
  | _, _, .nil => rfl
  | _, _, .cons _ h => congrArg (· + 1) h.length
theorem DqAll.get {H : Hp} : ∀ {vs : List V} {ds : List PyData} {i : Nat} {d : PyData}, DqAll H vs ds → ds[i]? = some d → ∃ v, vs[i]? = some v ∧ Dq H v d
  | _, _, 0, _, .cons h _, e => by
    cases e
    exact ⟨_, rfl, h⟩
  | _, _, i + 1, _, .cons _ hs, e => hs.get (i := i) e
/-- the kind's name -/
def tyD : PyData → String
  | .none => "NoneType"
  | .bool _ => "bool"
  | .int _ => "int"
  | .str _ => "str"
  | .list _ => "list"
  | .tuple _ => "tuple"
  | .dict _ => "dict"
theorem Dq.ty {K : PySem.W.Frag} {H : Hp} {v : V} {d : PyData} (h : Dq H v d) : TyX K H v (.type (tyD d)) := by
  cases h with
  | non => exact .base .non
  | bl b => exact .base (.bl b)
  | int i => exact .base (.int i)
  | str x => exact .base (.str x)
  | lst e _ _ => exact .base (.lst e)
  | tup e _ => exact .base (.tup e)
  | dct e _ => exact .base (.dK e)
theorem is_str {K : PySem.W.Frag} (d : PyData) : PySem.W.kitOne K (.type (tyD d)) (.type "str") = some (decide (tyD d = "str")) := by
  cases d with
  | none  => exact (kit_ty (r := false) (by decide +kernel) : PySem.W.kitOne K (.type "NoneType") (.type "str") = some false)
  | bool _ => exact (kit_ty (r := false) (by decide +kernel) : PySem.W.kitOne K (.type "bool") (.type "str") = some false)
  | int _ => exact (kit_ty (r := false) (by decide +kernel) : PySem.W.kitOne K (.type "int") (.type "str") = some false)
  | str _ => exact (kit_ty (r := true) (by decide +kernel) : PySem.W.kitOne K (.type "str") (.type "str") = some true)
  | list _ => exact (kit_ty (r := false) (by decide +kernel) : PySem.W.kitOne K (.type "list") (.type "str") = some false)
  | tuple _ => exact (kit_ty (r := false) (by decide +kernel) : PySem.W.kitOne K (.type "tuple") (.type "str") = some false)
  | dict _ => exact (kit_ty (r := false) (by decide +kernel) : PySem.W.kitOne K (.type "dict") (.type "str") = some false)
theorem is_tup {K : PySem.W.Frag} (d : PyData) : PySem.W.kitOne K (.type (tyD d)) (.type "tuple") = some (decide (tyD d = "tuple")) := by
  cases d with
  | none  => exact (kit_ty (r := false) (by decide +kernel) : PySem.W.kitOne K (.type "NoneType") (.type "tuple") = some false)
  | bool _ => exact (kit_ty (r := false) (by decide +kernel) : PySem.W.kitOne K (.type "bool") (.type "tuple") = some false)
  | int _ => exact (kit_ty (r := false) (by decide +kernel) : PySem.W.kitOne K (.type "int") (.type "tuple") = some false)
  | str _ => exact (kit_ty (r := false) (by decide +kernel) : PySem.W.kitOne K (.type "str") (.type "tuple") = some false)
  | list _ => exact (kit_ty (r := false) (by decide +kernel) : PySem.W.kitOne K (.type "list") (.type "tuple") = some false)
  | tuple _ => exact (kit_ty (r := true) (by decide +kernel) : PySem.W.kitOne K (.type "tuple") (.type "tuple") = some true)
  | dict _ => exact (kit_ty (r := false) (by decide +kernel) : PySem.W.kitOne K (.type "dict") (.type "tuple") = some false)
def isAl (c : Nat) : Bool := inS LTR c || inS DIG c
/-! what is asked of trees, as functions -/
def wordD : PyData → Bool
  | .str x => decide (x.length ≤ 12) && (match x.cps.toList with
    | [] => false
    | c :: r => inS LTR c && (c :: r).all isAl)
  | _ => false
def forkD : PyData → Bool
  | .tuple ds => decide (ds.length = 3)
  | _ => false
def emptyD : PyData → Bool
  | .tuple ds => decide (ds.length = 0)
  | _ => false
def nthD (d : PyData) (i : Nat) : PyData := match d with
  | .tuple ds => ds.getD i .none
  | _ => .none
def noneD : PyData → Bool
  | .none => true
  | _ => false
/-- the first wrong side, if any -/
def wrongF : Nat → PyData → Option (List Int)
  | 0, _ => some []
  | n + 1, d => if wordD d = true then none else if forkD d = false then some [] else match wrongF n (nthD d 0) with
    | some p => some (0 :: p)
    | none => match wrongF n (nthD d 1) with
      | some p => some (1 :: p)
      | none => if noneD (nthD d 2) = true ∨ wordD (nthD d 2) = true then none else some [2]
def leavesF : Nat → PyData → List PyData
  | 0, _ => []
  | n + 1, d => if forkD d = true then leavesF n (nthD d 0) ++ leavesF n (nthD d 1) else if emptyD d = true then [] else [d]
def forksF : Nat → PyData → List PyData
  | 0, _ => []
  | n + 1, d => if forkD d = false then [] else [.tuple [nthD d 2, .tuple (leavesF n (nthD d 0)), .tuple (leavesF n (nthD d 1))]] ++ forksF n (nthD d 0) ++ forksF n (nthD d 1)
theorem Dq.fork {H : Hp} {v : V} {d : PyData} (h : Dq H v d) (f : forkD d = true) : ∃ (a : Addr) (x y z : V), v = .ref a ∧ H a = some (.tup [x, y, z]) ∧ Dq H x (nthD d 0) ∧ Dq H y (nthD d 1) ∧ Dq H z (nthD d 2) := by
  cases h with
  | tup e hs =>
    rename_i a xs ds
    have l : ds.length = 3 := of_decide_eq_true f
    match ds, xs, hs, l with
    | [d0, d1, d2], [x, y, z], .cons h0 (.cons h1 (.cons h2 .nil)), _ => exact ⟨a, x, y, z, rfl, e, h0, h1, h2⟩
  | non => cases f
  | bl _ => cases f
  | int _ => cases f
  | str _ => cases f
  | lst _ _ _ => cases f
  | dct _ _ => cases f
end My

namespace My
open PySem PySem.Spec PyProof.Rows L2
section
variable {P : Program} {w : World} {K : PySem.W.Frag} {mg : Str → Option Value} {base : Heap}
theorem max1 {n : Int} (h : 1 ≤ n) : (if n > 1 then n else 1) = n := by
  by_cases e : n > 1
  · rw [if_pos e]
  · rw [if_neg e]; omega
/-- the number of cells that are left -/
def cellsLeft (c : Addr) (H : Hp) : Nat := match H c with
  | some (.lst xs) => xs.length
  | _ => 0
theorem ok_pick (T : Tx K mg) : FnOk P w K mg base CX0 1 T.a_law_pick T.fd_law_pick ["_law_source_here", "_law_many"] spPick := by
  refine T.F_law_pick.ok sc_law_pick (fun vs H Q E h => ?_) (fun cdv A outer st H vs Q E hr h => ?_)
  · obtain ⟨s, c, n, rfl, _⟩ := h
    rfl
  obtain ⟨s, c, n, rfl, hS, h1, h2, k⟩ := h
  have hu := hu_of hr
  refine ⟨_, ((pss_cons (ps_while PassesOwn.never (PW.pt (pw_and (pt_cmpR op_gt (pv 1) pe_int (nomark _)) (pw_and (pt_cmpR op_lt (pe_dget hu (pv 0) pe_str (fun _ _ => rfl)) pe_int (nomark _)) (pw_and1 (pt_cmpR op_gt (pe_callB call_len_seq (by rfl) T.n_len (by decide +kernel) (pa_cons (pe_dget hu (pv 0) pe_str (fun _ _ => rfl)) pa_nil)) pe_int (nomark _))))))
        (pss_one (ps_dput hu (pv 0) pe_str (pe_bm0 PySem.F.plainAttrs_list PySem.F.slot_list_pop PySem.F.type_list_pop mt_pop (pe_dget hu (pv 0) pe_str (fun _ _ => rfl))) rfl)))
      (pss_cons (ps_set (i := 2) sc_law_pick.nd rfl (Or.inl rfl) (pe_dget hu (pv 0) pe_str (fun _ _ => rfl)))
      (pss_cons (ps_if (PW.pt (pw_or (pt_cmpR op_lt (pv 1) pe_int (nomark _)) (pw_or1 (pt_cmpR op_gt (pv 2) pe_int (nomark _)))))
        (pss_cons (ps_dput hu (pv 0) pe_str (pe_op op_fdiv (pv 2) (pe_callB (call_max2 rfl) (by rfl) T.n_max (by decide +kernel) (pa_cons pe_int (pa_cons (pv 1) pa_nil)))) rfl)
      (pss_one (ps_ret (pe_op op_mod (pe_callTy call_int1 (by rfl) T.n_int (by decide +kernel) (pa_cons (pv 2) pa_nil)) (pe_callB (call_max2 rfl) (by rfl) T.n_max (by decide +kernel) (pa_cons pe_int (pa_cons (pv 1) pa_nil)))))))
        pss_nil)
      (pss_cons (ps_dput hu (pv 0) pe_str (pe_op op_add (pe_dget hu (pv 0) pe_str (fun _ _ => rfl)) pe_int) rfl)
      (pss_cons (ps_set (i := 3) sc_law_pick.nd rfl (Or.inl rfl) (pe_op op_mod (pe_callTy call_int1 (by rfl) T.n_int (by decide +kernel) (pa_cons (pe_op op_add (pe_dget hu (pv 0) pe_str (fun _ _ => rfl)) (pe_op op_mul (pe_dget hu (pv 0) pe_str (fun _ _ => rfl)) pe_int)) pa_nil)) pe_int))
      (pss_cons (ps_set (i := 3) sc_law_pick.nd rfl (Or.inl rfl) (pe_op op_mod (pe_callTy call_int1 (by rfl) T.n_int (by decide +kernel) (pa_cons (pe_op op_add (pe_op op_mul (pv 3) (pv 3)) (pe_op op_mul (pe_dget hu (pv 0) pe_str (fun _ _ => rfl)) pe_int)) pa_nil)) pe_int))
      (pss_cons (ps_dput hu (pv 0) pe_str (pv 3) rfl)
      (pss_one (ps_ret (pe_op op_mod (pe_callTy call_int1 (by rfl) T.n_int (by decide +kernel) (pa_cons (pe_op op_fdiv (pv 3) pe_int) pa_nil)) (pv 1)))))))))))), ?_⟩
  -- the while
  refine while_b (fun σ H' => σ = [some (.ref s), some (.int n), none, none] ∧ Go s c H H') (fun _ H' => cellsLeft c H') ⟨rfl, Go.refl hS⟩ ?_
  rintro σ H1 ⟨rfl, g⟩
  obtain ⟨l, m, t, ns, S⟩ := id g.src
  have gs : ∀ (x : Str) (v : V), valV (srcD c l m t) (Sum.inr x) = some v → DGet H1 s (.str x) (some v) := fun x v e => by
    rw [← e]
    exact DGet.k (k := Sum.inr x) S.hs
  by_cases hw : 1 < n ∧ l < 2 ∧ ns ≠ []
  · obtain ⟨w1, w2, w3⟩ := hw
    refine ⟨true, fun Q' q => ?_, ?_⟩
    · refine ⟨_, rfl, _, _, rfl, rfl, _, rfl, iteD (fun _ => ?_) (fun z => absurd w1 z)⟩
      refine ⟨_, rfl, s, _, rfl, gs "left" _ (get_left _ _ _ _), _, _, rfl, rfl, _, rfl, iteD (fun _ => ?_) (fun z => absurd w2 z)⟩
      refine ⟨_, rfl, s, _, rfl, gs "cells" _ (get_cells _ _ _ _), c, _, rfl, .inl (SqL.of S.hc), _, _, rfl, rfl, _, rfl, ?_⟩
      have e : decide ((0 : Int) < (((ns.map V.int).length : Nat) : Int)) = true := by
        rw [List.length_map]
        cases ns with
        | nil => exact absurd rfl w3
        | cons a r => exact decide_eq_true (by rw [List.length_cons]; omega)
      rw [e]
      exact q
    · refine iteT ?_
      have hlast : ∃ (y : Int), (ns.map V.int)[(ns.map V.int).length - 1]? = some (.int y) ∧ 0 ≤ y := by
        have hp : 0 < ns.length := List.length_pos_iff.mpr w3
        refine ⟨ns[ns.length - 1], ?_, S.n0 _ (List.getElem_mem _)⟩
        rw [List.length_map, List.getElem?_map, List.getElem?_eq_getElem (by omega)]
        rfl
      obtain ⟨y, ey, y0⟩ := hlast
      have hsc : s ≠ c := S.ne
      refine ⟨_, rfl, s, _, rfl, gs "cells" _ (get_cells _ _ _ _), .inl ⟨rfl, _, SqL.of S.hc⟩, c, _, _, rfl, rfl, S.hc, ey, ?_⟩
      refine ⟨_, rfl, s, _, rfl, DPut.k (k := Sum.inr "left") (kvs := srcD c l m t) (by rw [upd_ne hsc]; exact S.hs) (by show 4 < sizeLine; decide), ?_⟩
      rw [put_left]
      have S2 : SrcL (upd (upd H1 c (.lst (ns.map V.int).dropLast)) s (.dK (srcD c y m t))) s c y m t ns.dropLast :=
        ⟨upd_same, by rw [upd_ne hsc.symm, upd_same, List.map_dropLast], y0, S.m0, S.m1, S.t0, fun n h => S.n0 n (List.dropLast_subset _ h), by rw [List.length_dropLast]; have := S.len; omega⟩
      refine ⟨⟨rfl, ⟨fun a o h1 h2 e => ?_, _, _, _, _, S2⟩⟩, ?_⟩
      · rw [upd_ne h1, upd_ne h2]
        exact g.keep a o h1 h2 e
      · show cellsLeft c _ < cellsLeft c _
        unfold cellsLeft
        rw [S2.hc, S.hc]
        show (ns.dropLast.map V.int).length < (ns.map V.int).length
        rw [List.length_map, List.length_map, List.length_dropLast]
        have hp : 0 < ns.length := List.length_pos_iff.mpr w3
        omega
  · refine ⟨false, fun Q' q => ?_, iteF ?_⟩
    · refine ⟨_, rfl, _, _, rfl, rfl, _, rfl, iteD (fun w1 => ?_) (fun _ => q)⟩
      refine ⟨_, rfl, s, _, rfl, gs "left" _ (get_left _ _ _ _), _, _, rfl, rfl, _, rfl, iteD (fun w2 => ?_) (fun _ => q)⟩
      refine ⟨_, rfl, s, _, rfl, gs "cells" _ (get_cells _ _ _ _), c, _, rfl, .inl (SqL.of S.hc), _, _, rfl, rfl, _, rfl, ?_⟩
      have e0 : ns = [] := by
        cases e : ns with
        | nil => rfl
        | cons a r => exact absurd ⟨w1, w2, by rw [e]; exact List.cons_ne_nil _ _⟩ hw
      have e : decide ((0 : Int) < (((ns.map V.int).length : Nat) : Int)) = false := by
        rw [e0]
        rfl
      rw [e]
      exact q
    -- behind the while
    refine ⟨_, rfl, s, _, rfl, gs "left" _ (get_left _ _ _ _), ?_⟩
    have put : ∀ (l' m' t' : Int), 0 ≤ l' → 0 ≤ m' → m' < 4294967296 → 0 ≤ t' → ∀ H2, Go s c H H2 → (∀ b, b ≠ s → H2 b = H1 b) → SrcL (upd H2 s (.dK (srcD c l' m' t'))) s c l' m' t' ns ∧ Go s c H (upd H2 s (.dK (srcD c l' m' t'))) := fun l' m' t' a1 a2 a3 a4 H2 g2 e2 => by
      have S3 : SrcL (upd H2 s (.dK (srcD c l' m' t'))) s c l' m' t' ns := ⟨upd_same, by rw [upd_ne S.ne.symm, e2 _ S.ne.symm]; exact S.hc, a1, a2, a3, a4, S.n0, S.len⟩
      refine ⟨S3, fun a o h1 h2 e => ?_, _, _, _, _, S3⟩
      rw [upd_ne h1]
      exact g2.keep a o h1 h2 e
    have sz : (srcD c l m t).length < sizeLine := by show 4 < sizeLine; decide
    -- if many < 2 or left > 1
    refine ⟨_, rfl, _, _, rfl, rfl, _, rfl, iteD (fun c1 => ?ga) (fun c1 => ⟨_, rfl, _, _, rfl, rfl, _, rfl, iteD (fun c2 => ?gb) (fun c2 => ?gc)⟩)⟩
    case gc =>
      -- the mixed number
      have S2 := put l m (t + 1) S.l0 S.m0 S.m1 (by have := S.t0; omega) H1 g (fun _ _ => rfl)
      refine ⟨_, rfl, s, _, rfl, gs "turn" _ (get_turn _ _ _ _), _, _, rfl, rfl, _, rfl, s, _, rfl, DPut.k (k := Sum.inr "turn") S.hs sz, ?_⟩
      rw [put_turn]
      have gs2 : ∀ (x : Str) (v : V), valV (srcD c l m (t + 1)) (Sum.inr x) = some v → DGet (upd H1 s (.dK (srcD c l m (t + 1)))) s (.str x) (some v) := fun x v e => by
        rw [← e]
        exact DGet.k (k := Sum.inr x) upd_same
      refine ⟨_, rfl, s, _, rfl, gs2 "mixed" _ (get_mixed _ _ _ _), _, rfl, s, _, rfl, gs2 "turn" _ (get_turn _ _ _ _), _, _, rfl, rfl, .inr ⟨by decide, by decide⟩, _, _, rfl, rfl, .inl ⟨_, rfl, _, _, rfl, rfl, (by show (0 : Int) < 998244353; decide), ?_⟩⟩
      generalize hm : (m + (t + 1) * 104729) % 998244353 = m1
      have hm0 : 0 ≤ m1 ∧ m1 < 998244353 := by rw [← hm]; omega
      refine ⟨_, rfl, _, rfl, _, _, rfl, rfl, .inl ⟨by omega, by omega⟩, _, rfl, s, _, rfl, gs2 "turn" _ (get_turn _ _ _ _), _, _, rfl, rfl, .inr ⟨by decide, by decide⟩, _, _, rfl, rfl, .inl ⟨_, rfl, _, _, rfl, rfl, (by show (0 : Int) < 2147483647; decide), ?_⟩⟩
      generalize hn : (m1 * m1 + (t + 1) * 17) % 2147483647 = m2
      have hn0 : 0 ≤ m2 ∧ m2 < 2147483647 := by rw [← hn]; omega
      refine ⟨_, rfl, _, rfl, s, _, rfl, DPut.k (k := Sum.inr "mixed") S2.1.hs (by show 4 < sizeLine; decide), ?_⟩
      rw [put_mixed]
      have S3 := put l m2 (t + 1) S.l0 hn0.1 (by omega) (by have := S.t0; omega) _ S2.2 (fun b hb => upd_ne hb)
      refine ⟨_, rfl, _, _, rfl, rfl, ⟨by decide, by decide⟩, .inl ⟨_, rfl, _, rfl, _, _, rfl, rfl, (by omega : (0 : Int) < n), ?_⟩⟩
      subst hn
      subst hm
      exact k _ _ (Int.emod_nonneg _ (by omega)) (Int.emod_lt_of_pos _ (by omega)) S3.2
    all_goals
      have S2 := put (l / n) m t (Int.ediv_nonneg S.l0 (by omega)) S.m0 S.m1 S.t0 H1 g (fun _ _ => rfl)
      refine ⟨_, rfl, _, rfl, _, _, rfl, _, _, rfl, rfl, (by rw [max1 h1]; exact ⟨by omega, by omega⟩), _, rfl, s, _, rfl, DPut.k (k := Sum.inr "left") S.hs sz, ?_⟩
      rw [put_left, max1 h1]
      refine ⟨_, rfl, .inl ⟨_, rfl, _, rfl, _, _, rfl, _, _, rfl, rfl, (by rw [max1 h1]; omega : (0 : Int) < if n > 1 then n else 1), ?_⟩⟩
      rw [max1 h1]
      exact k _ _ (Int.emod_nonneg _ (by omega)) (Int.emod_lt_of_pos _ (by omega)) S2.2
theorem ok_of (T : Tx K mg) : FnOk P w K mg base CX0 2 T.a_law_of T.fd_law_of ["_law_source_here", "_law_some"] (spOf K) := by
  refine T.F_law_of.ok sc_law_of (fun vs H Q E h => ?_) (fun cdv A outer st H vs Q E hr h => ?_)
  · obtain ⟨s, c, a, xs, rfl, _⟩ := h
    rfl
  obtain ⟨s, c, a, xs, rfl, hS, ha, nac, h1, h2, k⟩ := h
  have G_law_pick : FnOk P w K mg base CX0 1 T.a_law_pick T.fd_law_pick ["_law_source_here", "_law_many"] spPick := ok_pick T
  have hr_law_pick : Room 1 _ := hr
  refine ⟨_, ((pss_one (ps_ret (pe_ix ix_list (pv 1) (pe_call G_law_pick hr_law_pick rfl T.m_law_pick T.F_law_pick.kp T.b_law_pick .nil pass0 (pa_cons (pv 0) (pa_cons (pe_callB call_len_seq (by rfl) T.n_len (by decide +kernel) (pa_cons (pv 1) pa_nil)) pa_nil))) (fun _ _ => rfl))))), ?_⟩
  refine ⟨_, rfl, _, rfl, _, rfl, a, _, rfl, .inl (SqL.of ha), s, c, _, rfl, hS, by omega, by omega, fun i H' i0 i1 g => ?_⟩
  obtain ⟨j, rfl⟩ : ∃ j : Nat, i = (j : Int) := ⟨i.toNat, by omega⟩
  have hj : j < xs.length := by omega
  exact ⟨a, xs, _, xs[j], rfl, rfl, SqL.of (g.lst hS ha nac), atI_nat (List.getElem?_eq_getElem hj), k j _ H' (List.getElem?_eq_getElem hj) g⟩
theorem ok_source (T : Tx K mg) : FnOk P w K mg base CX0 1 T.a_law_source T.fd_law_source ["_law_script"] (spSource K) := by
  refine T.F_law_source.ok sc_law_source (fun vs H Q E h => ?_) (fun cdv A outer st H vs Q E hr h => ?_)
  · obtain ⟨a, ns, rfl, _⟩ := h
    rfl
  obtain ⟨a, ns, rfl, hS, hl, k⟩ := h
  refine ⟨_, ((pss_cons (ps_set (i := 1) sc_law_source.nd rfl (Or.inl rfl) pe_int)
      (pss_cons (ps_for PassesOwn.never rfl (pi_list (pv 0)) (pg_name (i := 2) sc_law_source.nd rfl (Or.inl rfl))
        (pss_one (ps_set (i := 1) sc_law_source.nd rfl (Or.inl rfl) (pe_op op_mod (pe_callTy call_int1 (by rfl) T.n_int (by decide +kernel) (pa_cons (pe_op op_add (pe_op op_add (pe_op op_mul (pv 1) pe_int) (pe_op op_mul (pv 2) pe_int)) pe_int) pa_nil)) pe_int))))
      (pss_one (ps_ret (pe_disp (pps_cons pe_str (pe_revL (pe_lc (own := [("_law_cell", 2)]) (by rfl) sc_law_source.nd (pi_list (pv 0)) (blkOk_by (own := [("_law_cell", 2)]) (N := ["_law_script", "_law_mixed", "_law_cell"]) (sc := defScope s_law_source) (by decide +kernel)) (fun _ _ _ _ _ => pg_name (i := 2) sc_law_source.nd rfl (Or.inl rfl)) (fun _ _ _ _ _ => pts_nil) (fun _ _ _ _ _ => (pe_callB call_abs (by rfl) T.n_abs (by decide +kernel) (pa_cons (pv 2) pa_nil))))) (pps_cons pe_str pe_int (pps_cons pe_str (pv 1) (pps_cons pe_str pe_int pps_nil)))) (by rfl) (by rfl) (fun z => by cases z) (by decide))))))), ?_⟩
  refine ⟨_, rfl, a, rfl, ⟨_, hS⟩, for_list (K := K) (a := a) (xs := ns.map V.int) (fun i σ H' => ∃ (m : Int) (v : Option V), σ = [some (.ref a), some (.int m), v] ∧ H' = H ∧ 0 ≤ m ∧ m < 2147483629) ⟨11, none, rfl, rfl, by decide, by decide⟩ (fun i σ H' _ ⟨_, _, _, e, _⟩ => e ▸ hS) ?_ ?_⟩
  · rintro i y σ H' hi ⟨m, v, rfl, rfl, m0, m1⟩
    obtain ⟨u, rfl⟩ : ∃ u, y = V.int u := by
      rw [List.getElem?_map] at hi
      cases e : ns[i]? with
      | none => rw [e] at hi; cases hi
      | some u => rw [e] at hi; exact ⟨u, (Option.some.inj hi).symm⟩
    refine ⟨_, rfl, _, _, rfl, rfl, .inr ⟨by decide, by decide⟩, _, rfl, _, _, rfl, rfl, .inr ⟨by decide, by decide⟩, _, _, rfl, rfl, _, _, rfl, rfl, .inl ⟨_, rfl, _, _, rfl, rfl, (by show (0 : Int) < 2147483629; decide), ?_⟩⟩
    exact ⟨_, _, rfl, rfl, Int.emod_nonneg _ (by decide), Int.emod_lt_of_pos _ (by decide)⟩
  · rintro σ H' ⟨m, v, rfl, rfl, m0, m1⟩
    intro p hp
    have s0 := same_new hp (.dK [])
    refine ⟨_, rfl, a, rfl, ⟨_, s0.seq hS⟩, fun D hD => ?_⟩
    have npD : p ≠ D := ne_of_none upd_same hD
    refine lc_list (K := K) (a := a) (xs := ns.map V.int) (fun i H2 => Same (upd H' p (.dK [])) H2 ∧ H2 D = some (.lst (((ns.take i).map fun n => if n < 0 then -n else n).map V.int))) ⟨same_new hD _, upd_same⟩ (fun i H2 _ z => z.1.seq (s0.seq hS)) ?_ ?_
    · rintro i y H2 hi ⟨s1, e1⟩
      have hil : i < ns.length := by
        have q := (List.getElem?_eq_some_iff.mp hi).1
        rw [List.length_map] at q
        exact q
      have ey : y = V.int ns[i] := by
        rw [List.getElem?_map, List.getElem?_eq_getElem hil] at hi
        exact (Option.some.inj hi).symm
      subst ey
      refine ⟨rfl, ?_⟩
      refine ⟨_, rfl, _, rfl, _, e1, ?_, ?_, ?_⟩
      · rw [List.length_map, List.length_map, List.length_take]
        exact small1000 (by omega)
      · intro b o e
        rw [upd_ne (ne_of_none e hD)]
        exact s1 b o e
      · rw [upd_same, List.take_succ_eq_append_getElem hil, List.map_append, List.map_append]
        rfl
    · rintro H2 ⟨s1, e1⟩
      refine ⟨D, _, rfl, SqL.of e1, fun c hc => ?_⟩
      have ncp : p ≠ c := ne_of_none (s1 _ _ upd_same) hc
      refine ⟨_, rfl, ?_⟩
      have ep : upd H2 c (.lst ((((ns.take (ns.map V.int).length).map fun n => if n < 0 then -n else n).map V.int).reverse)) p = some (.dK []) := by
        rw [upd_ne ncp]
        exact s1 _ _ upd_same
      refine ⟨ep, srcD c 1 m 0, rfl, (by show 4 ≤ 15; decide), ?_⟩
      rw [srcD_made]
      refine k p c _ ?_ hp ?_ ?_
      · intro b o e
        have nbp : b ≠ p := ne_of_none e hp
        have e2 := s1 b o (by rw [upd_ne nbp]; exact e)
        rw [upd_ne nbp, upd_ne (ne_of_none e2 hc)]
        exact e2
      · exact s0.free (s1.free hc)
      · refine ⟨1, m, 0, ((ns.take (ns.map V.int).length).map fun n => if n < 0 then -n else n).reverse, upd_same, ?_, by decide, m0, by omega, by decide, ?_, ?_⟩
        · rw [upd_ne ncp.symm, upd_same, List.map_reverse]
        · intro n hn
          rw [List.mem_reverse, List.mem_map] at hn
          obtain ⟨q, _, rfl⟩ := hn
          split <;> omega
        · rw [List.length_reverse, List.length_map, List.length_take]
          omega
end
end My

namespace My
open PySem PySem.Spec PyProof.Rows L2
/-! ### enumerate of a list or a tuple -/
set_option maxHeartbeats 1000000 in
theorem enum_new1 {v : Value} {o : Obj} {Hh : Heap → Prop} (B : Begins v o Hh) :
    Meets (Builtin.«enumerate.__new__» ⟨[.type "enumerate", v], []⟩) fun _ R s => Hh s.heap ∧ R (.ok (.ret (.ref (s.heap.push o).objs.size)))
      { s with heap := (s.heap.push o).push { cls := .type "enumerate", data := .fields #[.none, .bool false, .ref s.heap.objs.size, rawInt 0, .none, .none] } } := by
  refine .of_wp fun prog w A R s z => ?_
  obtain ⟨hp, g, d, tk, os⟩ := s
  obtain ⟨z1, z2⟩ := z
  have sb := sub_enumerate
  have it1 : ∀ {A' : Around} {E : Value → Shared → Prop} {Q : Value → Shared → Prop}, Q (.ref hp.objs.size) ⟨hp.push o, g, d, tk, os⟩ → wpAny (model prog w) A' (pyIter v) Q E ⟨hp, g, d, tk, os⟩ := fun q => B.iter prog w _ _ ⟨hp, g, d, tk, os⟩ _ z1 q
  wp_walk using it1
  refine wpAny_stack_any fun _ => (wpAny_pure ?_)
  split
  · rename_i cc _ _ _ _ _
    cases (cc == Value.type "enumerate") <;> (wp_walk using it1; exact ⟨_, rfl, z2⟩)
  · wp_walk using it1; exact ⟨_, rfl, z2⟩
theorem enum_begins1 {prog : Program} {w : World} {A : Around} {E : Value → Shared → Prop} {s : Shared} {v : Value} {o : Obj} {Hh : Heap → Prop} {Q : Value → Shared → Prop} (B : Begins v o Hh) (z : Hh s.heap)
    (q : ∀ g, IsEnum g (s.heap.objs.size + 1) s.heap.objs.size 0 .none → g.get? s.heap.objs.size = some o → (∀ b u, s.heap.get? b = some u → g.get? b = some u) → Q (.ref (s.heap.objs.size + 1)) { s with heap := g }) :
    wpAny (model prog w) A (call (.type "enumerate") [v]) Q E s := by
  refine callType_new F.called_enumerate (by decide) (F.typeCall_enumerate_1 _) (F.newCall_enumerate_1 _) (fun ob => F.args_object_init_2 ob _) F.entry_enumerate_new (enum_new1 B) ⟨z, ?_⟩
  have sz : (s.heap.push o).objs.size = s.heap.objs.size + 1 := Heap.size_push ..
  have en : IsEnum ((s.heap.push o).push { cls := .type "enumerate", data := .fields #[.none, .bool false, .ref s.heap.objs.size, rawInt 0, .none, .none] }) (s.heap.objs.size + 1) s.heap.objs.size 0 .none := by
    have e := Heap.get?_push_size (s.heap.push o) (o := { cls := .type "enumerate", data := .fields #[.none, .bool false, .ref s.heap.objs.size, rawInt 0, .none, .none] }) rfl
    rw [sz] at e
    exact e
  show _ ∧ _
  rw [sz]
  exact ⟨⟨_, en, rfl⟩, q _ en (Heap.get?_push_of_some _ (Heap.get?_push_size _ B.free)) fun b u e => Heap.get?_push_of_some _ (Heap.get?_push_of_some _ e)⟩
/-- the sequence at a as it stands at each turn, each item in a new pair -/
def IteM (k : Bool) (K : PySem.W.Frag) (a : Addr) : It :=
  ⟨fun n M => ∃ (p : List V) (u : V), SqK k K M a p ∧ p[n]? = some u, fun n M y M' => ∃ (C : Addr) (u : V), y = .ref C ∧ M C = none ∧ M' = upd M C (.tup [.int (n : Nat), u]) ∧ ∀ p, SqK k K M a p → p[n]? = some u,
    fun n M => ∃ p : List V, SqK k K M a p ∧ n = p.length⟩
def ESt (k : Bool) (e i a : Addr) (n : Nat) (h : Heap) : Prop := (∃ old, IsEnum h e i ((n : Nat) : Int) old) ∧ ItK k h i a n ∧ e ≠ i ∧ e ≠ a ∧ a ≠ i
theorem in2 {e i c : Addr} (h : c ∈ [e, i]) : c = e ∨ c = i := by simpa using h
theorem turn_enumM {P : Program} {w : World} {K : PySem.W.Frag} {elts : List Expr} {kk : Nat} {tpos : Pos} {k : Bool} {a e i : Addr} :
    Turn P w K (.Tuple elts kk tpos) (IteM k K a) [e, i] e (ESt k e i a) where
  mem := by simp
  obj := by
    intro n h S c hc
    obtain ⟨⟨old, S1⟩, S2, _⟩ := S
    rcases in2 hc with rfl | rfl
    · exact ⟨_, S1, fun v q => nomatch q⟩
    · exact S2.ob
  keep := by
    intro n h h' S q
    obtain ⟨⟨old, S1⟩, S2, S3⟩ := S
    exact ⟨⟨old, q _ (by simp) _ S1⟩, S2.to (q _ (by simp)), S3⟩
  item := by
    intro X hP hw hK hc n pins s σ M E I fr S go
    subst hP hw hK
    obtain ⟨⟨old, S1⟩, S2, n1, n2, n3⟩ := S
    obtain ⟨p, u, Lp, eu⟩ := go
    obtain ⟨is, rp, hp, _⟩ := readK I Lp
    have lp : n < is.toArray.size := by
      have := (List.getElem?_eq_some_iff.mp eu).1
      have := rp.length
      rw [List.size_toArray]; omega
    have el : e < s.heap.objs.size := Heap.lt_size S1
    have hd1 : X.A.in1.handled = none := I.ok.hd hc
    refine wpAny_pyNext_enum_itemD (drawK hd1 k i a n3 is.toArray) S1 ⟨S2, hp⟩ lp n1 (by simp; exact ⟨n1, n2⟩) ?_
    intro x g tk Pu ho s4 hT sz kp
    obtain ⟨w1, hw1, r1⟩ := rp.get eu
    obtain rfl : x = w1 := by
      have h1 : is[n]? = some x := by simpa using Pu
      rw [hw1] at h1; exact (Option.some.inj h1).symm
    refine ⟨_, rfl, wpAny_letOwnedTupleGo_enum (s := { s with heap := g, toks := tk + 1 }) ho fun g' z3 sb => ?_⟩
    have nz : s.heap.objs.size ≠ e := Nat.ne_of_gt el
    have hT' : g'.get? s.heap.objs.size = some { cls := .type "tuple", data := .seq #[.int n tk, x] } := (sb.2 _ nz).trans hT
    have ok : ObjOk X.prog X.w (upd M s.heap.objs.size (.tup [.int (n : Nat), u])) g' s.heap.objs.size (.tup [.int (n : Nat), u]) :=
      ⟨(by show 2 ≤ sizeLine; decide), [.int n tk, x], .cons ⟨_, rfl⟩ (.cons r1 .nil), _, hT', rfl, _, rfl⟩
    have J : Inv X pins σ (upd M s.heap.objs.size (.tup [.int (n : Nat), u])) { s with heap := g', toks := tk + 1 } := by
      refine I.turnedNew (t' := tk + 1) (ch := [e, i]) (fun c o hb q => ?_) fr (Nat.le_refl _) ok
      have nb : c ≠ e ∧ c ≠ i := by simpa using hb
      exact (sb.2 c nb.1).trans (kp c o nb.1 nb.2 q)
    refine ⟨.ref s.heap.objs.size, _, J, rfl, ⟨_, u, rfl, I.hok.fresh (Nat.le_refl _), rfl, fun p' hp' => ?_⟩, ⟨⟨x, ?_⟩, s4.1.to fun o q => (sb.2 _ n1.symm).trans q, n1, n2, n3⟩, fun c hcm => ?_⟩
    · rw [injK I hp' Lp]; exact eu
    · have e1 : ((n + 1 : Nat) : Int) = (n : Int) + 1 := by omega
      rw [e1]; exact z3
    · have lt : c < s.heap.objs.size := by
        rcases in2 hcm with rfl | rfl
        · exact el
        · obtain ⟨o, q, _⟩ := S2.ob; exact Heap.lt_size q
      rw [upd_ne (Nat.ne_of_lt lt)]
      exact (fr c hcm).1
  done := by
    intro X hP hw hK hc n pins s σ M E I fr S stop
    subst hP hw hK
    obtain ⟨⟨old, S1⟩, S2, n1, n2, n3⟩ := S
    obtain ⟨p, Lp, le⟩ := stop
    obtain ⟨is, rp, hp, _⟩ := readK I Lp
    have ep := rp.length
    have hd1 : X.A.in1.handled = none := I.ok.hd hc
    have sz : is.toArray.size = n := by rw [List.size_toArray]; omega
    refine wpAny_pyNext_enum_endD (drawK hd1 k i a n3 is.toArray) S1 (by rw [sz]; exact ⟨S2, hp⟩) fun g eb => ?_
    refine ⟨rfl, I.turnedL (t' := s.toks) (ch := [e, i]) (fun c o hb q => eb c o (fun z => hb (by simp [z])) q) fr⟩
  self := fun A n s Q E S h => by
    obtain ⟨⟨old, S1⟩, _⟩ := S
    exact wpAny_pyIter_enum S1 h
def iEnumM (K : PySem.W.Frag) (ta : TA) : TI := fun σ M R => ta σ M fun vs M1 => ∃ (k : Bool) (a : Addr) (p : List V), vs = [.ref a] ∧ SqK k K M1 a p ∧ R (IteM k K a) M1
theorem pi_enumM {X : Cx} {e : Expr} {ta : TA} {p pos tpos : Pos} {elts : List Expr} {kk : Nat} (hg : Gl X "enumerate") (hm : X.mg "enumerate" = none) (ha : PA X [e] ta) (hs : starEach [e] X.env = [(false, eval e X.env)] := by rfl) :
    PI X (.Tuple elts kk tpos) (.Call (.Name "enumerate" p) [e] [] pos) (iEnumM X.K ta) := by
  refine ⟨fun pins s σ M R I h => Call_ (ld_blt I hg hm boot_enumerate (PyProof.Rows.callWith_type1 (thn (ha.run pos pins s σ M _ I h) fun us s1 hh => ?_) hs rfl))⟩
  obtain ⟨vs, M1, I1, r1, k, a, xs, ev, Lx, q⟩ := hh
  subst ev
  obtain ⟨u1, rfl, e1⟩ := vals1 r1
  cases (show u1 = Value.ref a from e1)
  obtain ⟨is, rp, hp, la⟩ := readK I1 Lx
  obtain ⟨o1, B1, t1⟩ := beginK k a is.toArray
  refine enum_begins1 B1 hp fun g z1 g1 kp => wpAny_pyIter_enum z1 ?_
  have J : Inv X pins σ M1 { s1 with heap := g } := I1.kept (t' := s1.toks) kp
  refine ⟨s1.heap.objs.size + 1, [s1.heap.objs.size + 1, s1.heap.objs.size], _, _, M1, rfl, J, turn_enumM (e := s1.heap.objs.size + 1) (i := s1.heap.objs.size), ⟨⟨.none, z1⟩, t1 _ _ g1, Nat.succ_ne_self _, Nat.ne_of_gt (Nat.lt_succ_of_lt la), Nat.ne_of_lt la⟩, fun c hcm => ?_, q⟩
  have le : s1.heap.objs.size ≤ c := by
    rcases in2 hcm with rfl | rfl <;> first | exact Nat.le_add_right _ _ | exact Nat.le_refl _
  exact I1.fpOk le (I1.hok.fresh le)
theorem walk_enumM {k : Bool} {K : PySem.W.Frag} {a : Addr} {xs : List V} : Walk (IteM k K a) xs.length (fun H => SqK k K H a xs) (YPair (fun i => some (.int (i : Nat))) (fun i => xs[i]?)) := by
  refine ⟨fun i _ hi q => ⟨xs, xs[i], q, by simp [hi]⟩, fun _ q => ⟨xs, q, rfl⟩, fun i H v H' _ q y => ?_⟩
  obtain ⟨T, x, h1, h2, h3, h4⟩ := y
  exact ⟨T, .int (i : Nat), x, h1, h2, h3, rfl, h4 xs q⟩
end My

namespace My
open PySem PySem.Spec PyProof.Rows L2
/-! ### list(zip(xs, ys)) of two lists -/
theorem zip_no_len : typeLookup (.type "zip") "__len__" = pure none := by rw [typeLookup_type, builtinLookup_eq_fast]; kernel_rfl
theorem zip_no_hint : typeLookup (.type "zip") "__length_hint__" = pure none := by rw [typeLookup_type, builtinLookup_eq_fast]; kernel_rfl
/-- the zip object at z as it stands at the turn n, a list being built at S -/
structure ZS (z TI TO i j a b S : Addr) (xs ys : Array Value) (n : Nat) (h : Heap) : Prop where
  ti : IsPair h TI (.ref i) (.ref j)
  i1 : h.IsListIter i a n
  i2 : h.IsListIter j b n
  l1 : h.IsList a xs
  l2 : h.IsList b ys
  st : (IsZip h z TI TO .none ∧ ∃ u v, IsPair h TO u v) ∨ ∃ (C : Addr) (f : Bool) (oC : Obj), IsZipHeld h z TI TO C f ∧ h.get? C = some oC ∧ C ≠ z ∧ C ≠ i ∧ C ≠ j ∧ C ≠ S
structure OffS (z TI TO i j a b S : Addr) : Prop where
  z : z ≠ S
  TI : TI ≠ S
  TO : TO ≠ S
  i : i ≠ S
  j : j ≠ S
  a : a ≠ S
  b : b ≠ S
theorem ZS.keep {z TI TO i j a b S : Addr} {xs ys : Array Value} {n : Nat} {h h' : Heap} (x : ZS z TI TO i j a b S xs ys n h) (o : OffS z TI TO i j a b S) (k : ∀ c u, c ≠ S → h.get? c = some u → h'.get? c = some u) : ZS z TI TO i j a b S xs ys n h' where
  ti := k _ _ o.TI x.ti
  i1 := x.i1.at fun u e => k _ u o.i e
  i2 := x.i2.at fun u e => k _ u o.j e
  l1 := x.l1.at fun u e => k _ u o.a e
  l2 := x.l2.at fun u e => k _ u o.b e
  st := by
    rcases x.st with ⟨q, u, v, q2⟩ | ⟨C, f, oC, q, q2, q3⟩
    · exact .inl ⟨k _ _ o.z q, u, v, k _ _ o.TO q2⟩
    · exact .inr ⟨C, f, oC, k _ _ o.z q, k _ _ q3.2.2.2 q2, q3⟩
section
variable {prog : Program} {w : World} {A : Around} {E : Value → Shared → Prop} {s : Shared} {z TI TO i j a b S : Addr} {xs ys : Array Value} {n : Nat}
theorem zs_item {Q : Option Value → Shared → Prop} (D : ZipApart z TI TO i j a b) (x : ZS z TI TO i j a b S xs ys n s.heap) (hS : S < s.heap.objs.size) {u v : Value} (eu : xs[n]? = some u) (ev : ys[n]? = some v)
    (q : ∀ g, ZS z TI TO i j a b S xs ys (n + 1) g → IsPair g s.heap.objs.size u v → g.objs.size = s.heap.objs.size + 1 → (∀ c o, c ≠ z → c ≠ TO → c ≠ i → c ≠ j → s.heap.get? c = some o → g.get? c = some o) → Q (some (.ref s.heap.objs.size)) { s with heap := g }) :
    wpAny (model prog w) A (pyNext (.ref z)) Q E s := by
  have lt : ∀ {c o}, s.heap.get? c = some o → s.heap.objs.size ≠ c := fun e => Nat.ne_of_gt (Heap.lt_size e)
  have n1 : s.heap.objs.size ≠ i := let ⟨_, e, _⟩ := x.i1; lt e
  have n2 : s.heap.objs.size ≠ j := let ⟨_, e, _⟩ := x.i2; lt e
  rcases x.st with ⟨e1, u0, v0, e2⟩ | ⟨C, f, oC, e1, e2, r1, r2, r3, r4⟩
  · refine wpAny_pyNext_zip_item D e1 x.ti e2 x.i1 x.i2 x.l1 x.l2 eu ev fun g a1 _ a3 a4 a5 a6 kp => ?_
    exact q g ⟨kp _ _ D.TIz D.TITO D.TIi1 D.TIi2 x.ti, a3, a4, x.l1.at fun o e => kp _ o D.l1z D.l1TO D.l1i1 D.l1i2 e, x.l2.at fun o e => kp _ o D.l2z D.l2TO D.l2i1 D.l2i2 e, .inr ⟨_, false, _, a1, a5, lt e1, n1, n2, Nat.ne_of_gt hS⟩⟩ a5 a6 kp
  · refine wpAny_pyNext_zip_item_held D e1 e2 x.ti x.i1 x.i2 x.l1 x.l2 eu ev fun g a1 a3 a4 a5 a6 kp => ?_
    exact q g ⟨kp _ _ D.TIz D.TIi1 D.TIi2 x.ti, a3, a4, x.l1.at fun o e => kp _ o D.l1z D.l1i1 D.l1i2 e, x.l2.at fun o e => kp _ o D.l2z D.l2i1 D.l2i2 e, .inr ⟨C, true, oC, a1, kp _ _ r1 r2 r3 e2, r1, r2, r3, r4⟩⟩ a5 a6 fun c o c1 _ c3 c4 e => kp c o c1 c3 c4 e
theorem zs_done {Q : Option Value → Shared → Prop} (hh : A.handled = none) (D : ZipApart z TI TO i j a b) (x : ZS z TI TO i j a b S xs ys n s.heap) (en : xs[n]? = none)
    (q : ∀ g, (∀ c o, c ≠ z → c ≠ TO → c ≠ i → c ≠ j → s.heap.get? c = some o → g.get? c = some o) → Q none { s with heap := g }) : wpAny (model prog w) A (pyNext (.ref z)) Q E s := by
  rcases x.st with ⟨e1, u0, v0, e2⟩ | ⟨C, f, oC, e1, e2, _⟩
  · exact wpAny_pyNext_zip_end hh D e1 x.ti e2 x.i1 x.i2 x.l1 x.l2 (.inl en) fun g kp => q g kp
  · exact wpAny_pyNext_zip_end_held hh D e1 e2 x.ti x.i1 x.i2 x.l1 x.l2 (.inl en) fun g kp => q g fun c o c1 _ c3 c4 e => kp c o c1 c3 c4 e
/-- the new pairs, in order, above lo -/
structure ZG (xs ys : Array Value) (lo : Addr) (h : Heap) (as : List Addr) : Prop where
  rise : as.Pairwise (· < ·)
  above : ∀ c ∈ as, lo ≤ c
  pairs : ∀ (n : Nat) (c : Addr), as[n]? = some c → ∃ u v, xs[n]? = some u ∧ ys[n]? = some v ∧ IsPair h c u v
theorem ZG.there {lo : Addr} {h : Heap} {as : List Addr} (g : ZG xs ys lo h as) {c : Addr} (hc : c ∈ as) : c < h.objs.size := by
  obtain ⟨n, hn⟩ := List.mem_iff_getElem?.mp hc
  obtain ⟨_, _, _, _, e⟩ := g.pairs n c hn
  exact Heap.lt_size e
abbrev lstO (acc : Array Value) (c : Nat) : Obj := { cls := .type "list", dict := none, data := .seq acc c, slots := #[] }
theorem zl_loop {R : Result → Shared → Prop} {lo : Addr} {h₁ : Heap} {res : Value} (hh : A.handled = none) (D : ZipApart z TI TO i j a b) (O : OffS z TI TO i j a b S) (low : S < lo ∧ z < lo ∧ TO < lo ∧ i < lo ∧ j < lo) (hn : xs.size ≤ sizeLine) (ez : ys.size = xs.size)
    (hR : ∀ g tk acc c as, (∀ b o, b ≠ S → b ≠ z → b ≠ TO → b ≠ i → b ≠ j → h₁.get? b = some o → g.get? b = some o) → g.get? S = some (lstO acc c) → as.length = xs.size → ZG xs ys lo g as → acc.toList = as.map Value.ref → R (.ok (.ret res)) { s with heap := g, toks := tk }) :
    ∀ (k n : Nat) (h : Heap) (tk c : Nat) (acc : Array Value) (as : List Addr), xs.size - n = k → n ≤ xs.size → ZS z TI TO i j a b S xs ys n h → (∀ b o, b ≠ S → b ≠ z → b ≠ TO → b ≠ i → b ≠ j → h₁.get? b = some o → h.get? b = some o) →
      h.get? S = some (lstO acc c) → acc.toList = as.map Value.ref → as.length = n → ZG xs ys lo h as → lo ≤ h.objs.size →
      codeAny (model prog w) A (.builtin "list.extend.loop" ⟨[.ref S, .ref z, res], []⟩) R { s with heap := h, toks := tk } := by
  obtain ⟨l1, l2, l3, l4, l5⟩ := low
  have far : ∀ {as : List Addr} {h : Heap}, ZG xs ys lo h as → ∀ c ∈ as, c ≠ S ∧ c ≠ z ∧ c ≠ TO ∧ c ≠ i ∧ c ≠ j := fun g c hc => by
    have := g.above c hc
    exact ⟨Nat.ne_of_gt (Nat.lt_of_lt_of_le l1 this), Nat.ne_of_gt (Nat.lt_of_lt_of_le l2 this), Nat.ne_of_gt (Nat.lt_of_lt_of_le l3 this), Nat.ne_of_gt (Nat.lt_of_lt_of_le l4 this), Nat.ne_of_gt (Nat.lt_of_lt_of_le l5 this)⟩
  intro k
  induction k with
  | zero =>
    intro n h tk c acc as hk hi st kp hS ha hl G hlo
    have en : n = xs.size := by omega
    refine codeAny_builtin PySem.F.entry_extend_loop ?_
    rw [Around.under_plainId PySem.F.plain_extend_loop _]
    show wpAny _ A.in1 (pyNext (.ref z) >>= _) _ _ _
    refine wpAny_bind (zs_done (s := { s with heap := h, toks := tk }) (A := A.in1) hh D st (Array.getElem?_eq_none (by omega)) fun g he => wpAny_pure ?_)
    refine hR g tk acc c as (fun b o b1 b2 b3 b4 b5 e => he b o b2 b3 b4 b5 (kp b o b1 b2 b3 b4 b5 e)) (he S _ O.z.symm O.TO.symm O.i.symm O.j.symm hS) (by omega) ⟨G.rise, G.above, fun m b hb => ?_⟩ ha
    obtain ⟨u, v, eu, ev, eb⟩ := G.pairs m b hb
    have ⟨_, f2, f3, f4, f5⟩ := far G b (List.mem_of_getElem? hb)
    exact ⟨u, v, eu, ev, he b _ f2 f3 f4 f5 eb⟩
  | succ k ih =>
    intro n h tk c acc as hk hi st kp hS ha hl G hlo
    have hlt : n < xs.size := by omega
    have hsz : acc.size = n := by rw [← Array.length_toList, ha, List.length_map, hl]
    have eu : xs[n]? = some xs[n] := Array.getElem?_eq_getElem hlt
    have ev : ys[n]? = some (ys[n]'(by omega)) := Array.getElem?_eq_getElem (by omega)
    refine codeAny_builtin PySem.F.entry_extend_loop ?_
    rw [Around.under_plainId PySem.F.plain_extend_loop _]
    show wpAny _ A.in1 (pyNext (.ref z) >>= _) _ _ _
    refine wpAny_bind (zs_item (s := { s with heap := h, toks := tk }) D st (Heap.lt_size hS) eu ev fun g st' eT sz he => ?_)
    dsimp only at eT sz he ⊢
    have hS' := he S _ O.z.symm O.TO.symm O.i.symm O.j.symm hS
    have up : ∀ b o, b ≠ S → g.get? b = some o → (g.update S (Obj.mapSeq (·.push (Value.ref h.objs.size)))).get? b = some o := fun b o nb e => (Heap.get?_update_other _ _ (Ne.symm nb)).trans e
    have lS : S < h.objs.size := Heap.lt_size hS
    have sz2 : (g.update S (Obj.mapSeq (·.push (Value.ref h.objs.size)))).objs.size = h.objs.size + 1 := by rw [Heap.size_update]; exact sz
    show wpAny _ A.in1 (updateSeq S (·.push (Value.ref h.objs.size)) >>= _) _ _ _
    refine wpAny_bind (wpAny_updateSeq hS' rfl (wpAny_pure ⟨plainId_quiet PySem.F.plain_extend_loop _, ih (n + 1) _ tk _ (acc.push (Value.ref h.objs.size)) (as ++ [h.objs.size]) (by omega) hlt (st'.keep O up) (fun b o b1 b2 b3 b4 b5 e => up b o b1 (he b o b2 b3 b4 b5 (kp b o b1 b2 b3 b4 b5 e)))
      (Heap.get?_update_self _ hS' rfl) (by rw [Array.toList_push, ha, List.map_append]; rfl) (by rw [List.length_append, hl]; rfl) ⟨?_, ?_, ?_⟩ (by rw [sz2]; exact Nat.le_succ_of_le hlo)⟩) (by rw [hsz]; omega) (by show (acc.push (Value.ref h.objs.size)).size ≤ sizeLine + 1; rw [Array.size_push, hsz]; omega))
    · refine List.pairwise_append.mpr ⟨G.rise, List.pairwise_singleton _ _, fun x hx y hy => ?_⟩
      rw [List.mem_singleton.mp hy]
      exact G.there hx
    · intro x hx
      rcases List.mem_append.mp hx with hx | hx
      · exact G.above x hx
      · rw [List.mem_singleton.mp hx]; exact hlo
    · intro m x hx
      rcases Nat.lt_trichotomy m as.length with h1 | h1 | h1
      · rw [List.getElem?_append_left h1] at hx
        obtain ⟨u, v, eu', ev', ex⟩ := G.pairs m x hx
        have ⟨f1, f2, f3, f4, f5⟩ := far G x (List.mem_of_getElem? hx)
        exact ⟨u, v, eu', ev', up x _ f1 (he x _ f2 f3 f4 f5 ex)⟩
      · subst h1
        have e : h.objs.size = x := by simpa using hx
        subst e
        rw [hl]
        exact ⟨_, _, eu, ev, up _ _ (Nat.ne_of_gt lS) eT⟩
      · rw [List.getElem?_eq_none (by rw [List.length_append, List.length_singleton]; omega)] at hx
        cases hx
theorem zl_extend {R : Result → Shared → Prop} {res : Value} {c₀ : Nat} (hh : A.handled = none) (D : ZipApart z TI TO i j a b) (O : OffS z TI TO i j a b S) (hn : xs.size ≤ sizeLine) (ez : ys.size = xs.size) (st : ZS z TI TO i j a b S xs ys 0 s.heap) (e0 : IsZip s.heap z TI TO .none) (lTO : TO < s.heap.objs.size)
    (hS : s.heap.get? S = some (lstO #[] c₀))
    (hR : ∀ g tk acc c as, (∀ b o, b ≠ S → b ≠ z → b ≠ TO → b ≠ i → b ≠ j → s.heap.get? b = some o → g.get? b = some o) → g.get? S = some (lstO acc c) → as.length = xs.size → ZG xs ys s.heap.objs.size g as → acc.toList = as.map Value.ref → R (.ok (.ret res)) { s with heap := g, toks := tk }) :
    wpAny (model prog w) A.in1 (Builtin.List.listExtendWith (.ref S) (.ref z) res)
      (fun fin s' => match fin with | .done f => R (.ok f) s' | .again c' => c'.quiet = true ∧ codeAny (model prog w) A c' R s') (fun e s' => R (.error e) s') s := by
  have ty : s.TypeIs (.ref z) "zip" := ⟨_, e0, rfl⟩
  have l1 : i < s.heap.objs.size := by obtain ⟨_, e, _⟩ := st.i1; exact Heap.lt_size e
  have l2 : j < s.heap.objs.size := by obtain ⟨_, e, _⟩ := st.i2; exact Heap.lt_size e
  unfold Builtin.List.listExtendWith
  refine wpAny_bind (wpAny_typeOf ty ?_)
  have h1 : Builtin.List.listSameRef (.ref S) (.ref z) = false := by simp [Builtin.List.listSameRef, O.z.symm]
  have h2 : (Value.type "zip" == Value.type "list") = false := by decide
  have h3 : (Value.type "zip" == Value.type "tuple") = false := by decide
  simp only [h1, h2, h3, Bool.or_false, Bool.false_eq_true, if_false]
  refine wpAny_bind (wpAny_pyIter_zip e0 ?_)
  refine wpAny_bind (wpAny_holding ?_)
  unfold Builtin.List.listLengthHint
  refine wpAny_bind (wpAny_specialOf ty zip_no_len ?_)
  show wpAny _ A.in1 (specialOf (Value.ref z) (Str.ofString "__length_hint__") >>= _) _ _ _
  refine wpAny_bind (wpAny_specialOf ty zip_no_hint (wpAny_pure ?_))
  show wpAny _ A.in1 (rule "list.extend.makes-room" >>= fun _ => Builtin.List.listTouch (.ref S) >>= fun _ => again (.builtin "list.extend.loop" ⟨[.ref S, .ref z, res], []⟩)) _ _ _
  refine wpAny_bind (wpAny_rule (wpAny_bind ?_))
  show wpAny _ A.in1 (updateSeq S (·.push .none) >>= fun _ => updateSeq S (·.pop)) _ _ _
  refine wpAny_bind (wpAny_updateSeq hS rfl ?_)
  have hS2 := Heap.get?_update_self (Obj.mapSeq (·.push Value.none)) hS rfl
  refine wpAny_updateSeq (hz := by seq_fits) hS2 rfl ?_
  have hS3 := Heap.get?_update_self (Obj.mapSeq (·.pop)) hS2 rfl
  have oth : ∀ b o, b ≠ S → s.heap.get? b = some o → ((s.heap.update S (Obj.mapSeq (·.push Value.none))).update S (Obj.mapSeq (·.pop))).get? b = some o := fun b o nb e => (Heap.get?_update_other _ _ (Ne.symm nb)).trans ((Heap.get?_update_other _ _ (Ne.symm nb)).trans e)
  refine wpAny_pure ⟨plainId_quiet PySem.F.plain_extend_loop _, zl_loop (s := s) (h₁ := s.heap) hh D O ⟨Heap.lt_size hS, Heap.lt_size e0, lTO, l1, l2⟩ hn ez hR xs.size 0 _ s.toks _ #[] [] (Nat.sub_zero _) (Nat.zero_le _) (st.keep O oth) (fun b o b1 _ _ _ _ e => oth b o b1 e) hS3 rfl rfl
    ⟨List.Pairwise.nil, (fun _ q => nomatch q), (fun n c q => by simp at q)⟩ (by rw [Heap.size_update, Heap.size_update]; exact Nat.le_refl _)⟩
/-- list(z), z a zip object just made of two lists of one length -/
theorem zl_call {Q : Value → Shared → Prop} (hh : A.handled = none) (D : ZipApart z TI TO i j a b) (hn : xs.size ≤ sizeLine) (ez : ys.size = xs.size) (e0 : IsZip s.heap z TI TO .none) (eI : IsPair s.heap TI (.ref i) (.ref j)) (eO : IsPair s.heap TO .none .none) (q1 : s.heap.IsListIter i a 0) (q2 : s.heap.IsListIter j b 0) (q3 : s.heap.IsList a xs) (q4 : s.heap.IsList b ys)
    (hQ : ∀ g tk acc c as, (∀ b o, b ≠ z → b ≠ TO → b ≠ i → b ≠ j → s.heap.get? b = some o → g.get? b = some o) → g.get? s.heap.objs.size = some (lstO acc c) → as.length = xs.size → ZG xs ys (s.heap.objs.size + 1) g as → acc.toList = as.map Value.ref → Q (.ref s.heap.objs.size) { s with heap := g, toks := tk }) :
    wpAny (model prog w) A (call (.type "list") [.ref z]) Q E s := by
  refine callType_codes (Q₁ := fun obj s₁ => obj = .ref s.heap.objs.size ∧ s₁ = { s with heap := s.heap.push (lstO #[] 0) }) PySem.F.called_list (PySem.F.typeCall_list_1 _) PySem.F.entry_list_init (code_list_new _ ⟨rfl, rfl⟩) fun obj s₁ hs => ?_
  obtain ⟨rfl, rfl⟩ := hs
  have hS : (s.heap.push (lstO #[] 0)).get? s.heap.objs.size = some (lstO #[] 0) := Heap.get?_push_size _ rfl
  have pu : ∀ {c : Addr} {o : Obj}, s.heap.get? c = some o → (s.heap.push (lstO #[] 0)).get? c = some o := fun e => Heap.get?_push_of_some _ e
  have ne : ∀ {c : Addr} {o : Obj}, s.heap.get? c = some o → c ≠ s.heap.objs.size := fun e => Nat.ne_of_lt (Heap.lt_size e)
  have O : OffS z TI TO i j a b s.heap.objs.size := ⟨ne e0, ne eI, ne eO, let ⟨_, e, _⟩ := q1; ne e, let ⟨_, e, _⟩ := q2; ne e, let ⟨_, e, _⟩ := q3; ne e, let ⟨_, e, _⟩ := q4; ne e⟩
  have Z : ZS z TI TO i j a b s.heap.objs.size xs ys 0 (s.heap.push (lstO #[] 0)) := ⟨pu eI, q1.at fun _ e => pu e, q2.at fun _ e => pu e, q3.at fun _ e => pu e, q4.at fun _ e => pu e, .inl ⟨pu e0, _, _, pu eO⟩⟩
  refine ⟨⟨_, hS, rfl⟩, PySem.F.args_list_init_2 _ _, ?_⟩
  show wpAny _ _ (do let old ← Builtin.List.listItems (.ref s.heap.objs.size); Builtin.List.listUpdate (.ref s.heap.objs.size) (fun _ => #[]); letGo old.toList.reverse; Builtin.List.listExtendWith (.ref s.heap.objs.size) (.ref z) .none) _ _ _
  refine wpAny_bind ?_
  unfold Builtin.List.listItems
  refine wpAny_bind (wpAny_seqItems hS rfl (wpAny_pure ?_))
  show wpAny _ _ (updateSeq s.heap.objs.size (fun _ => #[]) >>= fun _ => letGo (#[] : Array Value).toList.reverse >>= fun _ => Builtin.List.listExtendWith (.ref s.heap.objs.size) (.ref z) .none) _ _ _
  refine wpAny_bind (wpAny_updateSeq hS rfl ?_)
  have hS2 := Heap.get?_update_self (Obj.mapSeq (fun _ => (#[] : Array Value))) hS rfl
  have oth : ∀ c o, c ≠ s.heap.objs.size → (s.heap.push (lstO #[] 0)).get? c = some o → ((s.heap.push (lstO #[] 0)).update s.heap.objs.size (Obj.mapSeq (fun _ => (#[] : Array Value)))).get? c = some o := fun c o nc e => (Heap.get?_update_other _ _ (Ne.symm nc)).trans e
  have sz : ((s.heap.push (lstO #[] 0)).update s.heap.objs.size (Obj.mapSeq (fun _ => (#[] : Array Value)))).objs.size = s.heap.objs.size + 1 := by rw [Heap.size_update, Heap.size_push]
  refine wpAny_bind (wpAny_letGo ?_)
  refine zl_extend (A := A.in1) hh D O hn ez (Z.keep O oth) (oth _ _ O.z (pu e0)) (by show TO < ((s.heap.push (lstO #[] 0)).update s.heap.objs.size (Obj.mapSeq (fun _ => (#[] : Array Value)))).objs.size; rw [sz]; exact Nat.lt_succ_of_lt (Heap.lt_size eO)) hS2 fun g tk acc c as kp e1 el G ea => ?_
  refine ⟨rfl, hQ g tk acc c as (fun c o c2 c3 c4 c5 e => kp c o (ne e) c2 c3 c4 c5 (oth _ _ (ne e) (pu e))) e1 el ?_ ea⟩
  have e : ((s.heap.push (lstO #[] 0)).update s.heap.objs.size (Obj.mapSeq (fun _ => (#[] : Array Value)))).objs.size = s.heap.objs.size + 1 := sz
  rw [← e]; exact G
end
end My

namespace My
open PySem PySem.Spec PyProof.Rows L2
/-- pairs of values tracked at their addresses -/
def putP : Hp → List Addr → List V → List V → Hp
  | H, c :: as, u :: us, v :: vs => putP (upd H c (.tup [u, v])) as us vs
  | H, _, _, _ => H
theorem putP_off {b : Addr} : ∀ (as : List Addr) (us vs : List V) (H : Hp), b ∉ as → putP H as us vs b = H b
  | [], _, _, _, _ => rfl
  | _ :: _, [], _, _, _ => rfl
  | _ :: _, _ :: _, [], _, _ => rfl
  | c :: as, u :: us, v :: vs, H, h => by
    show putP (upd H c (.tup [u, v])) as us vs b = H b
    rw [putP_off as us vs _ (fun z => h (List.mem_cons_of_mem _ z)), upd_ne (fun z => h (by rw [z]; exact List.mem_cons_self))]
theorem putP_at : ∀ (as : List Addr) (us vs : List V) (H : Hp), as.length = us.length → vs.length = us.length → as.Nodup → ∀ (n : Nat) (c : Addr), as[n]? = some c → ∃ u v, us[n]? = some u ∧ vs[n]? = some v ∧ putP H as us vs c = some (.tup [u, v])
  | [], _, _, _, _, _, _, n, c, h => by simp at h
  | _ :: _, [], _, _, h, _, _, _, _, _ => by cases h
  | _ :: _, _ :: _, [], _, _, h, _, _, _, _ => by cases h
  | a :: as, u :: us, v :: vs, H, e1, e2, nd, n, c, h => by
    have nd' := List.nodup_cons.mp nd
    cases n with
    | zero =>
      have e : a = c := Option.some.inj h
      subst e
      refine ⟨u, v, rfl, rfl, ?_⟩
      show putP (upd H a (.tup [u, v])) as us vs a = _
      rw [putP_off as us vs _ nd'.1, upd_same]
    | succ n => exact putP_at as us vs (upd H a (.tup [u, v])) (Nat.succ.inj e1) (Nat.succ.inj e2) nd'.2 n c h
theorem vals_refs : ∀ as : List Addr, Vals (as.map V.ref) (as.map Value.ref)
  | [] => .nil
  | _ :: as => .cons rfl (vals_refs as)
/-- list(zip(xs, ys)), two lists of one length: a new list of new pairs -/
def tZipL (K : PySem.W.Frag) (ta : TA) : TE := fun σ H Q => ta σ H fun vs H1 => ∃ (a b : Addr) (us ws : List V), vs = [.ref a, .ref b] ∧ SqL K H1 a us ∧ SqL K H1 b ws ∧ ws.length = us.length ∧
  ∀ (H' : Hp) (p : Addr) (as : List Addr), Same H1 H' → H1 p = none → H' p = some (.lst (as.map V.ref)) → as.length = us.length → (∀ (n : Nat) (c : Addr), as[n]? = some c → H1 c = none ∧ ∃ u v, us[n]? = some u ∧ ws[n]? = some v ∧ H' c = some (.tup [u, v])) → Q (.ref p) H'
section
variable {X : Cx}
theorem pe_zipL {e e2 : Expr} {ta : TA} {p zp pos zpos : Pos} (hc : X.calm = true) (hg : Gl X "list") (hm : X.mg "list" = none) (gz : Gl X "zip") (mz : X.mg "zip" = none) (ha : PA X [e, e2] ta)
    (hs : starEach [e, e2] X.env = (false, eval e X.env) :: starEach [e2] X.env := by rfl) (hpl : (backTo zpos (starEach [e2] X.env)).any (·.1) = false := by rfl)
    (hs1 : starEach [.Call (.Name "zip" zp) [e, e2] [] zpos] X.env = (false, eval (.Call (.Name "zip" zp) [e, e2] [] zpos) X.env) :: starEach [] X.env := by rfl) :
    PE X (.Call (.Name "list" p) [.Call (.Name "zip" zp) [e, e2] [] zpos] [] pos) (tZipL X.K ta) := by
  refine ⟨fun pins s σ H Q I h => ?_⟩
  refine wpAny_Call_Name_kw (ld_blt I hg hm PyProof.Rows.boot_list ?_)
  refine PyProof.Rows.callWith_type1 ?_ hs1 rfl
  rw [hs1]
  show wpAny _ _ (spliced ((false, eval (.Call (.Name "zip" zp) [e, e2] [] zpos) X.env) :: backTo pos (starEach [] X.env))) _ _ s
  refine Calls.spliced_cons (wpAny_Call_Name_kw (ld_blt I gz mz PyProof.Rows.boot_zip (PyProof.Rows.callWith_type1 (thn (ha.run zpos pins s σ H _ I h) fun xs s1 hh => ?_) hs hpl)))
  obtain ⟨vs, H1, I1, r1, a, b, us, ws, ev, Lu, Lw, el, q⟩ := hh
  subst ev
  obtain ⟨x1, x2, rfl, e1, e2⟩ := vals2 r1
  cases (show x1 = Value.ref a from e1)
  cases (show x2 = Value.ref b from e2)
  obtain ⟨is, rp, pa, za⟩ := I1.list Lu
  obtain ⟨js, rq, pb, zb⟩ := I1.list Lw
  have ep := rp.length
  have eq := rq.length
  refine call_zip_2 pa.isList pb.isList fun g1 z0 zI zO zi zj zs kp1 => Calls.spliced_nil ?_
  have big : ∀ {c : Addr} {o : Obj}, s1.heap.get? c = some o → c < s1.heap.objs.size := fun e => Heap.lt_size e
  refine zl_call (s := { s1 with heap := g1 }) (I1.ok.hd hc) (PySem.W.ktu_apart s1.heap.objs.size a b pa.lt pb.lt) (by rw [List.size_toArray]; omega) (by rw [List.size_toArray, List.size_toArray]; omega) z0 zI zO zi zj (pa.isList.at fun _ e => kp1 _ _ e) (pb.isList.at fun _ e => kp1 _ _ e) fun g tk acc c as kp2 eS l G ea => ?_
  dsimp only at kp2 eS G
  rw [zs] at eS G ⊢
  rw [List.size_toArray] at l
  have hk : ∀ c o, s1.heap.get? c = some o → g.get? c = some o := fun c o e => by
    have lt := big e
    exact kp2 c o (Nat.ne_of_lt (Nat.lt_of_lt_of_le lt (Nat.le_add_right _ _))) (Nat.ne_of_lt (Nat.lt_of_lt_of_le lt (Nat.le_add_right _ _))) (Nat.ne_of_lt lt) (Nat.ne_of_lt (Nat.lt_succ_of_lt lt)) (kp1 c o e)
  have new : ∀ t ∈ as, H1 t = none := fun t ht => I1.hok.fresh (Nat.le_trans (Nat.le_add_right _ 6) (G.above t ht))
  have newS : H1 (s1.heap.objs.size + 5) = none := I1.hok.fresh (Nat.le_add_right _ _)
  have nS : s1.heap.objs.size + 5 ∉ as := fun z => Nat.lt_irrefl _ (G.above _ z)
  have nd : as.Nodup := List.Pairwise.imp (fun {x y} (h : x < y) => Nat.ne_of_lt h) G.rise
  have atP := putP_at as us ws (upd H1 (s1.heap.objs.size + 5) (.lst (as.map V.ref))) (by omega) el nd
  have off : ∀ t, t ∉ as → t ≠ s1.heap.objs.size + 5 → putP (upd H1 (s1.heap.objs.size + 5) (.lst (as.map V.ref))) as us ws t = H1 t := fun t h1 h2 => by rw [putP_off as us ws _ h1, upd_ne h2]
  have kp : ∀ t u, H1 t = some u → putP (upd H1 (s1.heap.objs.size + 5) (.lst (as.map V.ref))) as us ws t = some u := fun t u e => by
    rw [off t (fun z => by rw [new t z] at e; cases e) (fun z => by rw [z, newS] at e; cases e)]
    exact e
  have eS' : putP (upd H1 (s1.heap.objs.size + 5) (.lst (as.map V.ref))) as us ws (s1.heap.objs.size + 5) = some (.lst (as.map V.ref)) := by rw [putP_off as us ws _ nS, upd_same]
  have J : Inv X pins σ (putP (upd H1 (s1.heap.objs.size + 5) (.lst (as.map V.ref))) as us ws) { s1 with heap := g, toks := tk } := by
    refine I1.call' (ch := []) rfl ⟨fun t o e _ _ _ => hk t o e, fun t o e _ _ _ => ⟨o.slots, hk t o e⟩, fun t o e n _ => ?_, fun t o e _ => ⟨o, hk t o e⟩, fun t ys e => kp t _ e, fun t o u e => kp t _ e, fun t ps e => ⟨#[], by rw [kp t _ e]; simp⟩⟩ (fun t u e => ?_) I1.bare fun t z => by simp at z
    · rw [off t (fun z => absurd (big e) (Nat.not_lt.mpr (Nat.le_trans (Nat.le_add_right _ 6) (G.above t z)))) (fun z => absurd (big e) (by rw [z]; exact Nat.not_lt.mpr (Nat.le_add_right _ _)))]
      exact n
    · by_cases ht : t ∈ as
      · obtain ⟨n, hn⟩ := List.mem_iff_getElem?.mp ht
        obtain ⟨u1, v1, f1, f2, f3⟩ := atP n t hn
        rw [f3] at e
        cases e
        obtain ⟨y1, y2, g1', g2', g3'⟩ := G.pairs n t hn
        obtain ⟨w1, hw1, rw1⟩ := rp.get f1
        obtain ⟨w2, hw2, rw2⟩ := rq.get f2
        have z1 : is[n]? = some y1 := by simpa using g1'
        have z2 : js[n]? = some y2 := by simpa using g2'
        rw [hw1] at z1
        rw [hw2] at z2
        cases z1
        cases z2
        exact ⟨(by show 2 ≤ sizeLine; decide), [y1, y2], .cons rw1 (.cons rw2 .nil), _, g3', rfl, _, rfl⟩
      · by_cases h2 : t = s1.heap.objs.size + 5
        · rw [h2] at e ⊢
          rw [eS'] at e
          cases e
          refine ⟨by rw [List.length_map]; omega, acc.toList, c, by rw [ea]; exact vals_refs as, ?_⟩
          rw [Array.toArray_toList]
          exact eS
        · rw [off t ht h2] at e
          exact (I1.hok t u e).stay (fun d v _ y => hk d v y) (fun d y => kp d _ y) fun d ys y => kp d _ y
  exact ⟨.ref _, _, J, rfl, q _ _ as kp newS eS' (by omega) fun n t hn => ⟨new t (List.mem_of_getElem? hn), atP n t hn⟩⟩
end
end My

namespace My
open PySem PySem.Spec PyProof.Rows L2
/-! ### a dict comprehension over anything that is walked -/
theorem dc_it {J : It} {n : Nat} {G : Hp → Prop} {Y : Nat → Hp → V → Hp → Prop} (w : Walk J n G Y) {g : TG} {tt : TT} {tk tv : TE} {vs : List Nat} {σ : L2.St} {H1 : Hp} {D : Addr} {Qd : Hp → Prop} (Pv : Nat → Hp → Prop) (h0 : Pv 0 (L2.upd H1 D (.dK []))) (hG : ∀ i H, i ≤ n → Pv i H → G H)
    (hs : ∀ i x H H', i < n → Pv i H → Y i H x H' → g x (wipe σ vs) H' fun σ2 H2 => wipe σ2 vs = wipe σ vs ∧ tt σ2 H2 fun b H3 =>
      if b = true then tk σ2 H3 fun y H4 => tv σ2 H4 fun z H5 => ∃ kvs k, y = kV k ∧ H5 D = some (.dK kvs) ∧ kvs.length < sizeLine ∧ Pv (i + 1) (L2.upd H5 D (.dK (putK kvs k z))) else Pv (i + 1) H3) (hd : ∀ H, Pv n H → Qd H) :
    ∃ W : Nat → Nat → Hp → Prop, (∃ m, W 0 m (L2.upd H1 D (.dK []))) ∧ ∀ i m H, W i m H →
      (J.stop i H ∧ Qd H) ∨ (J.go i H ∧ ∃ Nx : Hp → Prop, (∀ H', Nx H' → ∃ m', m' < m ∧ W (i + 1) m' H') ∧ ∀ x H', J.yld i H x H' → g x (wipe σ vs) H' fun σ2 H2 => wipe σ2 vs = wipe σ vs ∧ tt σ2 H2 fun b H3 =>
        if b = true then tk σ2 H3 fun y H4 => tv σ2 H4 fun z H5 => ∃ kvs k, y = kV k ∧ H5 D = some (.dK kvs) ∧ kvs.length < sizeLine ∧ Nx (L2.upd H5 D (.dK (putK kvs k z))) else Nx H3) := by
  refine ⟨fun i m H => m + i = n ∧ Pv i H, ⟨n, rfl, h0⟩, fun i m H ⟨em, p⟩ => ?_⟩
  have gH := hG i H (by omega) p
  by_cases lt : i < n
  · exact .inr ⟨w.goes i H lt gH, Pv (i + 1), fun H' p' => ⟨m - 1, by omega, by omega, p'⟩, fun x H' y => hs i x H H' lt p (w.yields i H x H' lt gH y)⟩
  · have e : i = n := by omega
    rw [e] at p ⊢
    exact .inl ⟨w.stops H gH, hd H p⟩
/-! ### a tuple times 0 or 1 -/
theorem mul_zero (l : Addr) (items : Array Value) (n : Nat) (dd : Option Addr) (sl : Array (Option Value)) (u : Tok) (ne : items.isEmpty = false) :
    Meets (Builtin.«tuple.__mul__» ⟨[.ref l, .int 0 u], []⟩) fun _ R s => s.heap.get? l = some { cls := .type "tuple", dict := dd, data := .seq items n, slots := sl } ∧ R (.ok (.ret (Value.ref s.heap.objs.size))) { s with heap := s.heap.push { cls := Value.type "tuple", data := Data.seq #[] } } := by
  refine .of_wp fun prog w A R s z => ?_
  obtain ⟨hp, g, d, tk, os⟩ := s
  obtain ⟨z1, z2⟩ := z
  have f1 := AutoSeq1.idx_int
  have c1 : (items.isEmpty || (0 : Int) == 1) = false := by rw [ne]; rfl
  have c2 : (decide ((0 : Int) ≤ 0) || items.isEmpty) = true := by rw [ne]; rfl
  wp_walk using AutoSeq1.wpAny_loadPart' z1
  exact ⟨_, rfl, z2⟩
theorem mul_one' (l : Addr) (items : Array Value) (n : Nat) (dd : Option Addr) (sl : Array (Option Value)) (u : Tok) :
    Meets (Builtin.«tuple.__mul__» ⟨[.ref l, .int 1 u], []⟩) fun _ R s => s.heap.get? l = some { cls := .type "tuple", dict := dd, data := .seq items n, slots := sl } ∧ R (.ok (.ret (Value.ref l))) s := by
  refine .of_wp fun prog w A R s z => ?_
  obtain ⟨hp, g, d, tk, os⟩ := s
  obtain ⟨z1, z2⟩ := z
  have f1 := AutoSeq1.idx_int
  have c1 : (items.isEmpty || (1 : Int) == 1) = true := by cases items.isEmpty <;> rfl
  wp_walk using AutoSeq1.wpAny_loadPart' z1
  exact ⟨_, rfl, z2⟩
/-- a tuple that is not empty, times 0 or 1 -/
def rRepT01 (K : PySem.W.Frag) : R2 := fun x y H Q => ∃ (l : Addr) (xs : List V), x = .ref l ∧ SqT K H l xs ∧ xs ≠ [] ∧ ((y = .int 0 ∧ ∀ p, H p = none → Q (.ref p) (L2.upd H p (.tup []))) ∨ (y = .int 1 ∧ Q (.ref l) H))
theorem op_repT01 {X : Cx} : OpR X (binaryOp .Mult) (rRepT01 X.K) := by
  intro pins s σ H x y v u Q I rx ry h
  obtain ⟨l, xs, rfl, hT, hne, h⟩ := h
  cases rx
  obtain ⟨its, r, ⟨⟨cls, dd, data, sl⟩, ho, hc, n, hd⟩, hs⟩ := I.tuple hT
  simp only at hc hd
  subst hc hd
  have hi : its.toArray.isEmpty = false := by
    cases its with
    | nil =>
      have l0 : xs.length = 0 := r.length
      exact absurd (List.eq_nil_of_length_eq_zero l0) hne
    | cons a b => rfl
  rcases h with ⟨rfl, q⟩ | ⟨rfl, q⟩
  · obtain ⟨t, rfl⟩ := ry
    refine wpAny_binaryOp_repeat_ref (T := "tuple") (U := "int") (by decide) ⟨_, ho, rfl⟩ (fun s' => typeIs_int s' 0 t) noFill_tuple_mul F.fills_int_mul F.slot_int_rmul repeat_tuple F.slot_int_index.lookup
      (call_meets F.slot_int_rmul (typeIs_int s 0 t) F.entry_int_rmul (F.args_int_rmul_2 _ _) (int_rmul_tuple 0 t l its.toArray n dd sl)
        ⟨ho, rfl, ⟨_, ho, rfl⟩, call_meets F.slot_tuple_mul ⟨_, ho, rfl⟩ F.entry_tuple_mul (F.args_tuple_mul_2 _ _) (mul_zero l its.toArray n dd sl t hi) ⟨ho, ?_⟩⟩)
    exact ⟨.ref s.heap.objs.size, _, I.laid (t' := s.toks) (o := .tup []) (fun b ob q => Heap.get?_push_of_some _ q) (Nat.le_refl _) ⟨Nat.zero_le _, [], .nil, IsTup.new _ _⟩, rfl, q _ (I.hok.fresh (Nat.le_refl _))⟩
  · obtain ⟨t, rfl⟩ := ry
    refine wpAny_binaryOp_repeat_ref (T := "tuple") (U := "int") (by decide) ⟨_, ho, rfl⟩ (fun s' => typeIs_int s' 1 t) noFill_tuple_mul F.fills_int_mul F.slot_int_rmul repeat_tuple F.slot_int_index.lookup
      (call_meets F.slot_int_rmul (typeIs_int s 1 t) F.entry_int_rmul (F.args_int_rmul_2 _ _) (int_rmul_tuple 1 t l its.toArray n dd sl)
        ⟨ho, rfl, ⟨_, ho, rfl⟩, call_meets F.slot_tuple_mul ⟨_, ho, rfl⟩ F.entry_tuple_mul (F.args_tuple_mul_2 _ _) (mul_one' l its.toArray n dd sl t) ⟨ho, ?_⟩⟩)
    exact ⟨.ref l, H, I, rfl, q⟩
end My

namespace My
open PySem PySem.Spec PyProof.Rows L2
/-- texts among the values are short -/
theorem sz6 {n : Nat} (h : n ≤ 100000) : n ≤ sizeLine := by rw [sizeLine_eq]; omega
def spWord : Sp := fun vs H Q _ => ∃ (v : V) (d : PyData), vs = [v] ∧ Dq H v d ∧ (∀ x, d = .str x → x.length ≤ 100000) ∧ ∀ H', Same H H' → Q (.bl (wordD d)) H'
/-- a list that is filled by a comprehension -/
def Lc (H : Hp) (D : Addr) (ys : List V) (i : Nat) (M : Hp) : Prop := Same H M ∧ M D = some (.lst (ys.take i))
theorem Lc.zero {H : Hp} {D : Addr} {ys : List V} (h : H D = none) : Lc H D ys 0 (L2.upd H D (.lst [])) := ⟨same_new h _, upd_same⟩
theorem Lc.lay {H M : Hp} {D : Addr} {ys : List V} {i : Nat} {y : V} (hD : H D = none) (h : Lc H D ys i M) (hy : ys[i]? = some y) (sm : ys.length ≤ 1000) :
    ∃ acc, M D = some (.lst acc) ∧ acc.length < sizeLine ∧ Lc H D ys (i + 1) (L2.upd M D (.lst (acc ++ [y]))) := by
  obtain ⟨hi, e⟩ := List.getElem?_eq_some_iff.mp hy
  refine ⟨_, h.2, small1000 (by rw [List.length_take]; omega), fun a o q => ?_, ?_⟩
  · rw [upd_ne (ne_of_none q hD)]; exact h.1 a o q
  · rw [upd_same, List.take_succ_eq_append_getElem hi, e]
theorem Lc.same {H M M' : Hp} {D : Addr} {ys : List V} {i : Nat} (h : Lc H D ys i M) (e : Same M M') : Lc H D ys i M' := ⟨h.1.trans e, e _ _ h.2⟩
theorem Lc.all {H M : Hp} {D : Addr} {ys : List V} {n : Nat} (h : Lc H D ys n M) (e : n = ys.length) : Same H M ∧ M D = some (.lst ys) := by
  refine ⟨h.1, ?_⟩
  have q := h.2
  rw [e, List.take_length] at q
  exact q
theorem getM {α : Type} {f : α → V} {xs : List α} {i : Nat} {y : V} (h : (xs.map f)[i]? = some y) : ∃ x, xs[i]? = some x ∧ y = f x := by
  rw [List.getElem?_map] at h
  cases e : xs[i]? with
  | none => rw [e] at h; cases h
  | some u => rw [e] at h; exact ⟨u, rfl, (Option.some.inj h).symm⟩
theorem mapM {α β : Type} {f : α → β} {xs : List α} {i : Nat} {x : α} (h : xs[i]? = some x) : (xs.map f)[i]? = some (f x) := by
  rw [List.getElem?_map, h]; rfl
/-! ### rows -/
abbrev rowV (r : List Int) : List V := r.map V.int
def enoughB (r : List Int) : Bool := r.all fun x => decide (0 ≤ x)
def mixedB (r : List Int) : Bool := r.any (fun x => decide (x < 0)) && r.any (fun x => decide (0 < x))
def combR (a : Int) (r : List Int) (b : Int) (o : List Int) : List Int := List.zipWith (fun x y => a * x + b * y) r o
def spInt1 : Sp := fun vs H Q _ => ∃ i : Int, vs = [.int i] ∧ Q (.bl true) H
def spRowB (f : List Int → Bool) : Sp := fun vs H Q _ => ∃ (a : Addr) (r : List Int), vs = [.ref a] ∧ H a = some (.tup (rowV r)) ∧ r.length ≤ 1000 ∧ ∀ H', Same H H' → Q (.bl (f r)) H'
def spComb : Sp := fun vs H Q _ => ∃ (a b : Addr) (m n : Int) (r o : List Int), vs = [.int m, .ref a, .int n, .ref b] ∧ H a = some (.tup (rowV r)) ∧ H b = some (.tup (rowV o)) ∧ r.length = o.length ∧ r.length ≤ 1000 ∧
  (m = 1) ∧ (n = 1 ∨ n = -1) ∧ ∀ (p : Addr) (H' : Hp), Same H H' → H p = none → H' p = some (.tup (rowV (combR m r n o))) → Q (.ref p) H'
def spWrongRow : Sp := fun vs H Q _ => ∃ (a : Addr) (r : List Int), vs = [.ref a, .int (r.length : Nat)] ∧ H a = some (.tup (rowV r)) ∧ r.length ≤ 1000 ∧ mixedB r = true ∧ ∀ H', Same H H' → Q .non H'
section
variable {P : Program} {w : World} {K : PySem.W.Frag} {mg : Str → Option Value} {base : Heap}
theorem ok_is_word (T : Tx K mg) : FnOk P w K mg base CX0 1 T.a_is_word T.fd_is_word ["value"] spWord := by
  refine T.F_is_word.ok sc_is_word (fun vs H Q E h => ?_) (fun cdv A outer st H vs Q E hr h => ?_)
  · obtain ⟨v, d, rfl, _⟩ := h
    rfl
  obtain ⟨v, d, rfl, dq, hz, k⟩ := h
  refine ⟨_, ((pss_cons (ps_if (PW.pt (pw_or (pt_not (pt_val (pe_callB (show CallR _ (.builtin "isinstance") (rIsi K) from call_isi) (by rfl) T.n_isinstance (by decide +kernel) (pa_cons (pv 0) (pa_cons (pe_bltn (v := .ty "str") (by rfl) T.n_str (by decide +kernel) rfl) pa_nil))))) (pw_or1 (pt_not (pt_chain op_le op_le pe_int (pe_callB call_len_str (by rfl) T.n_len (by decide +kernel) (pa_cons (pv 0) pa_nil)) (pe_gint rfl T.c_LONGEST_WORD))))))
        (pss_one (ps_ret pe_bl))
        pss_nil)
      (pss_one (ps_ret (pe_and (pe_cmpR op_in_sign (pe_ix ix_str (pv 0) pe_int (fun _ _ => rfl)) (pe_gstr rfl T.c_LETTERS) (by rfl)) (pe_one (pe_callB (cr_all rfl) (by rfl) T.n_all (by decide +kernel) (pa_cons (pe_lc (own := [("sign", 1)]) (by rfl) sc_is_word.nd (pi_str (pv 0)) (blkOk_by (own := [("sign", 1)]) (N := ["value", "sign"]) (sc := defScope s_is_word) (by decide +kernel)) (fun _ _ _ _ _ => pg_name (i := 1) sc_is_word.nd rfl (Or.inl rfl)) (fun _ _ _ _ _ => pts_nil) (fun _ _ _ _ _ => (pe_or (pe_cmpR op_in_sign (pv 1) (pe_gstr rfl T.c_LETTERS) (by rfl)) (pe_one (pe_cmpR op_in_sign (pv 1) (pe_gstr rfl T.c_DIGITS) (by rfl)))))) pa_nil)))))))), ?_⟩
  refine ⟨_, rfl, v, .ty "str", .type (tyD d), .type "str", _, rfl, .ty _, dq.ty, is_str d, ?_⟩
  have k0 := k H (Same.refl H)
  cases dq with
  | str x =>
    have lx := hz x rfl
    refine ⟨_, rfl, iteF ?_⟩
    refine ⟨_, rfl, x, rfl, sz6 lx, _, _, rfl, rfl, _, rfl, ?_⟩
    have wd : wordD (.str x) = (decide (x.length ≤ 12) && (match x.cps.toList with
      | [] => false
      | c :: r => inS LTR c && (c :: r).all isAl)) := rfl
    by_cases h1 : 1 ≤ x.length
    · rw [decide_eq_true (by omega : (1 : Int) ≤ (x.length : Int))]
      refine iteT ⟨_, _, rfl, rfl, _, rfl, ?_⟩
      by_cases h2 : x.length ≤ 12
      · rw [decide_eq_true (by omega : (x.length : Int) ≤ 12)]
        refine iteF ?_
        obtain ⟨c, r, ex⟩ : ∃ c r, x.cps.toList = c :: r := by
          cases e : x.cps.toList with
          | nil =>
            have := str_len x
            rw [e] at this
            have : x.length = 0 := this.symm
            omega
          | cons c r => exact ⟨c, r, rfl⟩
        have ec : atI x.cps.toList (0 : Int) = some c := by rw [ex]; exact atI_nat (j := 0) rfl
        have wd2 : wordD (.str x) = (inS LTR c && x.cps.toList.all isAl) := by
          rw [wd, decide_eq_true h2, ex]; rfl
        refine ⟨_, rfl, x, _, c, rfl, rfl, sz6 lx, ec, c, LTR, rfl, rfl, _, rfl, ?_⟩
        have q1 : decide (c ∈ LTR.cps.toList) = inS LTR c := rfl
        rw [q1]
        cases hc : inS LTR c with
        | false =>
          rw [wd2, hc] at k0
          exact iteF k0
        | true =>
          refine iteT ⟨_, rfl, x, rfl, fun D hD => ?_⟩
          refine lc_str (fun i M => Same H M ∧ M D = some (.lst (((x.cps.toList.take i).map isAl).map V.bl))) ⟨same_new hD _, upd_same⟩ ?_ ?_
          · rintro i y M hy ⟨sM, eD⟩
            have hil : i < x.cps.toList.length := (List.getElem?_eq_some_iff.mp hy).1
            have eil : x.cps.toList[i] = y := (List.getElem?_eq_some_iff.mp hy).2
            have lay : ∀ b : Bool, b = isAl y → ∃ acc, M D = some (.lst acc) ∧ acc.length < sizeLine ∧ (Same H (L2.upd M D (.lst (acc ++ [V.bl b]))) ∧ (L2.upd M D (.lst (acc ++ [V.bl b]))) D = some (.lst (((x.cps.toList.take (i + 1)).map isAl).map V.bl))) := fun b eb => by
              refine ⟨_, eD, ?_, fun a o e => ?_, ?_⟩
              · rw [List.length_map, List.length_map, List.length_take]; exact small1000 (by rw [str_len] at hil ⊢; omega)
              · rw [upd_ne (ne_of_none e hD)]
                exact sM a o e
              · rw [upd_same, List.take_succ_eq_append_getElem hil, List.map_append, List.map_append, eil, eb]
                rfl
            refine ⟨rfl, _, rfl, y, LTR, rfl, rfl, _, rfl, ?_⟩
            have q2 : decide (y ∈ LTR.cps.toList) = inS LTR y := rfl
            rw [q2]
            cases hy1 : inS LTR y with
            | true => exact iteT (lay true (by unfold isAl; rw [hy1]; rfl))
            | false => exact iteF ⟨_, rfl, y, DIG, rfl, rfl, lay _ (by unfold isAl; rw [hy1]; rfl)⟩
          · rintro M ⟨sM, eD⟩
            have ef : x.cps.toList.take x.length = x.cps.toList := by rw [← str_len, List.take_length]
            rw [ef] at eD
            refine ⟨D, _, rfl, SqL.of eD, ?_⟩
            have ea : ((x.cps.toList.map isAl).all id) = x.cps.toList.all isAl := by rw [List.all_map]; rfl
            rw [ea]
            have kk := k M sM
            rw [wd2, hc, Bool.true_and] at kk
            exact kk
      · rw [decide_eq_false (by omega : ¬ (x.length : Int) ≤ 12)]
        rw [wd, decide_eq_false h2, Bool.false_and] at k0
        exact iteT k0
    · rw [decide_eq_false (by omega : ¬ (1 : Int) ≤ (x.length : Int))]
      have e0 : x.cps.toList = [] := List.length_eq_zero_iff.mp (by rw [str_len]; omega)
      rw [wd, e0, Bool.and_false] at k0
      exact iteF ⟨_, rfl, k0⟩
  | non => exact ⟨_, rfl, iteT k0⟩
  | bl _ => exact ⟨_, rfl, iteT k0⟩
  | int _ => exact ⟨_, rfl, iteT k0⟩
  | lst _ _ _ => exact ⟨_, rfl, iteT k0⟩
  | tup _ _ => exact ⟨_, rfl, iteT k0⟩
  | dct _ _ => exact ⟨_, rfl, iteT k0⟩
theorem ok_is_integer (T : Tx K mg) : FnOk P w K mg base CX0 1 T.a_is_integer T.fd_is_integer ["value"] spInt1 := by
  refine T.F_is_integer.ok sc_is_integer (fun vs H Q E h => ?_) (fun cdv A outer st H vs Q E hr h => ?_)
  · obtain ⟨i, rfl, _⟩ := h
    rfl
  obtain ⟨i, rfl, k⟩ := h
  refine ⟨_, ((pss_one (ps_ret (pe_and (pe_callB (show CallR _ (.builtin "isinstance") (rIsi K) from call_isi) (by rfl) T.n_isinstance (by decide +kernel) (pa_cons (pv 0) (pa_cons (pe_bltn (v := .ty "int") (by rfl) T.n_int (by decide +kernel) rfl) pa_nil))) (pe_one (pe_not (pe_callB (show CallR _ (.builtin "isinstance") (rIsi K) from call_isi) (by rfl) T.n_isinstance (by decide +kernel) (pa_cons (pv 0) (pa_cons (pe_bltn (v := .ty "bool") (by rfl) T.n_bool (by decide +kernel) rfl) pa_nil))))))))), ?_⟩
  refine ⟨_, rfl, .int i, .ty "int", .type "int", .type "int", _, rfl, .ty _, .base (.int i), kit_ty (r := true) (by decide +kernel), ?_⟩
  refine ⟨_, rfl, iteT ?_⟩
  refine ⟨_, rfl, .int i, .ty "bool", .type "int", .type "bool", _, rfl, .ty _, .base (.int i), kit_ty (r := false) (by decide +kernel), ?_⟩
  exact ⟨_, rfl, k⟩
theorem ok_is_mixed (T : Tx K mg) : FnOk P w K mg base CX0 1 T.a_is_mixed T.fd_is_mixed ["entries"] (spRowB mixedB) := by
  refine T.F_is_mixed.ok sc_is_mixed (fun vs H Q E h => ?_) (fun cdv A outer st H vs Q E hr h => ?_)
  · obtain ⟨a, r, rfl, _⟩ := h
    rfl
  obtain ⟨a, r, rfl, ha, hl, k⟩ := h
  refine ⟨_, ((pss_one (ps_ret (pe_and (pe_callB (cr_any rfl) (by rfl) T.n_any (by decide +kernel) (pa_cons (pe_lc (own := [("entry", 1)]) (by rfl) sc_is_mixed.nd (pi_tup (pv 0)) (blkOk_by (own := [("entry", 1)]) (N := ["entries", "entry"]) (sc := defScope s_is_mixed) (by decide +kernel)) (fun _ _ _ _ _ => pg_name (i := 1) sc_is_mixed.nd rfl (Or.inl rfl)) (fun _ _ _ _ _ => pts_nil) (fun _ _ _ _ _ => (pe_cmpR op_lt (pv 1) pe_int (nomark _)))) pa_nil)) (pe_one (pe_callB (cr_any rfl) (by rfl) T.n_any (by decide +kernel) (pa_cons (pe_lc (own := [("entry", 1)]) (by rfl) sc_is_mixed.nd (pi_tup (pv 0)) (blkOk_by (own := [("entry", 1)]) (N := ["entries", "entry"]) (sc := defScope s_is_mixed) (by decide +kernel)) (fun _ _ _ _ _ => pg_name (i := 1) sc_is_mixed.nd rfl (Or.inl rfl)) (fun _ _ _ _ _ => pts_nil) (fun _ _ _ _ _ => (pe_cmpR op_gt (pv 1) pe_int (nomark _)))) pa_nil))))))), ?_⟩
  refine ⟨_, rfl, a, rfl, ⟨_, SqT.of ha⟩, fun D hD => ?_⟩
  refine lc_tup (xs := rowV r) (Lc H D ((r.map fun x => decide (x < 0)).map V.bl)) (Lc.zero hD) (fun i M _ z => SqT.of (z.1 _ _ ha)) (fun i y M hy z => ?_) (fun M z => ?_)
  · obtain ⟨x, hx, rfl⟩ := getM hy
    refine ⟨rfl, _, rfl, _, _, rfl, rfl, ?_⟩
    exact Lc.lay hD z (mapM (mapM hx)) (by rw [List.length_map, List.length_map]; exact hl)
  · have ⟨sM, eM⟩ := z.all (by rw [List.length_map, List.length_map, List.length_map])
    refine ⟨D, _, rfl, SqL.of eM, ?_⟩
    have e : ((r.map fun x => decide (x < 0)).any id) = r.any (fun x => decide (x < 0)) := by rw [List.any_map]; rfl
    rw [e]
    refine ⟨_, rfl, ?_⟩
    by_cases h1 : r.any (fun x => decide (x < 0)) = true
    · rw [h1]
      refine iteT ?_
      have ha2 := sM _ _ ha
      refine ⟨_, rfl, a, rfl, ⟨_, SqT.of ha2⟩, fun D2 hD2 => ?_⟩
      refine lc_tup (xs := rowV r) (Lc M D2 ((r.map fun x => decide (0 < x)).map V.bl)) (Lc.zero hD2) (fun i M _ z => SqT.of (z.1 _ _ ha2)) (fun i y M2 hy z => ?_) (fun M2 z => ?_)
      · obtain ⟨x, hx, rfl⟩ := getM hy
        refine ⟨rfl, _, rfl, _, _, rfl, rfl, ?_⟩
        exact Lc.lay hD2 z (mapM (mapM hx)) (by rw [List.length_map, List.length_map]; exact hl)
      · have ⟨sM2, eM2⟩ := z.all (by rw [List.length_map, List.length_map, List.length_map])
        refine ⟨D2, _, rfl, SqL.of eM2, ?_⟩
        have e2 : ((r.map fun x => decide (0 < x)).any id) = mixedB r := by rw [List.any_map]; unfold mixedB; rw [h1, Bool.true_and]; rfl
        rw [e2]
        exact k M2 (sM.trans sM2)
    · have h0 : r.any (fun x => decide (x < 0)) = false := Bool.eq_false_iff.mpr h1
      rw [h0]
      refine iteF ?_
      have kk := k M sM
      have e2 : mixedB r = false := by unfold mixedB; rw [h0]; rfl
      rw [e2] at kk
      exact kk
end
end My

namespace My
open PySem PySem.Spec PyProof.Rows L2
theorem walk_zipM {k l : Bool} {K : PySem.W.Frag} {a b : Addr} {p q : List V} (hl : p.length = q.length) : Walk (ItzM k l K a b) p.length (fun H => SqK k K H a p ∧ SqK l K H b q) (YPair (fun i => p[i]?) (fun i => q[i]?)) := by
  refine ⟨fun i H hi ⟨h1, h2⟩ => ?_, fun H ⟨h1, h2⟩ => ⟨p, q, h1, h2, .inl rfl, Nat.le_refl _, by omega⟩, fun i H v H' _ ⟨h1, h2⟩ y => ?_⟩
  · exact ⟨p, q, _, _, h1, h2, List.getElem?_eq_getElem hi, List.getElem?_eq_getElem (by omega)⟩
  · obtain ⟨C, u, v, rfl, nC, rfl, f1, f2⟩ := y
    exact ⟨C, u, v, rfl, nC, rfl, f1 p h1, f2 q h2⟩
theorem iteNe {n m : Nat} {A B : Prop} (e : n = m) (h : B) : if (!decide (V.int (n : Int) = V.int (m : Int))) = true then A else B := by
  subst e
  rw [decide_eq_true rfl]
  exact iteF h
theorem kit_any1 {K : PySem.W.Frag} {t c : Value} {r : List Value} (h : PySem.W.kitOne K t c = some true) : PySem.W.kitAny K t (c :: r) = some true := by
  rw [PySem.W.kitAny, h]
/-- what a word is as a text -/
theorem word_fit {d : PyData} (h : wordD d = true) : ∀ x, d = .str x → x.length ≤ 100000 ∧ x.length ≤ 12 := by
  intro x e
  subst e
  have h : (decide (x.length ≤ 12) && (match x.cps.toList with
    | [] => false
    | c :: r => inS LTR c && (c :: r).all isAl)) = true := h
  rw [Bool.and_eq_true, decide_eq_true_iff] at h
  exact ⟨by omega, h.1⟩
/-! ### dicts of words -/
def kvB (xs : List Str) : List (Key × V) := xs.map fun x => (.inr x, .bl true)
def kvN (xs : List Str) : List (Key × V) := xs.mapIdx fun i x => (.inr x, .int (i : Nat))
theorem valV_no {kvs : List (Key × V)} {k : Key} (h : ∀ kv ∈ kvs, kv.1 ≠ k) : valV kvs k = none := by
  induction kvs with
  | nil => exact valV_nil
  | cons p r ih => rw [valV_neg (h p (List.mem_cons_self ..))]; exact ih fun kv q => h kv (List.mem_cons_of_mem _ q)
theorem no_kvB {xs : List Str} {x : Str} (h : x ∉ xs) : valV (kvB xs) (Sum.inr x) = none := by
  refine valV_no fun kv q e => ?_
  obtain ⟨y, hy, rfl⟩ := List.mem_map.mp q
  exact h (Sum.inr.inj e ▸ hy)
theorem no_kvN {xs : List Str} {x : Str} (h : x ∉ xs) : valV (kvN xs) (Sum.inr x) = none := by
  refine valV_no fun kv q e => ?_
  obtain ⟨i, hi, rfl⟩ := List.mem_mapIdx.mp q
  exact h (Sum.inr.inj e ▸ List.getElem_mem hi)
theorem put_kvB {xs : List Str} {x : Str} (h : x ∉ xs) : putK (kvB xs) (Sum.inr x) (.bl true) = kvB (xs ++ [x]) := by
  rw [putK_new _ (no_kvB h)]
  unfold kvB
  rw [List.map_append]; rfl
theorem put_kvN {xs : List Str} {x : Str} (h : x ∉ xs) : putK (kvN xs) (Sum.inr x) (.int (xs.length : Nat)) = kvN (xs ++ [x]) := by
  rw [putK_new _ (no_kvN h)]
  unfold kvN
  rw [List.mapIdx_concat]
theorem nodup_take {xs : List Str} {i : Nat} {x : Str} (h : xs.Nodup) (e : xs[i]? = some x) : x ∉ xs.take i := by
  obtain ⟨hi, e⟩ := List.getElem?_eq_some_iff.mp e
  intro m
  obtain ⟨j, hj, ej⟩ := List.mem_take_iff_getElem.mp m
  have hj' : j < i := by omega
  exact absurd ((List.getElem_inj h).mp (ej.trans e.symm)) (by omega)
theorem take_snoc {α : Type} {xs : List α} {i : Nat} {x : α} (e : xs[i]? = some x) : xs.take i ++ [x] = xs.take (i + 1) := by
  obtain ⟨hi, e⟩ := List.getElem?_eq_some_iff.mp e
  rw [List.take_succ_eq_append_getElem hi, e]
/-- a dict that is filled -/
theorem same_put {H M : Hp} {D : Addr} {o : HO} (hD : H D = none) (h : Same H M) : Same H (L2.upd M D o) := fun a u q => by
  rw [upd_ne (ne_of_none q hD)]; exact h a u q
/-! ### barters -/
abbrev Br := Str × List Int
def BrAt (H : Hp) (p : Addr) (b : Br) : Prop := ∃ a, H p = some (.tup [.str b.1, .ref a]) ∧ H a = some (.tup (rowV b.2))
def BrsAt (H : Hp) (ps : List Addr) (bs : List Br) : Prop := ps.length = bs.length ∧ ∀ (i : Nat) (p : Addr) (b : Br), ps[i]? = some p → bs[i]? = some b → BrAt H p b
theorem BrAt.same {H H' : Hp} (e : Same H H') {p : Addr} {b : Br} (h : BrAt H p b) : BrAt H' p b := by
  obtain ⟨a, h1, h2⟩ := h
  exact ⟨a, e _ _ h1, e _ _ h2⟩
theorem BrsAt.same {H H' : Hp} (e : Same H H') {ps : List Addr} {bs : List Br} (h : BrsAt H ps bs) : BrsAt H' ps bs := ⟨h.1, fun i p b h1 h2 => (h.2 i p b h1 h2).same e⟩
structure GoodBk (gs : List Str) (bs : List Br) : Prop where
  gw : ∀ x ∈ gs, wordD (.str x) = true
  gn : gs.Nodup
  gl : gs.length ≤ 100
  bw : ∀ b ∈ bs, wordD (.str b.1) = true ∧ b.2.length = gs.length ∧ mixedB b.2 = true
  bn : (bs.map (·.1)).Nodup
  bl : bs.length ≤ 100
def spWrongGoods : Sp := fun vs H Q _ => ∃ (g : Addr) (gs : List Str), vs = [.ref g] ∧ H g = some (.lst (gs.map V.str)) ∧ (∀ x ∈ gs, wordD (.str x) = true) ∧ gs.Nodup ∧ gs.length ≤ 100 ∧ ∀ H', Same H H' → Q .non H'
def spWrongBarter : Sp := fun vs H Q _ => ∃ (p D : Addr) (b : Br) (kvs : List (Key × V)), vs = [.ref p, .ref D, .int (b.2.length : Nat)] ∧ BrAt H p b ∧ H D = some (.dK kvs) ∧ valV kvs (Sum.inr b.1) = none ∧ wordD (.str b.1) = true ∧ b.2.length ≤ 100 ∧ mixedB b.2 = true ∧ ∀ H', Same H H' → Q .non H'
def spWrongBarters : Sp := fun vs H Q _ => ∃ (l : Addr) (ps : List Addr) (gs : List Str) (bs : List Br), vs = [.ref l, .int (gs.length : Nat)] ∧ H l = some (.lst (ps.map V.ref)) ∧ BrsAt H ps bs ∧ GoodBk gs bs ∧ ∀ H', Same H H' → Q .non H'
section
variable {P : Program} {w : World} {K : PySem.W.Frag} {mg : Str → Option Value} {base : Heap}
theorem ok_wrong_row (T : Tx K mg) : FnOk P w K mg base CX0 2 T.a_wrong_row T.fd_wrong_row ["row", "many"] spWrongRow := by
  refine T.F_wrong_row.ok sc_wrong_row (fun vs H Q E h => ?_) (fun cdv A outer st H vs Q E hr h => ?_)
  · obtain ⟨a, r, rfl, _⟩ := h
    rfl
  obtain ⟨a, r, rfl, ha, hl, hm, k⟩ := h
  have G_is_integer : FnOk P w K mg base CX0 1 T.a_is_integer T.fd_is_integer ["value"] spInt1 := ok_is_integer T
  have hr_is_integer : Room 1 _ := hr
  have G_is_mixed : FnOk P w K mg base CX0 1 T.a_is_mixed T.fd_is_mixed ["entries"] (spRowB mixedB) := ok_is_mixed T
  have hr_is_mixed : Room 1 _ := hr
  refine ⟨_, ((pss_cons (ps_if (PW.pt (pw_or (pt_not (pt_val (pe_callB (show CallR _ (.builtin "isinstance") (rIsi K) from call_isi) (by rfl) T.n_isinstance (by decide +kernel) (pa_cons (pv 0) (pa_cons (pe_bltn (v := .ty "tuple") (by rfl) T.n_tuple (by decide +kernel) rfl) pa_nil))))) (pw_or1 (pt_cmpR op_ne (pe_callB call_len_seq (by rfl) T.n_len (by decide +kernel) (pa_cons (pv 0) pa_nil)) (pv 1) (nomark _)))))
        (pss_one (ps_ret (pe_tup pa_nil)))
        pss_nil)
      (pss_cons (ps_for PassesOwn.never rfl (pi_enumM (by rfl) T.n_enumerate (pa_cons (pv 0) pa_nil)) (pg_tup rfl (pgs_cons (pg_name (i := 2) sc_wrong_row.nd rfl (Or.inl rfl)) (pgs_cons (pg_name (i := 3) sc_wrong_row.nd rfl (Or.inl rfl)) pgs_nil)))
        (pss_one (ps_if (pt_not (pt_val (pe_call G_is_integer hr_is_integer rfl T.m_is_integer T.F_is_integer.kp T.b_is_integer .nil pass0 (pa_cons (pv 3) pa_nil))))
        (pss_one (ps_ret (pe_tup (pa_cons (pv 2) pa_nil))))
        pss_nil)))
      (pss_one (ps_ret (pe_ifExp (pt_val (pe_call G_is_mixed hr_is_mixed rfl T.m_is_mixed T.F_is_mixed.kp T.b_is_mixed .nil pass0 (pa_cons (pv 0) pa_nil))) pe_non (pe_tup pa_nil))))))), ?_⟩
  refine ⟨_, rfl, .ref a, .ty "tuple", .type "tuple", .type "tuple", _, rfl, .ty _, .base (.tup ha), kit_ty (r := true) (by decide +kernel), ?_⟩
  refine ⟨_, rfl, iteF ?_⟩
  refine ⟨_, rfl, a, _, rfl, .inr (SqT.of ha), _, rfl, rfl, _, rfl, iteNe (List.length_map _) ?_⟩
  refine ⟨_, rfl, true, a, _, rfl, SqT.of ha, for_it walk_enumM (fun i σ M => ∃ v2 v3, σ = [some (.ref a), some (.int (r.length : Nat)), v2, v3] ∧ Same H M) ⟨none, none, rfl, Same.refl H⟩ (fun i σ M _ ⟨_, _, _, z⟩ => SqT.of (z _ _ ha)) (fun i x σ M M' hi z y => ?_) (fun σ M z => ?_)⟩
  · obtain ⟨v2, v3, rfl, sM⟩ := z
    obtain ⟨C, u, v, rfl, nC, rfl, eu, ev⟩ := y
    obtain ⟨xi, hx, rfl⟩ := getM ev
    refine ⟨C, _, rfl, SqT.of upd_same, rfl, _, _, rfl, _, _, rfl, rfl, ?_⟩
    refine ⟨_, rfl, _, rfl, _, rfl, iteF ?_⟩
    exact ⟨_, _, rfl, sM.trans (same_new nC _)⟩
  · obtain ⟨v2, v3, rfl, sM⟩ := z
    refine ⟨_, rfl, a, r, rfl, sM _ _ ha, hl, fun M2 s2 => ⟨_, rfl, ?_⟩⟩
    rw [hm]
    exact iteT (k _ (sM.trans s2))
theorem ok_wrong_barter (T : Tx K mg) : FnOk P w K mg base CX0 3 T.a_wrong_barter T.fd_wrong_barter ["barter", "told", "many"] spWrongBarter := by
  refine T.F_wrong_barter.ok sc_wrong_barter (fun vs H Q E h => ?_) (fun cdv A outer st H vs Q E hr h => ?_)
  · obtain ⟨p, D, b, kvs, rfl, _⟩ := h
    rfl
  obtain ⟨p, D, ⟨n, r⟩, kvs, rfl, ⟨a, hp, ha⟩, hD, hv, hw, hl, hm, k⟩ := h
  have hu := hu_of hr
  have G_is_word : FnOk P w K mg base CX0 1 T.a_is_word T.fd_is_word ["value"] spWord := ok_is_word T
  have hr_is_word : Room 1 _ := hr.mono (by omega)
  have G_wrong_row : FnOk P w K mg base CX0 2 T.a_wrong_row T.fd_wrong_row ["row", "many"] spWrongRow := ok_wrong_row T
  have hr_wrong_row : Room 2 _ := hr
  refine ⟨_, ((pss_cons (ps_if (PW.pt (pw_or (pt_not (pt_val (pe_callB (show CallR _ (.builtin "isinstance") (rIsi K) from call_isi) (by rfl) T.n_isinstance (by decide +kernel) (pa_cons (pv 0) (pa_cons (pe_bltn (v := .ty "tuple") (by rfl) T.n_tuple (by decide +kernel) rfl) pa_nil))))) (pw_or1 (pt_cmpR op_ne (pe_callB call_len_seq (by rfl) T.n_len (by decide +kernel) (pa_cons (pv 0) pa_nil)) pe_int (nomark _)))))
        (pss_one (ps_ret (pe_tup pa_nil)))
        pss_nil)
      (pss_cons (ps_asg (pv 0) (pg_tup rfl (pgs_cons (pg_name (i := 3) sc_wrong_barter.nd rfl (Or.inl rfl)) (pgs_cons (pg_name (i := 4) sc_wrong_barter.nd rfl (Or.inl rfl)) pgs_nil))))
      (pss_cons (ps_if (PW.pt (pw_or (pt_not (pt_val (pe_call G_is_word hr_is_word rfl T.m_is_word T.F_is_word.kp T.b_is_word .nil pass0 (pa_cons (pv 3) pa_nil)))) (pw_or1 (pt_cmp (pc_din hu (pv 3) (pv 1)) rfl))))
        (pss_one (ps_ret (pe_tup (pa_cons pe_int pa_nil))))
        pss_nil)
      (pss_cons (ps_set (i := 5) sc_wrong_barter.nd rfl (Or.inl rfl) (pe_call G_wrong_row hr_wrong_row rfl T.m_wrong_row T.F_wrong_row.kp T.b_wrong_row .nil pass0 (pa_cons (pv 4) (pa_cons (pv 2) pa_nil))))
      (pss_one (ps_ret (pe_ifExp (pt_cmpR op_isN (pv 5) pe_non (nomark _)) pe_non (pe_op op_catT (pe_tup (pa_cons pe_int pa_nil)) (pv 5)))))))))), ?_⟩
  refine ⟨_, rfl, .ref p, .ty "tuple", .type "tuple", .type "tuple", _, rfl, .ty _, .base (.tup hp), kit_ty (r := true) (by decide +kernel), ?_⟩
  refine ⟨_, rfl, iteF ?_⟩
  refine ⟨_, rfl, p, _, rfl, .inr (SqT.of hp), rfl, _, rfl, iteNe (n := 2) (m := 2) rfl ?_⟩
  refine ⟨_, rfl, p, _, rfl, SqT.of hp, rfl, _, _, rfl, _, _, rfl, rfl, ?_⟩
  have wl : ∀ x : Str, V.str n = .str x → x.length ≤ 100000 := fun x e => by
    cases e
    exact (word_fit hw n rfl).1
  refine ⟨_, rfl, .str n, .str n, rfl, .str n, fun x e => wl x (by cases e; rfl), fun M sM => ?_⟩
  rw [hw]
  refine ⟨_, rfl, iteF ?_⟩
  have hD1 := sM _ _ hD
  have g1 : DGet M D (.str n) none := by rw [← hv]; exact DGet.k (k := Sum.inr n) hD1
  refine ⟨_, rfl, _, rfl, D, _, rfl, g1, _, rfl, iteF ?_⟩
  refine ⟨_, rfl, _, rfl, a, r, rfl, sM _ _ ha, (by have q : r.length ≤ 100 := hl; omega), hm, fun M2 s2 => ?_⟩
  exact ⟨_, rfl, rfl, _, rfl, iteT (k _ (sM.trans s2))⟩
theorem ok_wrong_barters (T : Tx K mg) : FnOk P w K mg base CX0 4 T.a_wrong_barters T.fd_wrong_barters ["barters", "many"] spWrongBarters := by
  refine T.F_wrong_barters.ok sc_wrong_barters (fun vs H Q E h => ?_) (fun cdv A outer st H vs Q E hr h => ?_)
  · obtain ⟨l, ps, gs, bs, rfl, _⟩ := h
    rfl
  obtain ⟨l, ps, gs, bs, rfl, hp, hb, G, k⟩ := h
  have hu := hu_of hr
  have G_wrong_barter : FnOk P w K mg base CX0 3 T.a_wrong_barter T.fd_wrong_barter ["barter", "told", "many"] spWrongBarter := ok_wrong_barter T
  have hr_wrong_barter : Room 3 _ := hr
  refine ⟨_, ((pss_cons (ps_if (pt_not (pt_val (pe_callB call_isiT (by rfl) T.n_isinstance (by decide +kernel) (pa_cons (pv 0) (pa_cons (pe_tup (pa_cons (pe_bltn (v := .ty "list") (by rfl) T.n_list (by decide +kernel) rfl) (pa_cons (pe_bltn (v := .ty "tuple") (by rfl) T.n_tuple (by decide +kernel) rfl) pa_nil))) pa_nil)))))
        (pss_one (ps_ret (pe_tup (pa_cons pe_int pa_nil))))
        pss_nil)
      (pss_cons (ps_set (i := 2) sc_wrong_barters.nd rfl (Or.inl rfl) pe_dnewK)
      (pss_cons (ps_for PassesOwn.never rfl (pi_enumM (by rfl) T.n_enumerate (pa_cons (pv 0) pa_nil)) (pg_tup rfl (pgs_cons (pg_name (i := 3) sc_wrong_barters.nd rfl (Or.inl rfl)) (pgs_cons (pg_name (i := 4) sc_wrong_barters.nd rfl (Or.inl rfl)) pgs_nil)))
        (pss_cons (ps_set (i := 5) sc_wrong_barters.nd rfl (Or.inl rfl) (pe_call G_wrong_barter hr_wrong_barter rfl T.m_wrong_barter T.F_wrong_barter.kp T.b_wrong_barter .nil pass0 (pa_cons (pv 4) (pa_cons (pv 2) (pa_cons (pv 1) pa_nil)))))
      (pss_cons (ps_if (pt_cmpR op_notN (pv 5) pe_non (nomark _))
        (pss_one (ps_ret (pe_op op_catT (pe_tup (pa_cons pe_int (pa_cons (pv 3) pa_nil))) (pv 5))))
        pss_nil)
      (pss_one (ps_dput hu (pv 2) (pe_ix (show IxR _ (rIxT K) from ix_tup) (pv 4) pe_int (fun _ _ => rfl)) pe_bl rfl)))))
      (pss_one (ps_ret pe_non)))))), ?_⟩
  refine ⟨_, rfl, (by show 2 ≤ sizeLine; decide), fun t0 h0 => ?_⟩
  have s0 := same_new h0 (.tup [.ty "list", .ty "tuple"])
  have hp0 := s0 _ _ hp
  refine ⟨.ref l, t0, [.ty "list", .ty "tuple"], .type "list", [.type "list", .type "tuple"], _, rfl, upd_same, .cons (.ty _) (.cons (.ty _) .nil), .base (.lst hp0), kit_any1 (kit_ty (by decide +kernel)), ?_⟩
  refine ⟨_, rfl, iteF ?_⟩
  intro D hD
  have ff : ∀ (i : Nat) (b : Br), bs[i]? = some b → b.1 ∉ (bs.take i).map (·.1) := fun i b e => by
    have q : (bs.map (·.1))[i]? = some b.1 := mapM e
    have q2 := nodup_take G.bn q
    rw [← List.map_take] at q2
    exact q2
  generalize L2.upd H t0 (.tup [.ty "list", .ty "tuple"]) = H0 at s0 hp0 hD ⊢
  refine ⟨_, rfl, false, l, _, rfl, SqL.of (same_new hD _ _ _ hp0), for_it walk_enumM (fun i σ M => ∃ v3 v4 v5, σ = [some (.ref l), some (.int (gs.length : Nat)), some (.ref D), v3, v4, v5] ∧ Same H0 M ∧ M D = some (.dK (kvB ((bs.take i).map (·.1)))))
    ⟨none, none, none, rfl, same_new hD _, upd_same⟩ (fun i σ M _ ⟨_, _, _, _, z, _⟩ => SqL.of (z _ _ hp0)) (fun i x σ M M' hi z y => ?_) (fun σ M z => ?_)⟩
  · obtain ⟨v3, v4, v5, rfl, sM, eD⟩ := z
    obtain ⟨C, u, v, rfl, nC, rfl, eu, ev⟩ := y
    obtain ⟨p, hpi, rfl⟩ := getM ev
    have il : i < bs.length := by rw [← hb.1]; exact (List.getElem?_eq_some_iff.mp hpi).1
    obtain ⟨b, hbi⟩ : ∃ b, bs[i]? = some b := ⟨_, List.getElem?_eq_getElem il⟩
    have mb : b ∈ bs := List.mem_of_getElem? hbi
    have ⟨bw1, bw2, bw3⟩ := G.bw b mb
    have bat := hb.2 i p b hpi hbi
    have sC := same_new nC (.tup [u, .ref p])
    have gl := G.gl
    have bl := G.bl
    refine ⟨C, _, rfl, SqT.of upd_same, rfl, _, _, rfl, _, _, rfl, rfl, ?_⟩
    refine ⟨_, rfl, _, rfl, _, rfl, p, D, b, _, ?_, bat.same (s0.trans (sM.trans sC)), sC _ _ eD, no_kvB (ff i b hbi), bw1, by omega, bw3, fun M2 s2 => ?_⟩
    · rw [bw2]; rfl
    refine ⟨_, rfl, rfl, _, rfl, iteF ?_⟩
    have bat2 := bat.same (s0.trans (sM.trans (sC.trans s2)))
    obtain ⟨ra, hb1, hb2⟩ := bat2
    refine ⟨_, rfl, _, rfl, p, _, _, _, rfl, rfl, SqT.of hb1, atI_nat (j := 0) rfl, D, _, rfl, DPut.k (k := Sum.inr b.1) (s2 _ _ (sC _ _ eD)) ?_, ?_⟩
    · unfold kvB; rw [List.length_map, List.length_map, List.length_take]; exact small1000 (by omega)
    · rw [put_kvB (ff i b hbi)]
      refine ⟨_, _, _, rfl, same_put hD (sM.trans (sC.trans s2)), ?_⟩
      rw [upd_same, ← take_snoc hbi, List.map_append]
      rfl
  · obtain ⟨v3, v4, v5, rfl, sM, eD⟩ := z
    exact k M (s0.trans sM)
theorem ok_wrong_goods (T : Tx K mg) : FnOk P w K mg base CX0 2 T.a_wrong_goods T.fd_wrong_goods ["goods"] spWrongGoods := by
  refine T.F_wrong_goods.ok sc_wrong_goods (fun vs H Q E h => ?_) (fun cdv A outer st H vs Q E hr h => ?_)
  · obtain ⟨g, gs, rfl, _⟩ := h
    rfl
  obtain ⟨g, gs, rfl, hg, hw, hn, hl, k⟩ := h
  have hu := hu_of hr
  have G_is_word : FnOk P w K mg base CX0 1 T.a_is_word T.fd_is_word ["value"] spWord := ok_is_word T
  have hr_is_word : Room 1 _ := hr
  refine ⟨_, ((pss_cons (ps_if (pt_not (pt_val (pe_callB call_isiT (by rfl) T.n_isinstance (by decide +kernel) (pa_cons (pv 0) (pa_cons (pe_tup (pa_cons (pe_bltn (v := .ty "list") (by rfl) T.n_list (by decide +kernel) rfl) (pa_cons (pe_bltn (v := .ty "tuple") (by rfl) T.n_tuple (by decide +kernel) rfl) pa_nil))) pa_nil)))))
        (pss_one (ps_ret (pe_tup (pa_cons pe_int pa_nil))))
        pss_nil)
      (pss_cons (ps_set (i := 1) sc_wrong_goods.nd rfl (Or.inl rfl) pe_dnewK)
      (pss_cons (ps_for PassesOwn.never rfl (pi_enumM (by rfl) T.n_enumerate (pa_cons (pv 0) pa_nil)) (pg_tup rfl (pgs_cons (pg_name (i := 2) sc_wrong_goods.nd rfl (Or.inl rfl)) (pgs_cons (pg_name (i := 3) sc_wrong_goods.nd rfl (Or.inl rfl)) pgs_nil)))
        (pss_cons (ps_if (PW.pt (pw_or (pt_not (pt_val (pe_call G_is_word hr_is_word rfl T.m_is_word T.F_is_word.kp T.b_is_word .nil pass0 (pa_cons (pv 3) pa_nil)))) (pw_or1 (pt_cmp (pc_din hu (pv 3) (pv 1)) rfl))))
        (pss_one (ps_ret (pe_tup (pa_cons pe_int (pa_cons (pv 2) pa_nil)))))
        pss_nil)
      (pss_one (ps_dput hu (pv 1) (pv 3) pe_bl rfl))))
      (pss_one (ps_ret pe_non)))))), ?_⟩
  refine ⟨_, rfl, (by show 2 ≤ sizeLine; decide), fun t0 h0 => ?_⟩
  have s0 := same_new h0 (.tup [.ty "list", .ty "tuple"])
  have hp0 := s0 _ _ hg
  refine ⟨.ref g, t0, [.ty "list", .ty "tuple"], .type "list", [.type "list", .type "tuple"], _, rfl, upd_same, .cons (.ty _) (.cons (.ty _) .nil), .base (.lst hp0), kit_any1 (kit_ty (by decide +kernel)), ?_⟩
  refine ⟨_, rfl, iteF ?_⟩
  intro D hD
  generalize L2.upd H t0 (.tup [.ty "list", .ty "tuple"]) = H0 at s0 hp0 hD ⊢
  refine ⟨_, rfl, false, g, _, rfl, SqL.of (same_new hD _ _ _ hp0), for_it walk_enumM (fun i σ M => ∃ v2 v3, σ = [some (.ref g), some (.ref D), v2, v3] ∧ Same H0 M ∧ M D = some (.dK (kvB (gs.take i))))
    ⟨none, none, rfl, same_new hD _, upd_same⟩ (fun i σ M _ ⟨_, _, _, z, _⟩ => SqL.of (z _ _ hp0)) (fun i x σ M M' hi z y => ?_) (fun σ M z => ?_)⟩
  · obtain ⟨v2, v3, rfl, sM, eD⟩ := z
    obtain ⟨C, u, v, rfl, nC, rfl, eu, ev⟩ := y
    obtain ⟨x, hx, rfl⟩ := getM ev
    have wx := hw x (List.mem_of_getElem? hx)
    have sC := same_new nC (.tup [u, .str x])
    refine ⟨C, _, rfl, SqT.of upd_same, rfl, _, _, rfl, _, _, rfl, rfl, ?_⟩
    refine ⟨_, rfl, .str x, .str x, rfl, .str x, fun y e => (word_fit wx y e).1, fun M2 s2 => ?_⟩
    rw [wx]
    refine ⟨_, rfl, iteF ?_⟩
    have eD2 := s2 _ _ (sC _ _ eD)
    have g1 : DGet M2 D (.str x) none := by rw [← no_kvB (nodup_take hn hx)]; exact DGet.k (k := Sum.inr x) eD2
    refine ⟨_, rfl, _, rfl, D, _, rfl, g1, _, rfl, iteF ?_⟩
    refine ⟨_, rfl, _, rfl, D, _, rfl, DPut.k (k := Sum.inr x) eD2 ?_, ?_⟩
    · unfold kvB; rw [List.length_map, List.length_take]; exact small1000 (by omega)
    · rw [put_kvB (nodup_take hn hx), take_snoc hx]
      exact ⟨_, _, rfl, same_put hD (sM.trans (sC.trans s2)), upd_same⟩
  · obtain ⟨v2, v3, rfl, sM, eD⟩ := z
    exact k M (s0.trans sM)
end
end My

namespace My
open PySem PySem.Spec PyProof.Rows L2
/-- tuple(..) of a list or tuple, over the frozen part K -/
def rTupOf (K : PySem.W.Frag) : List V → Hp → VK → Prop := fun xs H Q => ∃ p ys, xs = [.ref p] ∧ ((SqL K H p ys ∧ ∀ l, H l = none → Q (.ref l) (L2.upd H l (.tup ys))) ∨ SqT K H p ys ∧ Q (.ref p) H)
theorem call_tupK {X : Cx} : CallR X (.type "tuple") (rTupOf X.K) := call_tuple_of
def BookH (C : Addr) (H : Hp) (x : Addr) (gs : List Str) (bs : List Br) : Prop := ∃ (dx tg tb dg db : Addr) (ps : List Addr),
  H x = some (.ins C dx [("_goods", .ref tg), ("_barters", .ref tb), ("_good_numbers", .ref dg), ("_barter_numbers", .ref db)]) ∧ H tg = some (.tup (gs.map V.str)) ∧
  H tb = some (.tup (ps.map V.ref)) ∧ BrsAt H ps bs ∧ H dg = some (.dK (kvN gs)) ∧ H db = some (.dK (kvN (bs.map (·.1))))
theorem BookH.same {C : Addr} {H H' : Hp} (e : Same H H') {x : Addr} {gs : List Str} {bs : List Br} (h : BookH C H x gs bs) : BookH C H' x gs bs := by
  obtain ⟨dx, tg, tb, dg, db, ps, h1, h2, h3, h4, h5, h6⟩ := h
  exact ⟨dx, tg, tb, dg, db, ps, e _ _ h1, e _ _ h2, e _ _ h3, h4.same e, e _ _ h5, e _ _ h6⟩
/-- a book whose dicts are new since H0 -/
def BookF (C : Addr) (H0 H : Hp) (x : Addr) (gs : List Str) (bs : List Br) : Prop := ∃ (dx tg tb dg db : Addr) (ps : List Addr), H0 dg = none ∧ H0 db = none ∧
  H x = some (.ins C dx [("_goods", .ref tg), ("_barters", .ref tb), ("_good_numbers", .ref dg), ("_barter_numbers", .ref db)]) ∧ H tg = some (.tup (gs.map V.str)) ∧
  H tb = some (.tup (ps.map V.ref)) ∧ BrsAt H ps bs ∧ H dg = some (.dK (kvN gs)) ∧ H db = some (.dK (kvN (bs.map (·.1))))
theorem BookF.book {C : Addr} {H0 H : Hp} {x : Addr} {gs : List Str} {bs : List Br} (h : BookF C H0 H x gs bs) : BookH C H x gs bs := by
  obtain ⟨dx, tg, tb, dg, db, ps, _, _, h⟩ := h
  exact ⟨dx, tg, tb, dg, db, ps, h⟩
theorem BrsAt.get {H : Hp} {ps : List Addr} {bs : List Br} (h : BrsAt H ps bs) {i : Nat} {p : Addr} (e : ps[i]? = some p) : ∃ b, bs[i]? = some b ∧ BrAt H p b := by
  have il : i < bs.length := by rw [← h.1]; exact (List.getElem?_eq_some_iff.mp e).1
  exact ⟨_, List.getElem?_eq_getElem il, h.2 i p _ e (List.getElem?_eq_getElem il)⟩
theorem BrsAt.snoc {H : Hp} {ps : List Addr} {bs : List Br} {p : Addr} {b : Br} (h : BrsAt H ps bs) (hb : BrAt H p b) : BrsAt H (ps ++ [p]) (bs ++ [b]) := by
  refine ⟨by rw [List.length_append, List.length_append, h.1]; rfl, fun i q c e1 e2 => ?_⟩
  by_cases l : i < ps.length
  · rw [List.getElem?_append_left l] at e1
    rw [List.getElem?_append_left (by rw [← h.1]; exact l)] at e2
    exact h.2 i q c e1 e2
  · rw [List.getElem?_append_right (by omega)] at e1
    rw [List.getElem?_append_right (by rw [← h.1]; omega), ← h.1] at e2
    obtain ⟨j, hj⟩ : ∃ j, i - ps.length = j := ⟨_, rfl⟩
    rw [hj] at e1 e2
    cases j with
    | zero => cases e1; cases e2; exact hb
    | succ j => cases e1
theorem BrsAt.nil {H : Hp} : BrsAt H [] [] := ⟨rfl, fun i p b h _ => by cases i <;> cases h⟩
def fsB (tg tb : Addr) : List (Str × V) := [("_goods", .ref tg), ("_barters", .ref tb)]
def fsC (tg tb dg : Addr) : List (Str × V) := [("_goods", .ref tg), ("_barters", .ref tb), ("_good_numbers", .ref dg)]
def spNames34 (C : Addr) : Sp := fun vs H Q _ => ∃ (x dx tb : Addr) (fs : List (Str × V)) (ps : List Addr) (bs : List Br), vs = [.ref x] ∧ H x = some (.ins C dx fs) ∧ fs.lookup ("_barters" : Str) = some (V.ref tb) ∧ H tb = some (.tup (ps.map V.ref)) ∧ BrsAt H ps bs ∧ bs.length ≤ 100 ∧
  ∀ (D : Addr) (H' : Hp), Same H H' → H D = none → H' D = some (.lst ((bs.map (·.1)).map V.str)) → Q (.ref D) H'
def spBarters34 (C : Addr) : Sp := fun vs H Q _ => ∃ (x : Addr) (gs : List Str) (bs : List Br), vs = [.ref x] ∧ BookH C H x gs bs ∧
  ∀ (D : Addr) (ps : List Addr) (H' : Hp), Same H H' → H D = none → H' D = some (.lst (ps.map V.ref)) → BrsAt H' ps bs → Q (.ref D) H'
def spInit34 (C : Addr) : Sp := fun vs H Q _ => ∃ (x g l dx : Addr) (ps : List Addr) (gs : List Str) (bs : List Br), vs = [.ref x, .ref g, .ref l] ∧ H x = some (.ins C dx []) ∧ H g = some (.lst (gs.map V.str)) ∧ H l = some (.lst (ps.map V.ref)) ∧ BrsAt H ps bs ∧ GoodBk gs bs ∧
  ∀ H', (∀ b u, b ≠ x → H b = some u → H' b = some u) → BookF C H H' x gs bs → Q .non H'
theorem kvN_take {xs : List Str} {i : Nat} {x : Str} (n : xs.Nodup) (e : xs[i]? = some x) : putK (kvN (xs.take i)) (Sum.inr x) (.int (i : Nat)) = kvN (xs.take (i + 1)) := by
  have hi := (List.getElem?_eq_some_iff.mp e).1
  have q := put_kvN (nodup_take n e)
  rw [take_snoc e, List.length_take, Nat.min_eq_left (by omega)] at q
  exact q
theorem kvN_len {xs : List Str} : (kvN xs).length = xs.length := by unfold kvN; rw [List.length_mapIdx]
section
variable {P : Program} {w : World} {K : PySem.W.Frag} {mg : Str → Option Value} {base : Heap}
theorem ok_Book_names (T : Tx K mg) : FnOk P w K mg base CX0 1 T.a_Book_names T.fd_Book_names ["self"] (spNames34 T.C_Book) := by
  refine T.F_Book_names.ok sc_Book_names (fun vs H Q E h => ?_) (fun cdv A outer st H vs Q E hr h => ?_)
  · obtain ⟨x, dx, tb, fs, ps, bs, rfl, _⟩ := h
    rfl
  obtain ⟨x, dx, tb, fs, ps, bs, rfl, hx, lk, ht, hb, bl, k⟩ := h
  refine ⟨_, ((pss_one (ps_ret (pe_lc (own := [("barter", 1)]) (by rfl) sc_Book_names.nd (pi_tup (pe_fld (pv 0) rfl)) (blkOk_by (own := [("barter", 1)]) (N := ["self", "barter"]) (sc := defScope s_Book_names) (by decide +kernel)) (fun _ _ _ _ _ => pg_name (i := 1) sc_Book_names.nd rfl (Or.inl rfl)) (fun _ _ _ _ _ => pts_nil) (fun _ _ _ _ _ => (pe_ix (show IxR _ (rIxT K) from ix_tup) (pv 1) pe_int (fun _ _ => rfl))))))), ?_⟩
  refine ⟨_, rfl, x, _, _, _, _, rfl, hx, T.cl_Book, T.na_Book_barters, lk, tb, rfl, ⟨_, SqT.of ht⟩, fun D hD => ?_⟩
  refine lc_tup (xs := ps.map V.ref) (Lc H D ((bs.map (·.1)).map V.str)) (Lc.zero hD) (fun i M _ z => SqT.of (z.1 _ _ ht)) (fun i y M hy z => ?_) (fun M z => ?_)
  · obtain ⟨p, hp, rfl⟩ := getM hy
    obtain ⟨b, hbi, a, e1, e2⟩ := hb.get hp
    refine ⟨rfl, _, rfl, p, _, _, _, rfl, rfl, SqT.of (z.1 _ _ e1), atI_nat (j := 0) rfl, ?_⟩
    exact Lc.lay hD z (mapM (mapM hbi)) (by rw [List.length_map, List.length_map]; omega)
  · have ⟨sM, eM⟩ := z.all (by rw [List.length_map, List.length_map, List.length_map]; exact hb.1)
    exact k D M sM hD eM
theorem ok_Book_init (T : Tx K mg) : FnOk P w K mg base CX0 5 T.a_Book_init T.fd_Book_init ["self", "goods", "barters"] (spInit34 T.C_Book) := by
  refine T.F_Book_init.ok sc_Book_init (fun vs H Q E h => ?_) (fun cdv A outer st H vs Q E hr h => ?_)
  · obtain ⟨x, g, l, dx, ps, gs, bs, rfl, _⟩ := h
    rfl
  obtain ⟨x, g, l, dx, ps, gs, bs, rfl, hx, hg, hl, hb, G, k⟩ := h
  have G_wrong_goods : FnOk P w K mg base CX0 2 T.a_wrong_goods T.fd_wrong_goods ["goods"] spWrongGoods := ok_wrong_goods T
  have hr_wrong_goods : Room 2 _ := hr.mono (by omega)
  have G_wrong_barters : FnOk P w K mg base CX0 4 T.a_wrong_barters T.fd_wrong_barters ["barters", "many"] spWrongBarters := ok_wrong_barters T
  have hr_wrong_barters : Room 4 _ := hr
  have G_Book_names : FnOk P w K mg base CX0 1 T.a_Book_names T.fd_Book_names ["self"] (spNames34 T.C_Book) := ok_Book_names T
  have hr_Book_names : Room 1 _ := hr.mono (by omega)
  refine ⟨_, ((pss_cons (ps_set (i := 3) sc_Book_init.nd rfl (Or.inl rfl) (pe_call G_wrong_goods hr_wrong_goods rfl T.m_wrong_goods T.F_wrong_goods.kp T.b_wrong_goods .nil pass0 (pa_cons (pv 1) pa_nil)))
      (pss_cons (ps_if (pt_cmpR op_isN (pv 3) pe_non (nomark _))
        (pss_one (ps_set (i := 3) sc_Book_init.nd rfl (Or.inl rfl) (pe_call G_wrong_barters hr_wrong_barters rfl T.m_wrong_barters T.F_wrong_barters.kp T.b_wrong_barters .nil pass0 (pa_cons (pv 2) (pa_cons (pe_callB call_len_seq (by rfl) T.n_len (by decide +kernel) (pa_cons (pv 1) pa_nil)) pa_nil)))))
        pss_nil)
      (pss_cons (ps_if (pt_cmpR op_notN (pv 3) pe_non (nomark _))
        (pss_one (ps_never))
        pss_nil)
      (pss_cons (ps_fld (pv 0) (pe_callTy call_tuple_of (by rfl) T.n_tuple (by decide +kernel) (pa_cons (pv 1) pa_nil)) rfl)
      (pss_cons (ps_fld (pv 0) (pe_callTy call_tuple_of (by rfl) T.n_tuple (by decide +kernel) (pa_cons (pe_lc (own := [("name", 7), ("row", 8)]) (by rfl) sc_Book_init.nd (pi_list (pv 2)) (blkOk_by (own := [("name", 7), ("row", 8)]) (N := ["self", "goods", "barters", "path", "j", "good", "k", "name", "row"]) (sc := defScope s_Book_init) (by decide +kernel)) (fun _ _ _ _ _ => show PG _ _ (gTup K 2 (gCons (gName 7) (gCons (gName 8) gNil))) from (pg_tup rfl (pgs_cons (pg_name (i := 7) sc_Book_init.nd rfl (Or.inl rfl)) (pgs_cons (pg_name (i := 8) sc_Book_init.nd rfl (Or.inl rfl)) pgs_nil)))) (fun _ _ _ _ _ => pts_nil) (fun _ _ _ _ _ => (pe_tup (pa_cons (pv 7) (pa_cons (pe_callTy (show CallR _ (.type "tuple") (rTupOf K) from call_tupK) (by rfl) T.n_tuple (by decide +kernel) (pa_cons (pv 8) pa_nil)) pa_nil))))) pa_nil)) rfl)
      (pss_cons (ps_fld (pv 0) (pe_dc (own := [("j", 4), ("good", 5)]) (by rfl) sc_Book_init.nd (pi_enumM (by rfl) T.n_enumerate (pa_cons (pe_fld (pv 0) rfl) pa_nil)) (blkOk_by (own := [("j", 4), ("good", 5)]) (N := ["self", "goods", "barters", "path", "j", "good", "k", "name", "row"]) (sc := defScope s_Book_init) (by decide +kernel)) (fun _ _ _ _ _ => show PG _ _ (gTup K 2 (gCons (gName 4) (gCons (gName 5) gNil))) from (pg_tup rfl (pgs_cons (pg_name (i := 4) sc_Book_init.nd rfl (Or.inl rfl)) (pgs_cons (pg_name (i := 5) sc_Book_init.nd rfl (Or.inl rfl)) pgs_nil)))) (fun _ _ _ _ _ => pts_nil) (fun _ _ _ _ _ => (pv 5)) (fun _ _ _ _ _ => (pv 4))) rfl)
      (pss_one (ps_fld (pv 0) (pe_dc (own := [("k", 6), ("name", 7)]) (by rfl) sc_Book_init.nd (pi_enumM (by rfl) T.n_enumerate (pa_cons (pe_meth0 (pv 0) T.cl_Book T.me_Book_names G_Book_names hr_Book_names T.b_Book_names .nil pass0) pa_nil)) (blkOk_by (own := [("k", 6), ("name", 7)]) (N := ["self", "goods", "barters", "path", "j", "good", "k", "name", "row"]) (sc := defScope s_Book_init) (by decide +kernel)) (fun _ _ _ _ _ => show PG _ _ (gTup K 2 (gCons (gName 6) (gCons (gName 7) gNil))) from (pg_tup rfl (pgs_cons (pg_name (i := 6) sc_Book_init.nd rfl (Or.inl rfl)) (pgs_cons (pg_name (i := 7) sc_Book_init.nd rfl (Or.inl rfl)) pgs_nil)))) (fun _ _ _ _ _ => pts_nil) (fun _ _ _ _ _ => (pv 7)) (fun _ _ _ _ _ => (pv 6))) rfl))))))))), ?_⟩
  refine ⟨_, rfl, g, gs, rfl, hg, G.gw, G.gn, G.gl, fun H1 s1 => ?_⟩
  refine ⟨_, rfl, rfl, _, rfl, iteT ?_⟩
  refine ⟨_, rfl, _, rfl, g, _, rfl, .inl (SqL.of (s1 _ _ hg)), l, ps, gs, bs, (by rw [List.length_map] <;> rfl), s1 _ _ hl, hb.same s1, G, fun H2 s2 => ?_⟩
  refine ⟨_, rfl, rfl, _, rfl, iteF ?_⟩
  have s12 := s1.trans s2
  refine ⟨_, rfl, g, _, rfl, .inl ⟨SqL.of (s12 _ _ hg), fun tg htg => ⟨_, rfl, x, T.C_Book, dx, [], rfl, same_new htg _ _ _ (s12 _ _ hx), T.cl_Book, T.na_Book_goods, by decide, ?_⟩⟩⟩
  have x1 := same_new htg (.tup (gs.map V.str)) _ _ (s12 _ _ hx)
  have sg := same_new htg (.tup (gs.map V.str))
  -- outside x all stays
  have fr : ∀ {M : Hp} {a : Addr}, (∀ b u, b ≠ x → H b = some u → M b = some u) → a ≠ x → M a = none → H a = none := fun {M a} g1 n e => by
    cases q : H a with
    | none => rfl
    | some u => rw [g1 a u n q] at e; cases e
  have go : ∀ {M M' : Hp}, (∀ b u, b ≠ x → H b = some u → M b = some u) → Same M M' → ∀ b u, b ≠ x → H b = some u → M' b = some u := fun g1 e b u n q => e _ _ (g1 b u n q)
  have goX : ∀ {M : Hp} {o : HO}, (∀ b u, b ≠ x → H b = some u → M b = some u) → ∀ b u, b ≠ x → H b = some u → (L2.upd M x o) b = some u := fun g1 b u n q => by rw [upd_ne n]; exact g1 b u n q
  have nx : ∀ {M : Hp} {a : Addr} {xs : List V} {fs : List (Str × V)}, M x = some (.ins T.C_Book dx fs) → M a = some (.tup xs) → a ≠ x := fun e1 e2 e => by rw [e, e1] at e2; cases e2
  have nxd : ∀ {M : Hp} {a : Addr} {kvs : List (Key × V)} {fs : List (Str × V)}, M x = some (.ins T.C_Book dx fs) → M a = some (.dK kvs) → a ≠ x := fun e1 e2 e => by rw [e, e1] at e2; cases e2
  have nxl : ∀ {M : Hp} {a : Addr} {xs : List V} {fs : List (Str × V)}, M x = some (.ins T.C_Book dx fs) → M a = some (.lst xs) → a ≠ x := fun e1 e2 e => by rw [e, e1] at e2; cases e2
  have gA := goX (o := .ins T.C_Book dx (putF "_goods" (.ref tg) [])) (go (go (fun b u _ q => q) s12) sg)
  have eA : (L2.upd (L2.upd H2 tg (.tup (gs.map V.str))) x (.ins T.C_Book dx (putF "_goods" (.ref tg) []))) x = some (.ins T.C_Book dx [("_goods", .ref tg)]) := upd_same
  have tA : (L2.upd (L2.upd H2 tg (.tup (gs.map V.str))) x (.ins T.C_Book dx (putF "_goods" (.ref tg) []))) tg = some (.tup (gs.map V.str)) := by rw [upd_ne (nx x1 upd_same)]; exact upd_same
  generalize L2.upd (L2.upd H2 tg (.tup (gs.map V.str))) x (.ins T.C_Book dx (putF "_goods" (.ref tg) [])) = MA at gA eA tA ⊢
  have hbA : BrsAt MA ps bs := ⟨hb.1, fun i p b h1 h2 => by
    obtain ⟨a, q1, q2⟩ := hb.2 i p b h1 h2
    exact ⟨a, gA _ _ (nx hx q1) q1, gA _ _ (nx hx q2) q2⟩⟩
  have hlA := gA _ _ (nxl hx hl) hl
  refine ⟨_, rfl, l, rfl, ⟨_, SqL.of hlA⟩, fun D hD => ?_⟩
  refine lc_list (xs := ps.map V.ref) (fun i M => ∃ qs : List Addr, Same MA M ∧ M D = some (.lst (qs.map V.ref)) ∧ BrsAt M qs (bs.take i)) ⟨[], same_new hD _, upd_same, BrsAt.nil⟩ (fun i M _ ⟨_, z, _⟩ => SqL.of (z _ _ hlA)) (fun i y M hy z => ?_) (fun M z => ?_)
  · obtain ⟨p, hp, rfl⟩ := getM hy
    obtain ⟨b, hbi, a, e1, e2⟩ := hbA.get hp
    obtain ⟨qs, sM, eM, bM⟩ := z
    refine ⟨p, _, rfl, SqT.of (sM _ _ e1), rfl, _, _, rfl, _, _, rfl, rfl, rfl, ?_⟩
    refine ⟨_, rfl, _, rfl, a, _, rfl, .inr ⟨SqT.of (sM _ _ e2), (by show 2 ≤ sizeLine; decide), fun q hq => ?_⟩⟩
    have sq := same_new hq (.tup [.str b.1, .ref a])
    have lq : qs.length = (bs.take i).length := bM.1
    have bl := G.bl
    refine ⟨_, sq _ _ eM, ?_, qs ++ [q], same_put hD (sM.trans sq), ?_, ?_⟩
    · rw [List.length_map, lq, List.length_take]; exact small1000 (by omega)
    · rw [upd_same, List.map_append]; rfl
    · rw [← take_snoc hbi]
      have dq : ∀ u, (∃ xs, u = HO.tup xs) → ∀ c, (L2.upd M q (.tup [.str b.1, .ref a])) c = some u → (L2.upd (L2.upd M q (.tup [.str b.1, .ref a])) D (.lst (qs.map V.ref ++ [.ref q]))) c = some u := fun u ⟨xs, eu⟩ c e => by
        rw [upd_ne ?_]
        · exact e
        · rintro rfl
          rw [sq _ _ eM, eu] at e
          cases e
      have keep : ∀ {p : Addr} {b' : Br}, BrAt (L2.upd M q (.tup [.str b.1, .ref a])) p b' → BrAt (L2.upd (L2.upd M q (.tup [.str b.1, .ref a])) D (.lst (qs.map V.ref ++ [.ref q]))) p b' := fun ⟨a', f1, f2⟩ => ⟨a', dq _ ⟨_, rfl⟩ _ f1, dq _ ⟨_, rfl⟩ _ f2⟩
      refine BrsAt.snoc ⟨bM.1, fun j p' b' h1 h2 => keep ((bM.2 j p' b' h1 h2).same sq)⟩ (keep ⟨a, upd_same, sq _ _ (sM _ _ e2)⟩)
  obtain ⟨qs, sM, eM, bM⟩ := z
  have lps : (ps.map V.ref).length = bs.length := by rw [List.length_map]; exact hb.1
  rw [lps, List.take_length] at bM
  refine ⟨D, _, rfl, .inl ⟨SqL.of eM, fun tb htb => ?_⟩⟩
  have sb := (sM.trans (same_new htb (.tup (qs.map V.ref))))
  refine ⟨_, rfl, x, T.C_Book, dx, _, rfl, sb _ _ eA, T.cl_Book, T.na_Book_barters, by show 1 < 1000; decide, ?_⟩
  have fB : putF "_barters" (V.ref tb) [("_goods", V.ref tg)] = fsB tg tb := rfl
  rw [fB]
  have gB := goX (o := .ins T.C_Book dx (fsB tg tb)) (go gA sb)
  have nb : tb ≠ x := nx (sb _ _ eA) (by exact upd_same)
  have ng : tg ≠ x := nx eA tA
  have eB : (L2.upd (L2.upd M tb (.tup (qs.map V.ref))) x (.ins T.C_Book dx (fsB tg tb))) x = some (.ins T.C_Book dx (fsB tg tb)) := upd_same
  have tgB : (L2.upd (L2.upd M tb (.tup (qs.map V.ref))) x (.ins T.C_Book dx (fsB tg tb))) tg = some (.tup (gs.map V.str)) := by rw [upd_ne ng]; exact sb _ _ tA
  have tbB : (L2.upd (L2.upd M tb (.tup (qs.map V.ref))) x (.ins T.C_Book dx (fsB tg tb))) tb = some (.tup (qs.map V.ref)) := by rw [upd_ne nb]; exact upd_same
  have bB : BrsAt (L2.upd (L2.upd M tb (.tup (qs.map V.ref))) x (.ins T.C_Book dx (fsB tg tb))) qs bs := ⟨bM.1, fun i p b h1 h2 => by
    obtain ⟨a, q1, q2⟩ := (bM.2 i p b h1 h2).same (same_new htb (.tup (qs.map V.ref)))
    exact ⟨a, by rw [upd_ne (nx (sb _ _ eA) q1)]; exact q1, by rw [upd_ne (nx (sb _ _ eA) q2)]; exact q2⟩⟩
  generalize L2.upd (L2.upd M tb (.tup (qs.map V.ref))) x (.ins T.C_Book dx (fsB tg tb)) = MB at gB eB tgB tbB bB ⊢
  have gl := G.gl
  have bl := G.bl
  -- the numbers of the goods
  refine ⟨_, rfl, x, _, _, _, .ref tg, rfl, eB, T.cl_Book, T.na_Book_goods, rfl, true, tg, gs.map V.str, rfl, SqT.of tgB, fun dg hdg => ?_⟩
  refine dc_it walk_enumM (fun i M => Same MB M ∧ M dg = some (.dK (kvN (gs.take i)))) ⟨same_new hdg _, upd_same⟩ (fun i M _ z => SqT.of (z.1 _ _ tgB)) (fun i y M M' hi z y' => ?_) (fun MC z => ?_)
  · obtain ⟨C, u, v, rfl, nC, rfl, eu, ev⟩ := y'
    obtain ⟨good, hx', rfl⟩ := getM ev
    cases eu
    obtain ⟨sM', eM'⟩ := z
    have sC := same_new nC (.tup [.int (i : Nat), .str good])
    refine ⟨C, _, rfl, SqT.of upd_same, rfl, _, _, rfl, _, _, rfl, rfl, rfl, ?_⟩
    refine ⟨_, rfl, _, rfl, _, Sum.inr good, rfl, sC _ _ eM', ?_, same_put hdg (sM'.trans sC), ?_⟩
    · rw [kvN_len, List.length_take]; exact small1000 (by omega)
    · rw [upd_same, kvN_take G.gn hx']
  obtain ⟨sC, eC⟩ := z
  have lgs : (gs.map V.str).length = gs.length := List.length_map _
  rw [lgs, List.take_length] at eC
  refine ⟨_, rfl, x, T.C_Book, dx, _, rfl, sC _ _ eB, T.cl_Book, T.na_Book_good_numbers, by show 2 < 1000; decide, ?_⟩
  have fC : putF "_good_numbers" (V.ref dg) (fsB tg tb) = fsC tg tb dg := rfl
  rw [fC]
  have gC := goX (o := .ins T.C_Book dx (fsC tg tb dg)) (go gB sC)
  have xC := sC _ _ eB
  have ndg : dg ≠ x := nxd xC eC
  have eD : (L2.upd MC x (.ins T.C_Book dx (fsC tg tb dg))) x = some (.ins T.C_Book dx (fsC tg tb dg)) := upd_same
  have tgD : (L2.upd MC x (.ins T.C_Book dx (fsC tg tb dg))) tg = some (.tup (gs.map V.str)) := by rw [upd_ne ng]; exact sC _ _ tgB
  have tbD : (L2.upd MC x (.ins T.C_Book dx (fsC tg tb dg))) tb = some (.tup (qs.map V.ref)) := by rw [upd_ne nb]; exact sC _ _ tbB
  have dgD : (L2.upd MC x (.ins T.C_Book dx (fsC tg tb dg))) dg = some (.dK (kvN gs)) := by rw [upd_ne ndg]; exact eC
  have bD : BrsAt (L2.upd MC x (.ins T.C_Book dx (fsC tg tb dg))) qs bs := ⟨bB.1, fun i p b h1 h2 => by
    obtain ⟨a, q1, q2⟩ := (bB.2 i p b h1 h2).same sC
    exact ⟨a, by rw [upd_ne (nx xC q1)]; exact q1, by rw [upd_ne (nx xC q2)]; exact q2⟩⟩
  generalize L2.upd MC x (.ins T.C_Book dx (fsC tg tb dg)) = MD at gC eD tgD tbD dgD bD ⊢
  -- the numbers of the barters
  refine ⟨_, rfl, x, _, _, rfl, eD, rfl, x, dx, tb, _, qs, bs, rfl, eD, rfl, tbD, bD, bl, fun nl ME sE hnl enl => ⟨false, nl, (bs.map (·.1)).map V.str, rfl, SqL.of enl, fun db hdb => ?_⟩⟩
  refine dc_it walk_enumM (fun i M => Same ME M ∧ M db = some (.dK (kvN ((bs.map (·.1)).take i)))) ⟨same_new hdb _, upd_same⟩ (fun i M _ z => SqL.of (z.1 _ _ enl)) (fun i y M M' hi z y' => ?_) (fun MF z => ?_)
  · obtain ⟨C, u, v, rfl, nC, rfl, eu, ev⟩ := y'
    obtain ⟨name, hx', rfl⟩ := getM ev
    cases eu
    obtain ⟨sM', eM'⟩ := z
    have sC := same_new nC (.tup [.int (i : Nat), .str name])
    refine ⟨C, _, rfl, SqT.of upd_same, rfl, _, _, rfl, _, _, rfl, rfl, rfl, ?_⟩
    refine ⟨_, rfl, _, rfl, _, Sum.inr name, rfl, sC _ _ eM', ?_, same_put hdb (sM'.trans sC), ?_⟩
    · rw [kvN_len, List.length_take, List.length_map]; exact small1000 (by omega)
    · rw [upd_same, kvN_take G.bn hx']
  obtain ⟨sF, eF⟩ := z
  rw [show ((bs.map (·.1)).map V.str).length = (bs.map (·.1)).length from List.length_map _, List.take_length] at eF
  have sEF := sE.trans sF
  refine ⟨_, rfl, x, T.C_Book, dx, _, rfl, sEF _ _ eD, T.cl_Book, T.na_Book_barter_numbers, by show 3 < 1000; decide, ?_⟩
  have xF := sEF _ _ eD
  refine k _ (goX (go gC sEF)) ⟨dx, tg, tb, dg, db, qs, fr gB ndg hdg, fr gC (nxd xF eF) (sE.free hdb), upd_same, ?_, ?_, ⟨bD.1, fun i p b h1 h2 => ?_⟩, ?_, ?_⟩
  · rw [upd_ne ng]; exact sEF _ _ tgD
  · rw [upd_ne nb]; exact sEF _ _ tbD
  · obtain ⟨a, q1, q2⟩ := (bD.2 i p b h1 h2).same sEF
    exact ⟨a, by rw [upd_ne (nx xF q1)]; exact q1, by rw [upd_ne (nx xF q2)]; exact q2⟩
  · rw [upd_ne ndg]; exact sEF _ _ dgD
  · rw [upd_ne (nxd xF eF)]; exact eF
end
end My

namespace My
open PySem PySem.Spec PyProof.Rows L2
/-- tuples stay -/
def KT (M M' : Hp) : Prop := ∀ b xs, M b = some (.tup xs) → M' b = some (.tup xs)
theorem KT.refl {M : Hp} : KT M M := fun _ _ h => h
theorem KT.of {M M' : Hp} (h : Same M M') : KT M M' := fun b xs e => h _ _ e
theorem KT.trans {M M' M2 : Hp} (h : KT M M') (g : KT M' M2) : KT M M2 := fun b xs e => g _ _ (h _ _ e)
theorem KT.upd {M : Hp} {D : Addr} {ys : List V} {o : HO} (h : M D = some (.lst ys)) : KT M (L2.upd M D o) := fun b xs e => by
  rw [upd_ne (fun z => by rw [z, h] at e; cases e)]; exact e
theorem BrAt.kt {H H' : Hp} (e : KT H H') {p : Addr} {b : Br} (h : BrAt H p b) : BrAt H' p b := by
  obtain ⟨a, h1, h2⟩ := h
  exact ⟨a, e _ _ h1, e _ _ h2⟩
theorem BrsAt.kt {H H' : Hp} (e : KT H H') {ps : List Addr} {bs : List Br} (h : BrsAt H ps bs) : BrsAt H' ps bs := ⟨h.1, fun i p b h1 h2 => (h.2 i p b h1 h2).kt e⟩
/-- lists of things at addresses -/
def AllAt {α : Type} (R : Addr → α → Prop) (ps : List Addr) (xs : List α) : Prop := ps.length = xs.length ∧ ∀ (i : Nat) (p : Addr) (x : α), ps[i]? = some p → xs[i]? = some x → R p x
theorem AllAt.nil {α : Type} {R : Addr → α → Prop} : AllAt R [] [] := ⟨rfl, fun i p b h _ => by cases i <;> cases h⟩
theorem AllAt.snoc {α : Type} {R : Addr → α → Prop} {ps : List Addr} {xs : List α} {p : Addr} {x : α} (h : AllAt R ps xs) (hb : R p x) : AllAt R (ps ++ [p]) (xs ++ [x]) := by
  refine ⟨by rw [List.length_append, List.length_append, h.1]; rfl, fun i q c e1 e2 => ?_⟩
  by_cases l : i < ps.length
  · rw [List.getElem?_append_left l] at e1
    rw [List.getElem?_append_left (by rw [← h.1]; exact l)] at e2
    exact h.2 i q c e1 e2
  · rw [List.getElem?_append_right (by omega)] at e1
    rw [List.getElem?_append_right (by rw [← h.1]; omega), ← h.1] at e2
    obtain ⟨j, hj⟩ : ∃ j, i - ps.length = j := ⟨_, rfl⟩
    rw [hj] at e1 e2
    cases j with
    | zero => cases e1; cases e2; exact hb
    | succ j => cases e1
theorem AllAt.imp {α : Type} {R R' : Addr → α → Prop} {ps : List Addr} {xs : List α} (h : AllAt R ps xs) (f : ∀ p x, R p x → R' p x) : AllAt R' ps xs := ⟨h.1, fun i p x h1 h2 => f p x (h.2 i p x h1 h2)⟩
theorem AllAt.get {α : Type} {R : Addr → α → Prop} {ps : List Addr} {xs : List α} (h : AllAt R ps xs) {i : Nat} {p : Addr} (e : ps[i]? = some p) : ∃ x, xs[i]? = some x ∧ R p x := by
  have il : i < xs.length := by rw [← h.1]; exact (List.getElem?_eq_some_iff.mp e).1
  exact ⟨_, List.getElem?_eq_getElem il, h.2 i p _ e (List.getElem?_eq_getElem il)⟩
/-! ### deeds -/
abbrev Dd := Str × Int
def DeedAt (H : Hp) (d : Addr) (q : Dd) : Prop := H d = some (.tup [.str q.1, .int q.2])
def StepAt (H : Hp) (s : Addr) (q : Dd) : Prop := ∃ d b, H s = some (.tup [.ref d, .ref b]) ∧ DeedAt H d q
theorem StepAt.kt {H H' : Hp} (e : KT H H') {s : Addr} {q : Dd} (h : StepAt H s q) : StepAt H' s q := by
  obtain ⟨d, b, h1, h2⟩ := h
  exact ⟨d, b, e _ _ h1, e _ _ h2⟩
def waysN (j : Nat) : List Int := ([1, -1] : List Int).take j
def dueW (st : List Int) (b : Br) (ws : List Int) : List Dd := (ws.filter fun w => enoughB (combR 1 st w b.2)).map fun w => (b.1, w)
def dueL (st : List Int) (bs : List Br) : List Dd := bs.flatMap fun b => dueW st b [1, -1]
theorem dueW_len (st : List Int) (b : Br) (ws : List Int) : (dueW st b ws).length ≤ ws.length := by unfold dueW; rw [List.length_map]; exact List.length_filter_le _ _
theorem dueL_len (st : List Int) (bs : List Br) : (dueL st bs).length ≤ 2 * bs.length := by
  unfold dueL
  induction bs with
  | nil => exact Nat.le_refl _
  | cons b r ih =>
    rw [List.flatMap_cons, List.length_append, List.length_cons]
    have := dueW_len st b [1, -1]
    have h2 : ([1, -1] : List Int).length = 2 := rfl
    omega
theorem dueL_snoc (st : List Int) (bs : List Br) (b : Br) : dueL st (bs ++ [b]) = dueL st bs ++ dueW st b [1, -1] := by
  unfold dueL
  rw [List.flatMap_append, List.flatMap_cons, List.flatMap_nil, List.append_nil]
theorem dueW_snoc (st : List Int) (b : Br) (ws : List Int) (w : Int) : dueW st b (ws ++ [w]) = dueW st b ws ++ (if enoughB (combR 1 st w b.2) = true then [(b.1, w)] else []) := by
  unfold dueW
  rw [List.filter_append, List.map_append, List.filter_cons, List.filter_nil]
  split <;> rfl
end My

namespace My
open PySem PySem.Spec PyProof.Rows L2
/-! ### run_end, lexeme_at, scanned -/
def spRun : Sp := fun vs H Q _ => ∃ (z S : Str) (p : Nat), vs = [.str z, .int (p : Nat), .str S] ∧ z.length ≤ 100000 ∧ p ≤ z.length ∧ Q (.int ((p + runL (inS S) (z.cps.toList.drop p) : Nat) : Int)) H
/-- a lexeme at p, or none -/
def spLexAt : Sp := fun vs H Q _ => ∃ (z : Str) (p : Nat), vs = [.str z, .int (p : Nat)] ∧ z.length ≤ 100000 ∧ p < z.length ∧
  (lexL (z.cps.toList.drop p) = none → Q .non H) ∧
  ∀ (k : Str) (n : Nat) (a : Addr), lexL (z.cps.toList.drop p) = some (k, n) → H a = none → Q (.ref a) (upd H a (.tup (tkV (k, (z.cps.toList.drop p).take n, p))))
def spScanned : Sp := fun vs H Q _ => ∃ (z : Str), vs = [.str z] ∧ z.length ≤ 100000 ∧
  ∀ (a b : Addr) (xs : List V) (H' : Hp), Same H H' → H b = none → H' b = some (.lst xs) → Tks H' xs (scan z.cps.toList 0).1 →
    H' a = some (.tup [.ref b, .int (stopAt z.cps.toList (scan z.cps.toList 0).2 : Nat)]) → Q (.ref a) H'
theorem cut_at {z : Str} {p n : Nat} (h : p + n ≤ z.length) : cutS z (some (p : Int)) (some ((p + n : Nat) : Int)) = txt ((z.cps.toList.drop p).take n) := by
  have e1 : HT.sIx z.length 0 (some (p : Int)) = p := by
    show (if ((p : Int)) < 0 then ((p : Int) + (z.length : Int)).toNat else min ((p : Int)).toNat z.length) = p
    rw [if_neg (by omega)]
    omega
  have e2 : HT.sIx z.length z.length (some ((p + n : Nat) : Int)) = p + n := by
    show (if (((p + n : Nat) : Int)) < 0 then (((p + n : Nat) : Int) + (z.length : Int)).toNat else min (((p + n : Nat) : Int)).toNat z.length) = p + n
    rw [if_neg (by omega)]
    omega
  show (⟨((z.cps.toList.drop (HT.sIx z.length 0 (some (p : Int)))).take (HT.sIx z.length z.length (some ((p + n : Nat) : Int)) - HT.sIx z.length 0 (some (p : Int)))).toArray⟩ : Str) = _
  rw [e1, e2, Nat.add_sub_cancel_left]
  rfl
theorem of_zero {c : Nat} (h : V.str ⟨#[c]⟩ = V.str "0") : c = 48 := by
  have e0 : ("0" : Str) = ⟨#[48]⟩ := by decide +kernel
  rw [e0] at h
  have e2 : (⟨#[c]⟩ : Str) = ⟨#[48]⟩ := V.str.inj h
  have e3 : (#[c] : Array Nat) = #[48] := congrArg Str.cps e2
  have e4 : [c] = [48] := congrArg Array.toList e3
  exact (List.cons.inj e4).1
section
variable {P : Program} {w : World} {K : PySem.W.Frag} {mg : Str → Option Value} {base : Heap}
theorem get_at {z : Str} {p : Nat} (h : p < z.length) : ∃ c, atI z.cps.toList (p : Int) = some c ∧ z.cps.toList.drop p = c :: z.cps.toList.drop (p + 1) := by
  have hl : p < z.cps.toList.length := by rw [str_len]; exact h
  exact ⟨z.cps.toList[p], atI_nat (List.getElem?_eq_getElem hl), at_drop hl⟩
/-- the whole number in a slot -/
def intAt (i : Nat) (σ : L2.St) : Nat := match σ[i]? with
  | some (some (.int j)) => j.toNat
  | _ => 0
theorem ok_run_end (T : Tx K mg) : FnOk P w K mg base CX0 1 T.a_run_end T.fd_run_end ["text", "place", "signs"] spRun := by
  refine T.F_run_end.ok sc_run_end (fun vs H Q E h => ?_) (fun cdv A outer st H vs Q E hr h => ?_)
  · obtain ⟨z, S, p, rfl, _⟩ := h
    rfl
  obtain ⟨z, S, p0, rfl, hz, hp0, k⟩ := h
  refine ⟨_, ((pss_cons (ps_while PassesOwn.never (PW.pt (pw_and (pt_cmpR op_lt (pv 1) (pe_callB call_len_str (by rfl) T.n_len (by decide +kernel) (pa_cons (pv 0) pa_nil)) (nomark _)) (pw_and1 (pt_cmpR op_in_sign (pe_ix ix_str (pv 0) (pv 1) (fun _ _ => rfl)) (pv 2) (by rfl)))))
        (pss_one (ps_aug (i := 1) sc_run_end.nd rfl (Or.inl rfl) pe_int ip_add)))
      (pss_one (ps_ret (pv 1))))), ?_⟩
  refine while_b (fun σ' H' => ∃ p : Nat, σ' = [some (.str z), some (.int (p : Nat)), some (.str S)] ∧ H' = H ∧ p ≤ z.length ∧ p + runL (inS S) (z.cps.toList.drop p) = p0 + runL (inS S) (z.cps.toList.drop p0))
    (fun σ' _ => z.length - intAt 1 σ') ⟨p0, rfl, rfl, hp0, rfl⟩ ?_
  rintro σ' H' ⟨p, rfl, rfl, l1, e⟩
  by_cases hp : p < z.length
  · obtain ⟨c, ec, ed⟩ := get_at hp
    cases hc : inS S c with
    | true =>
      rw [ed, runL_yes hc] at e
      refine ⟨true, fun Q' q => ?_, iteT ?_⟩
      · refine ⟨_, rfl, _, rfl, z, rfl, sz6 hz, _, _, rfl, rfl, _, rfl, iteD (fun _ => ?_) (fun n => absurd (by omega) n)⟩
        refine ⟨_, rfl, _, rfl, z, _, c, rfl, rfl, sz6 hz, ec, _, rfl, c, S, rfl, rfl, _, rfl, ?_⟩
        have hc' : decide (c ∈ S.cps.toList) = true := hc
        rw [hc']
        exact q
      · refine ⟨_, rfl, _, _, rfl, rfl, ?_⟩
        have ep : ((p : Nat) : Int) + 1 = ((p + 1 : Nat) : Int) := by omega
        refine ⟨⟨p + 1, ?_, rfl, by omega, by omega⟩, ?_⟩
        · show [some (V.str z), some (V.int ((p : Nat) + 1)), some (V.str S)] = _
          rw [ep]
        · show z.length - (((p : Nat) : Int) + 1).toNat < z.length - ((p : Nat) : Int).toNat
          omega
    | false =>
      rw [ed, runL_no hc] at e
      refine ⟨false, fun Q' q => ?_, iteF ⟨_, rfl, by rw [← e] at k; exact k⟩⟩
      refine ⟨_, rfl, _, rfl, z, rfl, sz6 hz, _, _, rfl, rfl, _, rfl, iteD (fun _ => ?_) (fun n => absurd (by omega) n)⟩
      refine ⟨_, rfl, _, rfl, z, _, c, rfl, rfl, sz6 hz, ec, _, rfl, c, S, rfl, rfl, _, rfl, ?_⟩
      have hc' : decide (c ∈ S.cps.toList) = false := hc
      rw [hc']
      exact q
  · have e0 : z.cps.toList.drop p = [] := List.drop_eq_nil_of_le (by rw [str_len]; omega)
    rw [e0, runL_nil] at e
    refine ⟨false, fun Q' q => ?_, iteF ⟨_, rfl, by rw [← e] at k; exact k⟩⟩
    exact ⟨_, rfl, _, rfl, z, rfl, sz6 hz, _, _, rfl, rfl, _, rfl, iteD (fun n => absurd n (by omega)) (fun _ => q)⟩
theorem ok_law_run (T : Tx K mg) : FnOk P w K mg base CX0 1 T.a_law_run T.fd_law_run ["_law_text", "_law_place", "_law_signs"] spRun := by
  refine T.F_law_run.ok sc_law_run (fun vs H Q E h => ?_) (fun cdv A outer st H vs Q E hr h => ?_)
  · obtain ⟨z, S, p, rfl, _⟩ := h
    rfl
  obtain ⟨z, S, p0, rfl, hz, hp0, k⟩ := h
  refine ⟨_, ((pss_cons (ps_while PassesOwn.never (PW.pt (pw_and (pt_cmpR op_lt (pv 1) (pe_callB call_len_str (by rfl) T.n_len (by decide +kernel) (pa_cons (pv 0) pa_nil)) (nomark _)) (pw_and1 (pt_cmpR op_in_sign (pe_ix ix_str (pv 0) (pv 1) (fun _ _ => rfl)) (pv 2) (by rfl)))))
        (pss_one (ps_set (i := 1) sc_law_run.nd rfl (Or.inl rfl) (pe_op op_add (pv 1) pe_int))))
      (pss_one (ps_ret (pv 1))))), ?_⟩
  refine while_b (fun σ' H' => ∃ p : Nat, σ' = [some (.str z), some (.int (p : Nat)), some (.str S)] ∧ H' = H ∧ p ≤ z.length ∧ p + runL (inS S) (z.cps.toList.drop p) = p0 + runL (inS S) (z.cps.toList.drop p0))
    (fun σ' _ => z.length - intAt 1 σ') ⟨p0, rfl, rfl, hp0, rfl⟩ ?_
  rintro σ' H' ⟨p, rfl, rfl, l1, e⟩
  by_cases hp : p < z.length
  · obtain ⟨c, ec, ed⟩ := get_at hp
    cases hc : inS S c with
    | true =>
      rw [ed, runL_yes hc] at e
      refine ⟨true, fun Q' q => ?_, iteT ?_⟩
      · refine ⟨_, rfl, _, rfl, z, rfl, sz6 hz, _, _, rfl, rfl, _, rfl, iteD (fun _ => ?_) (fun n => absurd (by omega) n)⟩
        refine ⟨_, rfl, _, rfl, z, _, c, rfl, rfl, sz6 hz, ec, _, rfl, c, S, rfl, rfl, _, rfl, ?_⟩
        have hc' : decide (c ∈ S.cps.toList) = true := hc
        rw [hc']
        exact q
      · refine ⟨_, rfl, _, _, rfl, rfl, ?_⟩
        have ep : ((p : Nat) : Int) + 1 = ((p + 1 : Nat) : Int) := by omega
        refine ⟨⟨p + 1, ?_, rfl, by omega, by omega⟩, ?_⟩
        · show [some (V.str z), some (V.int ((p : Nat) + 1)), some (V.str S)] = _
          rw [ep]
        · show z.length - (((p : Nat) : Int) + 1).toNat < z.length - ((p : Nat) : Int).toNat
          omega
    | false =>
      rw [ed, runL_no hc] at e
      refine ⟨false, fun Q' q => ?_, iteF ⟨_, rfl, by rw [← e] at k; exact k⟩⟩
      refine ⟨_, rfl, _, rfl, z, rfl, sz6 hz, _, _, rfl, rfl, _, rfl, iteD (fun _ => ?_) (fun n => absurd (by omega) n)⟩
      refine ⟨_, rfl, _, rfl, z, _, c, rfl, rfl, sz6 hz, ec, _, rfl, c, S, rfl, rfl, _, rfl, ?_⟩
      have hc' : decide (c ∈ S.cps.toList) = false := hc
      rw [hc']
      exact q
  · have e0 : z.cps.toList.drop p = [] := List.drop_eq_nil_of_le (by rw [str_len]; omega)
    rw [e0, runL_nil] at e
    refine ⟨false, fun Q' q => ?_, iteF ⟨_, rfl, by rw [← e] at k; exact k⟩⟩
    exact ⟨_, rfl, _, rfl, z, rfl, sz6 hz, _, _, rfl, rfl, _, rfl, iteD (fun n => absurd n (by omega)) (fun _ => q)⟩
theorem ok_lexeme_at (T : Tx K mg) : FnOk P w K mg base CX0 2 T.a_lexeme_at T.fd_lexeme_at ["text", "place"] spLexAt := by
  refine T.F_lexeme_at.ok sc_lexeme_at (fun vs H Q E h => ?_) (fun cdv A outer st H vs Q E hr h => ?_)
  · obtain ⟨z, p, rfl, _⟩ := h
    rfl
  obtain ⟨z, p, rfl, hz, hp, kN, kS⟩ := h
  have G_run_end : FnOk P w K mg base CX0 1 T.a_run_end T.fd_run_end ["text", "place", "signs"] spRun := ok_run_end T
  have hr_run_end : Room 1 _ := hr
  refine ⟨_, ((pss_cons (ps_set (i := 2) sc_lexeme_at.nd rfl (Or.inl rfl) (pe_ix ix_str (pv 0) (pv 1) (fun _ _ => rfl)))
      (pss_cons (ps_if (pt_cmpR op_in_sign (pv 2) (pe_gstr rfl T.c_SIGNS) (by rfl))
        (pss_one (ps_ret (pe_tup (pa_cons pe_str (pa_cons (pv 2) (pa_cons (pv 1) pa_nil))))))
        pss_nil)
      (pss_cons (ps_if (pt_cmpR op_in_sign (pv 2) (pe_gstr rfl T.c_LETTERS) (by rfl))
        (pss_cons (ps_set (i := 3) sc_lexeme_at.nd rfl (Or.inl rfl) (pe_call G_run_end hr_run_end rfl T.m_run_end T.F_run_end.kp T.b_run_end .nil pass0 (pa_cons (pv 0) (pa_cons (pv 1) (pa_cons (pe_op op_add_str (pe_gstr rfl T.c_LETTERS) (pe_gstr rfl T.c_DIGITS)) pa_nil)))))
      (pss_one (ps_ret (pe_ifExp (pt_cmpR op_le (pe_op op_sub (pv 3) (pv 1)) (pe_gint rfl T.c_LONGEST_WORD) (nomark _)) (pe_tup (pa_cons pe_str (pa_cons (pe_slice sl_str (pv 0) (po_some (pv 1)) (po_some (pv 3))) (pa_cons (pv 1) pa_nil)))) pe_non))))
        pss_nil)
      (pss_cons (ps_if (pt_cmpR op_in_sign (pv 2) (pe_gstr rfl T.c_DIGITS) (by rfl))
        (pss_cons (ps_set (i := 3) sc_lexeme_at.nd rfl (Or.inl rfl) (pe_ifExp (pt_cmpR op_eq (pv 2) pe_str (nomark _)) (pe_op op_add (pv 1) pe_int) (pe_call G_run_end hr_run_end rfl T.m_run_end T.F_run_end.kp T.b_run_end .nil pass0 (pa_cons (pv 0) (pa_cons (pv 1) (pa_cons (pe_gstr rfl T.c_DIGITS) pa_nil))))))
      (pss_one (ps_ret (pe_tup (pa_cons pe_str (pa_cons (pe_slice sl_str (pv 0) (po_some (pv 1)) (po_some (pv 3))) (pa_cons (pv 1) pa_nil)))))))
        pss_nil)
      (pss_one (ps_ret pe_non))))))), ?_⟩
  obtain ⟨c, ec, ed⟩ := get_at hp
  rw [ed] at kN kS
  have le : ∀ q, runL q (c :: z.cps.toList.drop (p + 1)) ≤ z.length - p := fun q => by
    have l := runL_le q (c :: z.cps.toList.drop (p + 1))
    rw [← ed, List.length_drop, str_len, ed] at l
    exact l
  have lexIs : lexL (c :: z.cps.toList.drop (p + 1)) = lexC c (z.cps.toList.drop (p + 1)) := rfl
  refine ⟨_, rfl, _, rfl, z, _, c, rfl, rfl, sz6 hz, ec, ?_⟩
  refine ⟨_, rfl, c, _, rfl, rfl, _, rfl, iteD (fun h1 => ?_) (fun h1 => ?_)⟩
  · have h1' : inS SGN c = true := decide_eq_true h1
    refine ⟨_, rfl, _, rfl, (by show 3 ≤ sizeLine; decide), fun a ha => kS "sign" 1 a ?_ ha⟩
    rw [lexIs]; unfold lexC; rw [if_pos h1']
  have h1' : ¬ inS SGN c = true := fun z => h1 (of_decide_eq_true z)
  refine ⟨_, rfl, c, _, rfl, rfl, _, rfl, iteD (fun h2 => ?_) (fun h2 => ?_)⟩
  · have h2' : inS LTR c = true := decide_eq_true h2
    refine ⟨_, rfl, _, rfl, _, _, rfl, rfl, (by show 26 + 10 ≤ sizeLine; decide), z, LTR ++ DIG, p, rfl, hz, Nat.le_of_lt hp, ?_⟩
    rw [ed]
    have ln := le (inS (LTR ++ DIG))
    generalize hn : runL (inS (LTR ++ DIG)) (c :: z.cps.toList.drop (p + 1)) = n at ln
    refine ⟨_, rfl, _, rfl, _, _, rfl, rfl, _, _, rfl, rfl, _, rfl, iteD (fun h3 => ?_) (fun h3 => ?_)⟩
    · refine ⟨_, rfl, _, rfl, _, rfl, _, rfl, _, rfl, z, rfl, sz6 hz, ?_⟩
      rw [cut_at (by omega), ed]
      refine ⟨_, rfl, (by show 3 ≤ sizeLine; decide), fun a ha => kS "word" n a ?_ ha⟩
      rw [lexIs]; unfold lexC; rw [if_neg h1', if_pos h2', hn, if_pos (by omega)]
    · refine kN ?_
      rw [lexIs]; unfold lexC; rw [if_neg h1', if_pos h2', hn, if_neg (by omega)]
  have h2' : ¬ inS LTR c = true := fun z => h2 (of_decide_eq_true z)
  refine ⟨_, rfl, c, _, rfl, rfl, _, rfl, iteD (fun h3 => ?_) (fun h3 => ?_)⟩
  · have h3' : inS DIG c = true := decide_eq_true h3
    have lex3 : lexC c (z.cps.toList.drop (p + 1)) = some (("number" : Str), if c = 48 then 1 else runL (inS DIG) (c :: z.cps.toList.drop (p + 1))) := by
      unfold lexC; rw [if_neg h1', if_neg h2', if_pos h3']
    refine ⟨_, rfl, rfl, _, rfl, iteD (fun h4 => ?_) (fun h4 => ?_)⟩
    · have e4 := of_zero h4
      have ep : ((p : Nat) : Int) + 1 = ((p + 1 : Nat) : Int) := by omega
      refine ⟨_, rfl, _, _, rfl, rfl, ?_⟩
      refine ⟨_, rfl, _, rfl, _, rfl, _, rfl, _, rfl, z, rfl, sz6 hz, ?_⟩
      have ec : cutS z (some (p : Int)) (some ((p : Nat) + 1 : Int)) = txt ((c :: z.cps.toList.drop (p + 1)).take 1) := by
        rw [ep, cut_at (by omega), ed]
      refine ⟨_, rfl, (by show 3 ≤ sizeLine; decide), fun a ha => ?_⟩
      have q := kS "number" 1 a (by rw [lexIs, lex3, if_pos e4]) ha
      unfold tkV at q
      rw [← ec] at q
      exact q
    · have e4 : ¬ c = 48 := fun e => h4 (by rw [e]; decide +kernel)
      refine ⟨_, rfl, _, rfl, z, DIG, p, rfl, hz, Nat.le_of_lt hp, ?_⟩
      rw [ed]
      rw [if_neg e4] at lex3
      have ln := le (inS DIG)
      generalize hn : runL (inS DIG) (c :: z.cps.toList.drop (p + 1)) = n at ln lex3
      refine ⟨_, rfl, _, rfl, _, rfl, _, rfl, _, rfl, z, rfl, sz6 hz, ?_⟩
      rw [cut_at (by omega), ed]
      exact ⟨_, rfl, (by show 3 ≤ sizeLine; decide), fun a ha => kS "number" n a lex3 ha⟩
  · refine kN ?_
    rw [lexIs]; unfold lexC; rw [if_neg h1', if_neg h2', if_neg (fun z : inS DIG c = true => h3 (of_decide_eq_true z))]
theorem Tks.upd {H : Hp} {b : Addr} {o : HO} {xs : List V} {ts : List Tk} (h : Tks H xs ts) {ys : List V} (e : H b = some (.lst ys)) : Tks (L2.upd H b o) xs ts :=
  h.keep fun a zs q => by rw [upd_ne (ne_of q e (by intro z; cases z))]; exact q
theorem ok_scanned (T : Tx K mg) : FnOk P w K mg base CX0 3 T.a_scanned T.fd_scanned ["text"] spScanned := by
  refine T.F_scanned.ok sc_scanned (fun vs H Q E h => ?_) (fun cdv A outer st H vs Q E hr h => ?_)
  · obtain ⟨z, rfl, _⟩ := h
    rfl
  obtain ⟨z, rfl, hz, k⟩ := h
  have G_lexeme_at : FnOk P w K mg base CX0 2 T.a_lexeme_at T.fd_lexeme_at ["text", "place"] spLexAt := ok_lexeme_at T
  have hr_lexeme_at : Room 2 _ := hr
  refine ⟨_, ((pss_cons (ps_set (i := 1) sc_scanned.nd rfl (Or.inl rfl) (pe_lst pa_nil))
      (pss_cons (ps_set (i := 2) sc_scanned.nd rfl (Or.inl rfl) pe_int)
      (pss_cons (ps_while PassesOwn.never (pt_cmpR op_lt (pv 2) (pe_callB call_len_str (by rfl) T.n_len (by decide +kernel) (pa_cons (pv 0) pa_nil)) (nomark _))
        (pss_cons (ps_if (pt_cmpR op_in_sign (pe_ix ix_str (pv 0) (pv 2) (fun _ _ => rfl)) (pe_gstr rfl T.c_BLANKS) (by rfl))
        (pss_cons (ps_aug (i := 2) sc_scanned.nd rfl (Or.inl rfl) pe_int ip_add)
      (pss_one ps_continue))
        pss_nil)
      (pss_cons (ps_set (i := 3) sc_scanned.nd rfl (Or.inl rfl) (pe_call G_lexeme_at hr_lexeme_at rfl T.m_lexeme_at T.F_lexeme_at.kp T.b_lexeme_at .nil pass0 (pa_cons (pv 0) (pa_cons (pv 2) pa_nil))))
      (pss_cons (ps_if (pt_cmpR op_isN (pv 3) pe_non (nomark _))
        (pss_one (ps_ret (pe_tup (pa_cons (pv 1) (pa_cons (pv 2) pa_nil)))))
        pss_nil)
      (pss_cons (ps_expr (pe_bm PySem.F.plainAttrs_list PySem.F.slot_list_append PySem.F.type_list_append mt_append (pv 1) (pa_cons (pv 3) pa_nil)))
      (pss_one (ps_aug (i := 2) sc_scanned.nd rfl (Or.inl rfl) (pe_callB call_len_str (by rfl) T.n_len (by decide +kernel) (pa_cons (pe_ix (show IxR _ (rIxT K) from ix_tup) (pv 3) pe_int (fun _ _ => rfl)) pa_nil)) ip_add)))))))
      (pss_one (ps_ret (pe_tup (pa_cons (pv 1) (pa_cons (pv 2) pa_nil))))))))), ?_⟩
  refine ⟨Nat.zero_le _, fun b hb => ?_⟩
  refine while_b (fun σ H' => ∃ (p : Nat) (lx : Option V) (xs : List V) (ts : List Tk), σ = [some (.str z), some (.ref b), some (.int (p : Nat)), lx] ∧ Same H H' ∧ H' b = some (.lst xs) ∧ Tks H' xs ts ∧ p ≤ z.length ∧ ts.length ≤ p ∧
      ts ++ (scan (z.cps.toList.drop p) p).1 = (scan z.cps.toList 0).1 ∧ (scan (z.cps.toList.drop p) p).2 = (scan z.cps.toList 0).2)
    (fun σ _ => z.length - intAt 2 σ) ⟨0, none, [], [], rfl, same_new hb _, upd_same, .nil, Nat.zero_le _, Nat.le_refl _, rfl, rfl⟩ ?_
  rintro σ H1 ⟨p, lx, xs, ts, rfl, s1, eb, tk, hp, htp, e1, e2⟩
  have done : ∀ q : Nat, q = stopAt z.cps.toList (scan z.cps.toList 0).2 → ts = (scan z.cps.toList 0).1 → ∀ a, H1 a = none → Q (.ref a) (upd H1 a (.tup [.ref b, .int (q : Nat)])) := fun q eq et a ha => by
    have s2 := same_new ha (.tup [.ref b, .int (q : Nat)])
    refine k a b xs _ (s1.trans s2) hb (s2 _ _ eb) (by rw [← et]; exact tk.same s2) (by rw [← eq]; exact upd_same)
  by_cases hlt : p < z.length
  · obtain ⟨c, ec, ed⟩ := get_at hlt
    refine ⟨true, fun Q' q => ⟨_, rfl, _, rfl, z, rfl, sz6 hz, _, _, rfl, rfl, _, rfl, by rw [decide_eq_true (by omega : ((p : Nat) : Int) < (z.length : Int))]; exact q⟩, iteT ?_⟩
    rw [ed] at e1 e2
    refine ⟨_, rfl, _, rfl, z, _, c, rfl, rfl, sz6 hz, ec, c, BLK, rfl, rfl, _, rfl, iteD (fun hk => ?_) (fun hk => ?_)⟩
    · have hk' : inS BLK c = true := decide_eq_true hk
      rw [scan_blank hk'] at e1 e2
      have ep : ((p : Nat) : Int) + 1 = ((p + 1 : Nat) : Int) := by omega
      refine ⟨_, rfl, _, _, rfl, rfl, ⟨p + 1, lx, xs, ts, ?_, s1, eb, tk, hlt, by omega, e1, e2⟩, ?_⟩
      · show [some (V.str z), some (V.ref b), some (V.int ((p : Nat) + 1)), lx] = _
        rw [ep]
      · show z.length - (((p : Nat) : Int) + 1).toNat < z.length - ((p : Nat) : Int).toNat
        omega
    · have hk' : inS BLK c = false := decide_eq_false hk
      refine ⟨_, rfl, _, rfl, z, p, rfl, hz, hlt, fun en => ?_, fun kd n a en ha => ?_⟩
      · rw [ed] at en
        rw [scan_none hk' en] at e1 e2
        refine ⟨_, rfl, rfl, _, rfl, iteT ?_⟩
        refine ⟨_, rfl, _, rfl, (by show 2 ≤ sizeLine; decide), fun a ha => done p ?_ ?_ a ha⟩
        · rw [← e2]; rfl
        · rw [← e1, List.append_nil]
      · rw [ed] at en
        rw [scan_some hk' en] at e1 e2
        have ⟨n1, n2⟩ := lexL_pos en
        rw [← ed, List.length_drop, str_len] at n2
        refine ⟨_, rfl, rfl, _, rfl, iteF ?_⟩
        have s3 := same_new ha (.tup (tkV (kd, (z.cps.toList.drop p).take n, p)))
        have eb3 := s3 _ _ eb
        refine ⟨_, rfl, .inl ⟨rfl, _, SqL.of eb3⟩, _, rfl, b, xs, _, rfl, rfl, eb3, ?_, ?_⟩
        · rw [tk.length]; exact Nat.lt_of_lt_of_le (by omega : ts.length < 100001) (by rw [sizeLine_eq]; decide)
        have n3 : b ≠ a := ne_of_none eb ha
        have ea4 : upd (upd H1 a (.tup (tkV (kd, (z.cps.toList.drop p).take n, p)))) b (.lst (xs ++ [.ref a])) a = some (.tup (tkV (kd, (z.cps.toList.drop p).take n, p))) := by
          rw [upd_ne n3.symm]; exact upd_same
        have tk4 := (tk.same s3).upd (o := .lst (xs ++ [.ref a])) eb3
        have lt : (txt ((z.cps.toList.drop p).take n)).length = n := by
          rw [txt_len, List.length_take, List.length_drop, str_len]; omega
        refine ⟨_, rfl, _, rfl, a, _, _, _, rfl, rfl, SqT.of ea4, rfl, _, rfl, by rw [lt]; exact sz6 (by omega), _, _, rfl, rfl, ?_⟩
        rw [lt]
        refine ⟨⟨p + n, some (.ref a), xs ++ [.ref a], ts ++ [(kd, (z.cps.toList.drop p).take n, p)], ?_, ?_, upd_same, tk4.snoc ea4, by omega, ?_, ?_, ?_⟩, ?_⟩
        · show [some (V.str z), some (V.ref b), some (V.int ((p : Nat) + (n : Nat))), some (.ref a)] = _
          rfl
        · intro q u hq
          rw [upd_ne (ne_of_none hq hb)]
          exact s3 _ _ (s1 _ _ hq)
        · rw [List.length_append]; show ts.length + 1 ≤ p + n; omega
        · rw [List.append_assoc, ← e1, ← ed, List.drop_drop]; rfl
        · rw [← e2, ← ed, List.drop_drop]
        · show z.length - (((p : Nat) : Int) + (n : Int)).toNat < z.length - ((p : Nat) : Int).toNat
          omega
  · have ep : p = z.length := by omega
    have e0 : z.cps.toList.drop p = [] := List.drop_eq_nil_of_le (by rw [str_len]; omega)
    rw [e0, scan_nil] at e1 e2
    refine ⟨false, fun Q' q => ⟨_, rfl, _, rfl, z, rfl, sz6 hz, _, _, rfl, rfl, _, rfl, by rw [decide_eq_false (by omega : ¬ ((p : Nat) : Int) < (z.length : Int))]; exact q⟩, iteF ?_⟩
    refine ⟨_, rfl, _, rfl, (by show 2 ≤ sizeLine; decide), fun a ha => done p ?_ ?_ a ha⟩
    · rw [← e2]; show p = z.cps.toList.length; rw [str_len]; exact ep
    · rw [← e1, List.append_nil]
end
end My

namespace My
open PySem PySem.Spec PyProof.Rows L2
/-! ### lexemes, and what the law is told -/
theorem scanF_lt : ∀ (f : Nat) (t : List Nat) (p q : Nat), (scanF f t p).2 = some q → p ≤ q ∧ q < p + t.length
  | 0, _, _, _, h => nomatch h
  | _ + 1, [], _, _, h => nomatch h
  | f + 1, c :: r, p, q, h => by
    have l : (c :: r).length = r.length + 1 := rfl
    unfold scanF at h
    by_cases hb : inS BLK c = true
    · rw [if_pos hb] at h
      have := scanF_lt f r (p + 1) q h
      omega
    · rw [if_neg hb] at h
      cases e : lexL (c :: r) with
      | none =>
        rw [e] at h
        have h' : some p = some q := h
        cases h'
        omega
      | some kn =>
        obtain ⟨k, n⟩ := kn
        have ⟨n1, n2⟩ := lexL_pos e
        rw [e] at h
        have h' : (scanF f ((c :: r).drop n) (p + n)).2 = some q := h
        have := scanF_lt f _ _ _ h'
        rw [List.length_drop] at this
        omega
theorem scan_lt {t : List Nat} {q : Nat} (h : (scan t 0).2 = some q) : q < t.length := by
  have := scanF_lt _ _ _ _ h
  omega
section
variable {P : Program} {w : World} {K : PySem.W.Frag} {mg : Str → Option Value} {base : Heap}
theorem ok_badText (T : Tx K mg) : FnOk P w K mg base CX0 1 T.e_BadText.fI T.e_BadText.fd ["self", "place"] (spInit T.e_BadText.C "place") := by
  refine T.e_BadText.F.ok sc_BadText (fun vs H Q E h => ?_) (fun cdv A outer st H vs Q E hr h => ?_)
  · obtain ⟨a, v, rfl, _⟩ := h
    rfl
  obtain ⟨a, v, rfl, ha, k⟩ := h
  refine ⟨_, pss_one (ps_ost (pv 0) (pv 1)), ?_⟩
  exact ⟨_, rfl, _, rfl, a, _, rfl, T.e_BadText.oex, T.e_BadText.noF, .inl ⟨ha, fun dx h1 h2 => k dx h1 h2⟩⟩
end
end My

namespace My
open PySem PySem.Spec PyProof.Rows L2
abbrev AL36 : Str := "abcdefghijklmnopqrstuvwxyz0123456789"
/-! ### the law's own look at words -/
def headL : List Nat → Bool
  | [] => false
  | c :: _ => decide (97 ≤ c) && decide (c ≤ 122)
def wordL (l : List Nat) : Bool := decide (1 ≤ l.length) && decide (l.length ≤ 12) && headL l && l.all (inS AL36)
def spIsWord : Sp := fun vs H Q _ => ∃ z : Str, vs = [.str z] ∧ z.length ≤ 100000 ∧ ∀ H', Same H H' → Q (.bl (wordL z.cps.toList)) H'
theorem low_one (c d : Nat) : (decide (([c] : List Nat) < [d])) = decide (c < d) := by
  refine decide_eq_decide.mpr ?_
  rw [List.cons_lt_cons_iff]
  constructor
  · rintro (h | ⟨_, h⟩)
    · exact h
    · exact absurd h (by simp)
  · exact .inl
theorem cps_a : ("a" : Str).cps.toList = [97] := by decide +kernel
theorem cps_z : ("z" : Str).cps.toList = [122] := by decide +kernel
theorem eqv_ones (n : Nat) : PyData.eqv (.list (List.replicate n (.int 1))) (.list []) = decide (n = 0) := by
  cases n with
  | zero => rfl
  | succ n =>
    show PyData.eqvAll (List.replicate (n + 1) (.int 1)) [] = _
    rw [List.replicate_succ]
    rfl
theorem dp_ones {K : PySem.W.Frag} {H : Hp} : ∀ n : Nat, DpAll K H (List.replicate n (V.int 1)) (List.replicate n (.int 1))
  | 0 => .nil
  | n + 1 => by
    rw [List.replicate_succ, List.replicate_succ]
    exact .cons (.int 1) (dp_ones n)
theorem shaped_list {ds : List PyData} (h : PyData.canLayAll0 ds = true) (k : PyData.depthAll ds ≤ 60) : SeqAt.shaped (.list ds) = true := by
  show (PyData.canLayAll0 ds && decide (PyData.depthAll ds + 1 ≤ 64)) = true
  rw [h, decide_eq_true (by omega : PyData.depthAll ds + 1 ≤ 64)]
  rfl
theorem shaped_ones (n : Nat) : SeqAt.shaped (.list (List.replicate n (.int 1))) = true := by
  have q : PyData.canLayAll0 (List.replicate n (.int 1)) = true ∧ PyData.depthAll (List.replicate n (.int 1)) = 0 := by
    induction n with
    | zero => exact ⟨rfl, rfl⟩
    | succ n ih =>
      rw [List.replicate_succ]
      refine ⟨?_, ?_⟩
      · show (true && PyData.canLayAll0 (List.replicate n (.int 1))) = true
        rw [ih.1]; rfl
      · show max 0 (PyData.depthAll (List.replicate n (.int 1))) = 0
        rw [ih.2]; rfl
  exact shaped_list q.1 (by rw [q.2]; decide)
def badL (l : List Nat) : Nat := (l.filter fun c => !inS AL36 c).length
theorem badL_zero (l : List Nat) : decide (badL l = 0) = l.all (inS AL36) := by
  rw [Bool.eq_iff_iff, decide_eq_true_iff, List.all_eq_true]
  unfold badL
  rw [List.length_eq_zero_iff, List.filter_eq_nil_iff]
  constructor
  · intro h c hc
    have := h c hc
    cases e : inS AL36 c with
    | true => rfl
    | false => rw [e] at this; exact absurd rfl this
  · intro h c hc
    rw [h c hc]
    exact Bool.false_ne_true
theorem bad_snoc {l : List Nat} {i c : Nat} (h : l[i]? = some c) : badL (l.take (i + 1)) = badL (l.take i) + (if inS AL36 c = true then 0 else 1) := by
  have hi : i < l.length := (List.getElem?_eq_some_iff.mp h).1
  have ec : l[i] = c := (List.getElem?_eq_some_iff.mp h).2
  unfold badL
  rw [List.take_succ_eq_append_getElem hi, List.filter_append, List.length_append, ec]
  congr 1
  cases e : inS AL36 c <;> simp [e]
section
variable {P : Program} {w : World} {K : PySem.W.Frag} {mg : Str → Option Value} {base : Heap}
theorem ok_law_word (T : Tx K mg) : FnOk P w K mg base CX0 1 T.a_law_is_word T.fd_law_is_word ["_law_value"] spIsWord := by
  refine T.F_law_is_word.ok sc_law_is_word (fun vs H Q E h => ?_) (fun cdv A outer st H vs Q E hr h => ?_)
  · obtain ⟨z, rfl, _⟩ := h
    rfl
  obtain ⟨z, rfl, hz, k⟩ := h
  refine ⟨_, ((pss_cons (ps_if (PW.pt (pw_or (pt_not (pt_val (pe_callB (show CallR _ (.builtin "isinstance") (rIsi K) from call_isi) (by rfl) T.n_isinstance (by decide +kernel) (pa_cons (pv 0) (pa_cons (pe_bltn (v := .ty "str") (by rfl) T.n_str (by decide +kernel) rfl) pa_nil))))) (pw_or (pt_not (pt_chain op_le op_le pe_int (pe_callB call_len_str (by rfl) T.n_len (by decide +kernel) (pa_cons (pv 0) pa_nil)) pe_int)) (pw_or1 (pt_not (pt_chain op_le_str op_le_str pe_str (pe_ix ix_str (pv 0) pe_int (fun _ _ => rfl)) pe_str))))))
        (pss_one (ps_ret pe_bl))
        pss_nil)
      (pss_one (ps_ret (pe_cmpR (op_eqD hr.units) (pe_lc (own := [("_law_sign", 1)]) (by rfl) sc_law_is_word.nd (pi_str (pv 0)) (blkOk_by (own := [("_law_sign", 1)]) (N := ["_law_value", "_law_sign"]) (sc := defScope s_law_is_word) (by decide +kernel)) (fun _ _ _ _ _ => pg_name (i := 1) sc_law_is_word.nd rfl (Or.inl rfl)) (fun _ _ _ _ _ => (pts_one (pt_cmpR op_notIn_sign (pv 1) pe_str (by rfl)))) (fun _ _ _ _ _ => pe_int)) (pe_lst pa_nil) (nomark _)))))), ?_⟩
  have no : ∀ b : Bool, b = wordL z.cps.toList → Q (.bl b) H := fun b e => by rw [e]; exact k H fun _ _ q => q
  refine ⟨_, rfl, .str z, .ty "str", .type "str", .type "str", true, rfl, .ty _, .base (.str z), kit_ty (r := true) (by decide +kernel), _, rfl, ?_⟩
  have e1 : wordL z.cps.toList = (decide (1 ≤ z.length) && decide (z.length ≤ 12) && headL z.cps.toList && z.cps.toList.all (inS AL36)) := by unfold wordL; rw [str_len]
  by_cases hl : 1 ≤ z.length
  · refine ⟨_, rfl, z, rfl, sz6 hz, _, _, rfl, rfl, _, rfl, ?_⟩
    rw [decide_eq_true (by omega : (1 : Int) ≤ (z.length : Int))]
    refine iteT ⟨_, _, rfl, rfl, _, rfl, ?_⟩
    by_cases h2 : z.length ≤ 12
    · rw [decide_eq_true (by omega : (z.length : Int) ≤ 12)]
      obtain ⟨c, ec, ed⟩ := get_at (z := z) (p := 0) hl
      have ez : z.cps.toList = c :: z.cps.toList.drop 1 := ed
      refine ⟨_, rfl, z, _, c, rfl, rfl, sz6 hz, ec, _, _, rfl, rfl, _, rfl, ?_⟩
      rw [cps_a, low_one]
      by_cases h3 : 97 ≤ c
      · rw [decide_eq_false (by omega : ¬ c < 97)]
        refine iteT ⟨_, _, rfl, rfl, _, rfl, ?_⟩
        rw [cps_z, low_one]
        by_cases h4 : c ≤ 122
        · rw [decide_eq_false (by omega : ¬ 122 < c)]
          show if false = true then _ else _
          refine iteF ?_
          have eh : headL z.cps.toList = true := by
            rw [ez]
            show (decide (97 ≤ c) && decide (c ≤ 122)) = true
            rw [decide_eq_true h3, decide_eq_true h4]
            rfl
          have ew : wordL z.cps.toList = decide (badL z.cps.toList = 0) := by
            rw [e1, decide_eq_true hl, decide_eq_true h2, eh, badL_zero]
            rfl
          refine ⟨_, rfl, z, rfl, fun D hD => ?_⟩
          refine lc_str (fun i M => Same H M ∧ M D = some (.lst (List.replicate (badL (z.cps.toList.take i)) (.int 1)))) ⟨same_new hD _, upd_same⟩ ?_ ?_
          · rintro i c' M hi ⟨sM, eM⟩
            have eb := bad_snoc hi
            have lb : badL (z.cps.toList.take i) ≤ 100000 := by
              have := List.length_filter_le (fun c => !inS AL36 c) (z.cps.toList.take i)
              rw [List.length_take, str_len] at this
              unfold badL
              omega
            refine ⟨rfl, _, rfl, c', AL36, rfl, rfl, _, rfl, ?_⟩
            have hc : decide (c' ∈ AL36.cps.toList) = inS AL36 c' := rfl
            rw [hc]
            cases hv : inS AL36 c' with
            | true =>
              rw [hv] at eb
              exact iteF ⟨sM, by rw [eb]; exact eM⟩
            | false =>
              rw [hv] at eb
              refine iteT ⟨_, eM, ?_, ?_, ?_⟩
              · rw [List.length_replicate, sizeLine_eq]; omega
              · intro b o e
                rw [upd_ne (ne_of_none e hD)]
                exact sM b o e
              · rw [upd_same, eb]
                exact congrArg (fun l => some (HO.lst l)) (List.replicate_succ' ..).symm
          · rintro M ⟨sM, eM⟩
            have ef : z.cps.toList.take z.length = z.cps.toList := by rw [← str_len, List.take_length]
            rw [ef] at eM
            refine ⟨Nat.zero_le _, fun p hp => ?_⟩
            have s2 := same_new hp (.lst [])
            refine ⟨_, _, Dp.lst (SqL.of (s2 _ _ eM)) (dp_ones _), Dp.lst (SqL.of upd_same) .nil, shaped_ones _, rfl, ?_⟩
            rw [eqv_ones, ← ew]
            exact k _ (sM.trans s2)
        · rw [decide_eq_true (by omega : 122 < c)]
          refine iteT (no false ?_)
          rw [e1, ez]
          show false = (_ && _ && (decide (97 ≤ c) && decide (c ≤ 122)) && _)
          rw [decide_eq_false h4, Bool.and_false, Bool.and_false, Bool.false_and]
      · rw [decide_eq_true (by omega : c < 97)]
        refine iteF ⟨_, rfl, no false ?_⟩
        rw [e1, ez]
        show false = (_ && _ && (decide (97 ≤ c) && decide (c ≤ 122)) && _)
        rw [decide_eq_false h3, Bool.false_and, Bool.and_false, Bool.false_and]
    · rw [decide_eq_false (by omega : ¬ (z.length : Int) ≤ 12)]
      refine no false ?_
      rw [e1, decide_eq_false h2, Bool.and_false, Bool.false_and, Bool.false_and]
  · refine ⟨_, rfl, z, rfl, sz6 hz, _, _, rfl, rfl, _, rfl, ?_⟩
    rw [decide_eq_false (by omega : ¬ (1 : Int) ≤ (z.length : Int))]
    refine iteF ⟨_, rfl, no false ?_⟩
    rw [e1, decide_eq_false hl, Bool.false_and, Bool.false_and, Bool.false_and]
end
end My

namespace My
open PySem PySem.Spec PyProof.Rows L2
/-! ### the law's own lexemes -/
def sortOf (t : Str) : Str := if t = "W" then "word" else if t = "N" then "number" else "sign"
/-- what stands at p: the end, no lexeme, a lexeme -/
structure LexSt (z : Str) (p : Nat) (tag tx : Str) : Prop where
  le : p ≤ z.length
  cases_ : (p = z.length ∧ tag = "END" ∧ tx = "") ∨ (∃ c, p < z.length ∧ z.cps.toList.drop p = c :: z.cps.toList.drop (p + 1) ∧ inS BLK c = false ∧
    ((lexL (z.cps.toList.drop p) = none ∧ tag = "none" ∧ tx = "") ∨ ∃ k n, lexL (z.cps.toList.drop p) = some (k, n) ∧ tag ≠ "END" ∧ tag ≠ "none" ∧ sortOf tag = k ∧ tx = txt ((z.cps.toList.drop p).take n) ∧ (k = "sign" → tag = tx)))
def spLexeme : Sp := fun vs H Q _ => ∃ (z : Str) (p : Nat), vs = [.str z, .int (p : Nat)] ∧ z.length ≤ 100000 ∧ p ≤ z.length ∧
  ∀ (a : Addr) (H' : Hp) (tag tx : Str), Same H H' → H a = none → LexSt z (p + runL (inS BLK) (z.cps.toList.drop p)) tag tx →
    H' a = some (.lst [.str tag, .str tx, .int ((p + runL (inS BLK) (z.cps.toList.drop p) : Nat) : Int)]) → Q (.ref a) H'
theorem scan_skip : ∀ (t : List Nat) (p : Nat), scan t p = scan (t.drop (runL (inS BLK) t)) (p + runL (inS BLK) t)
  | [], _ => rfl
  | c :: r, p => by
    cases h : inS BLK c with
    | true =>
      rw [scan_blank h, runL_yes h, scan_skip r (p + 1)]
      have e : p + 1 + runL (inS BLK) r = p + (runL (inS BLK) r + 1) := by omega
      rw [e]
      rfl
    | false => rw [runL_no h]; rfl
/-- behind a run no sign of it stands -/
theorem run_ends {q : Nat → Bool} : ∀ {t : List Nat} {c : Nat} {r : List Nat}, t.drop (runL q t) = c :: r → q c = false
  | [], c, r, h => by rw [runL_nil] at h; cases h
  | d :: t, c, r, h => by
    cases e : q d with
    | true =>
      rw [runL_yes e] at h
      exact run_ends (t := t) h
    | false =>
      rw [runL_no e] at h
      cases h
      exact e
theorem run_all {q : Nat → Bool} : ∀ t : List Nat, (t.take (runL q t)).all q = true
  | [] => rfl
  | d :: t => by
    cases e : q d with
    | true =>
      rw [runL_yes e, List.take_succ_cons, List.all_cons, e, run_all t]
      rfl
    | false => rw [runL_no e]; rfl
theorem dig_no_ltr {c : Nat} (h : inS DIG c = true) : inS LTR c = false := by
  have h : c ∈ DIG.cps.toList := of_decide_eq_true h
  have e : DIG.cps.toList = [48, 49, 50, 51, 52, 53, 54, 55, 56, 57] := by decide +kernel
  rw [e] at h
  simp only [List.mem_cons, List.not_mem_nil, or_false] at h
  rcases h with rfl | rfl | rfl | rfl | rfl | rfl | rfl | rfl | rfl | rfl <;> decide +kernel
theorem ltr_range {c : Nat} (h : inS LTR c = true) : 97 ≤ c ∧ c ≤ 122 := by
  have h : c ∈ LTR.cps.toList := of_decide_eq_true h
  have e : LTR.cps.toList = [97, 98, 99, 100, 101, 102, 103, 104, 105, 106, 107, 108, 109, 110, 111, 112, 113, 114, 115, 116, 117, 118, 119, 120, 121, 122] := by decide +kernel
  rw [e] at h
  simp only [List.mem_cons, List.not_mem_nil, or_false] at h
  omega
theorem al_same (c : Nat) : inS (LTR ++ DIG) c = inS AL36 c := by
  have e : LTR ++ DIG = AL36 := by decide +kernel
  rw [e]
/-- the run of letters and figures at c, where c is neither a sign nor a figure -/
theorem word_is {c : Nat} {r : List Nat} (h1 : inS SGN c = false) (h3 : inS DIG c = false) : lexL (c :: r) = if wordL ((c :: r).take (runL (inS (LTR ++ DIG)) (c :: r))) = true then some (("word" : Str), runL (inS (LTR ++ DIG)) (c :: r)) else none := by
  show lexC c r = _
  unfold lexC
  rw [h1, h3]
  cases h2 : inS LTR c with
  | false =>
    have e : inS (LTR ++ DIG) c = false := by rw [in_cat, h2, h3]; rfl
    rw [runL_no e]
    rfl
  | true =>
    have e : inS (LTR ++ DIG) c = true := by rw [in_cat, h2]; rfl
    have le := runL_le (inS (LTR ++ DIG)) (c :: r)
    have al := run_all (q := inS (LTR ++ DIG)) (c :: r)
    have n1 : runL (inS (LTR ++ DIG)) (c :: r) = runL (inS (LTR ++ DIG)) r + 1 := runL_yes e
    generalize hn : runL (inS (LTR ++ DIG)) (c :: r) = n at le al n1
    have ew : wordL ((c :: r).take n) = decide (n ≤ 12) := by
      have hl : ((c :: r).take n).length = n := by rw [List.length_take]; omega
      have hh : headL ((c :: r).take n) = true := by
        rw [n1, List.take_succ_cons]
        have ⟨a, b⟩ := ltr_range h2
        show (decide (97 ≤ c) && decide (c ≤ 122)) = true
        rw [decide_eq_true a, decide_eq_true b]
        rfl
      have ha : ((c :: r).take n).all (inS AL36) = true := by
        rw [List.all_eq_true] at al ⊢
        intro x hx
        rw [← al_same]
        exact al x hx
      unfold wordL
      rw [hl, hh, ha, decide_eq_true (by omega : 1 ≤ n)]
      cases decide (n ≤ 12) <;> rfl
    rw [ew]
    show (if n ≤ 12 then _ else _) = if decide (n ≤ 12) = true then _ else _
    by_cases h : n ≤ 12
    · rw [if_pos h, if_pos (decide_eq_true h)]
    · rw [if_neg h, if_neg (by rw [decide_eq_false h]; exact Bool.false_ne_true)]
theorem sign_tag {c : Nat} (h : inS SGN c = true) : (⟨#[c]⟩ : Str) ≠ "END" ∧ (⟨#[c]⟩ : Str) ≠ "none" ∧ sortOf ⟨#[c]⟩ = "sign" := by
  have h : c ∈ SGN.cps.toList := of_decide_eq_true h
  have e : SGN.cps.toList = [40, 41, 123, 125, 44, 59] := by decide +kernel
  rw [e] at h
  simp only [List.mem_cons, List.not_mem_nil, or_false] at h
  rcases h with rfl | rfl | rfl | rfl | rfl | rfl <;> decide +kernel
section
variable {P : Program} {w : World} {K : PySem.W.Frag} {mg : Str → Option Value} {base : Heap}
theorem ok_lexeme (T : Tx K mg) : FnOk P w K mg base CX0 2 T.a_law_lexeme T.fd_law_lexeme ["_law_text", "_law_place"] spLexeme := by
  refine T.F_law_lexeme.ok sc_law_lexeme (fun vs H Q E h => ?_) (fun cdv A outer st H vs Q E hr h => ?_)
  · obtain ⟨z, p, rfl, _⟩ := h
    rfl
  obtain ⟨z, p0, rfl, hz, hp0, k⟩ := h
  have G_law_run : FnOk P w K mg base CX0 1 T.a_law_run T.fd_law_run ["_law_text", "_law_place", "_law_signs"] spRun := ok_law_run T
  have hr_law_run : Room 1 _ := hr
  have G_law_is_word : FnOk P w K mg base CX0 1 T.a_law_is_word T.fd_law_is_word ["_law_value"] spIsWord := ok_law_word T
  have hr_law_is_word : Room 1 _ := hr
  refine ⟨_, ((pss_cons (ps_set (i := 2) sc_law_lexeme.nd rfl (Or.inl rfl) pe_str)
      (pss_cons (ps_set (i := 1) sc_law_lexeme.nd rfl (Or.inl rfl) (pe_call G_law_run hr_law_run rfl T.m_law_run T.F_law_run.kp T.b_law_run .nil pass0 (pa_cons (pv 0) (pa_cons (pv 1) (pa_cons pe_str pa_nil)))))
      (pss_cons (ps_if (pt_cmpR op_eq (pv 1) (pe_callB call_len_str (by rfl) T.n_len (by decide +kernel) (pa_cons (pv 0) pa_nil)) (nomark _))
        (pss_one (ps_ret (pe_lst (pa_cons pe_str (pa_cons pe_str (pa_cons (pv 1) pa_nil))))))
        pss_nil)
      (pss_cons (ps_if (pt_cmpR op_in_sign (pe_ix ix_str (pv 0) (pv 1) (fun _ _ => rfl)) pe_str (by rfl))
        (pss_one (ps_ret (pe_lst (pa_cons (pe_ix ix_str (pv 0) (pv 1) (fun _ _ => rfl)) (pa_cons (pe_ix ix_str (pv 0) (pv 1) (fun _ _ => rfl)) (pa_cons (pv 1) pa_nil))))))
        pss_nil)
      (pss_cons (ps_if (pt_cmpR op_in_sign (pe_ix ix_str (pv 0) (pv 1) (fun _ _ => rfl)) (pv 2) (by rfl))
        (pss_cons (ps_set (i := 3) sc_law_lexeme.nd rfl (Or.inl rfl) (pe_ifExp (pt_cmpR op_eq (pe_ix ix_str (pv 0) (pv 1) (fun _ _ => rfl)) pe_str (nomark _)) (pe_op op_add (pv 1) pe_int) (pe_call G_law_run hr_law_run rfl T.m_law_run T.F_law_run.kp T.b_law_run .nil pass0 (pa_cons (pv 0) (pa_cons (pv 1) (pa_cons (pv 2) pa_nil))))))
      (pss_one (ps_ret (pe_lst (pa_cons pe_str (pa_cons (pe_slice sl_str (pv 0) (po_some (pv 1)) (po_some (pv 3))) (pa_cons (pv 1) pa_nil)))))))
        pss_nil)
      (pss_cons (ps_set (i := 4) sc_law_lexeme.nd rfl (Or.inl rfl) (pe_slice sl_str (pv 0) (po_some (pv 1)) (po_some (pe_call G_law_run hr_law_run rfl T.m_law_run T.F_law_run.kp T.b_law_run .nil pass0 (pa_cons (pv 0) (pa_cons (pv 1) (pa_cons (pe_op op_add_str pe_str (pv 2)) pa_nil)))))))
      (pss_one (ps_ret (pe_ifExp (pt_val (pe_call G_law_is_word hr_law_is_word rfl T.m_law_is_word T.F_law_is_word.kp T.b_law_is_word .nil pass0 (pa_cons (pv 4) pa_nil))) (pe_lst (pa_cons pe_str (pa_cons (pv 4) (pa_cons (pv 1) pa_nil)))) (pe_lst (pa_cons pe_str (pa_cons pe_str (pa_cons (pv 1) pa_nil)))))))))))))), ?_⟩
  have lr := runL_le (inS BLK) (z.cps.toList.drop p0)
  rw [List.length_drop, str_len] at lr
  have ends : ∀ c r, z.cps.toList.drop (p0 + runL (inS BLK) (z.cps.toList.drop p0)) = c :: r → inS BLK c = false := fun c r e => by
    rw [← List.drop_drop] at e
    exact run_ends e
  refine ⟨_, rfl, _, rfl, z, BLK, p0, rfl, hz, hp0, ?_⟩
  generalize hp : p0 + runL (inS BLK) (z.cps.toList.drop p0) = p at k ends
  have hpl : p ≤ z.length := by omega
  have mk : ∀ (tag tx : Str), LexSt z p tag tx → ∀ a, H a = none → Q (.ref a) (L2.upd H a (.lst [.str tag, .str tx, .int (p : Nat)])) := fun tag tx st a ha => k a _ tag tx (same_new ha _) ha st upd_same
  refine ⟨_, rfl, _, rfl, z, rfl, sz6 hz, rfl, _, rfl, iteD (fun h => ?_) (fun h => ?_)⟩
  · refine ⟨_, rfl, (by show 3 ≤ sizeLine; decide), fun a ha => mk "END" "" ⟨hpl, .inl ⟨?_, rfl, rfl⟩⟩ a ha⟩
    have e := V.int.inj h
    omega
  have hlt : p < z.length := by
    rcases Nat.lt_or_ge p z.length with l | l
    · exact l
    · exact absurd (congrArg V.int (by omega : ((p : Nat) : Int) = (z.length : Int))) h
  obtain ⟨c, ec, ed⟩ := get_at hlt
  have hb := ends c _ ed
  have le : ∀ q, runL q (c :: z.cps.toList.drop (p + 1)) ≤ z.length - p := fun q => by
    have l := runL_le q (c :: z.cps.toList.drop (p + 1))
    rw [← ed, List.length_drop, str_len, ed] at l
    exact l
  have found : ∀ (kd : Str) (n : Nat) (tag tx : Str), lexL (z.cps.toList.drop p) = some (kd, n) → tag ≠ "END" → tag ≠ "none" → sortOf tag = kd → tx = txt ((z.cps.toList.drop p).take n) → (kd = "sign" → tag = tx) → LexSt z p tag tx :=
    fun kd n tag tx h1 h2 h3 h4 h5 h6 => ⟨hpl, .inr ⟨c, hlt, ed, hb, .inr ⟨kd, n, h1, h2, h3, h4, h5, h6⟩⟩⟩
  refine ⟨_, rfl, _, rfl, z, _, c, rfl, rfl, sz6 hz, ec, c, SGN, rfl, rfl, _, rfl, iteD (fun h1 => ?_) (fun h1 => ?_)⟩
  · have h1' : inS SGN c = true := decide_eq_true h1
    have ⟨t1, t2, t3⟩ := sign_tag h1'
    refine ⟨_, rfl, _, rfl, z, _, c, rfl, rfl, sz6 hz, ec, _, rfl, _, rfl, z, _, c, rfl, rfl, sz6 hz, ec, _, rfl, (by show 3 ≤ sizeLine; decide), fun a ha => mk _ _ (found "sign" 1 _ _ ?_ t1 t2 t3 ?_ (fun _ => rfl)) a ha⟩
    · rw [ed]; show lexC c _ = _; unfold lexC; rw [if_pos h1']
    · rw [ed]; rfl
  have h1' : inS SGN c = false := decide_eq_false h1
  have fin : ∀ (n : Nat) (σ' : L2.St), n ≤ z.length - p → cutS z (some (p : Int)) (some ((p + n : Nat) : Int)) = txt ((z.cps.toList.drop p).take n) := fun n _ l => cut_at (by omega)
  refine ⟨_, rfl, _, rfl, z, _, c, rfl, rfl, sz6 hz, ec, _, rfl, c, DIG, rfl, rfl, _, rfl, iteD (fun h3 => ?_) (fun h3 => ?_)⟩
  · have h3' : inS DIG c = true := decide_eq_true h3
    have h2' : inS LTR c = false := dig_no_ltr h3'
    have lex3 : lexL (z.cps.toList.drop p) = some (("number" : Str), if c = 48 then 1 else runL (inS DIG) (c :: z.cps.toList.drop (p + 1))) := by
      rw [ed]
      show lexC c _ = _
      unfold lexC
      rw [h1', h2', h3', if_neg Bool.false_ne_true, if_neg Bool.false_ne_true, if_pos rfl]
    have sN : sortOf "N" = "number" := by decide +kernel
    refine ⟨_, rfl, _, rfl, z, _, c, rfl, rfl, sz6 hz, ec, rfl, _, rfl, iteD (fun h4 => ?_) (fun h4 => ?_)⟩
    · have e4 := of_zero h4
      have ep : ((p : Nat) : Int) + 1 = ((p + 1 : Nat) : Int) := by omega
      refine ⟨_, rfl, _, _, rfl, rfl, ?_⟩
      refine ⟨_, rfl, _, rfl, _, rfl, _, rfl, _, rfl, z, rfl, sz6 hz, ?_⟩
      have ect : cutS z (some (p : Int)) (some ((p : Nat) + 1 : Int)) = txt ((z.cps.toList.drop p).take 1) := by
        rw [ep]; exact fin 1 [] (by omega)
      refine ⟨_, rfl, (by show 3 ≤ sizeLine; decide), fun a ha => mk "N" _ (found "number" 1 "N" _ (by rw [lex3, if_pos e4]) (by decide +kernel) (by decide +kernel) sN ect (fun h => absurd h (by decide))) a ha⟩
    · have e4 : ¬ c = 48 := fun e => h4 (by rw [e]; decide +kernel)
      refine ⟨_, rfl, _, rfl, _, rfl, z, DIG, p, rfl, hz, hpl, ?_⟩
      have ln := le (inS DIG)
      rw [← ed] at ln lex3
      rw [if_neg e4] at lex3
      refine ⟨_, rfl, _, rfl, _, rfl, _, rfl, _, rfl, z, rfl, sz6 hz, ?_⟩
      exact ⟨_, rfl, (by show 3 ≤ sizeLine; decide), fun a ha => mk "N" _ (found "number" _ "N" _ lex3 (by decide +kernel) (by decide +kernel) sN (fin _ [] ln) (fun h => absurd h (by decide))) a ha⟩
  have h3' : inS DIG c = false := decide_eq_false h3
  have ln := le (inS (LTR ++ DIG))
  have wi := word_is (r := z.cps.toList.drop (p + 1)) h1' h3'
  rw [← ed] at wi ln
  refine ⟨_, rfl, _, rfl, _, rfl, _, rfl, _, rfl, _, rfl, _, _, rfl, rfl, (by show 26 + 10 ≤ sizeLine; decide), z, LTR ++ DIG, p, rfl, hz, hpl, _, rfl, z, rfl, sz6 hz, ?_⟩
  rw [fin _ [] ln]
  have ll : (txt ((z.cps.toList.drop p).take (runL (inS (LTR ++ DIG)) (z.cps.toList.drop p)))).length ≤ 100000 := by
    rw [txt_len, List.length_take, List.length_drop, str_len]; omega
  refine ⟨_, rfl, _, rfl, ll, fun H2 s2 => ?_⟩
  have mk2 : ∀ (tag tx : Str), LexSt z p tag tx → ∀ a, H2 a = none → Q (.ref a) (L2.upd H2 a (.lst [.str tag, .str tx, .int (p : Nat)])) := fun tag tx st a ha => k a _ tag tx (s2.trans (same_new ha _)) (s2.free ha) st upd_same
  have ew : (txt ((z.cps.toList.drop p).take (runL (inS (LTR ++ DIG)) (z.cps.toList.drop p)))).cps.toList = (z.cps.toList.drop p).take (runL (inS (LTR ++ DIG)) (z.cps.toList.drop p)) := rfl
  rw [ew]
  cases hw : wordL ((z.cps.toList.drop p).take (runL (inS (LTR ++ DIG)) (z.cps.toList.drop p))) with
  | true =>
    rw [hw, if_pos rfl] at wi
    exact ⟨_, rfl, iteT ⟨_, rfl, _, rfl, (by show 3 ≤ sizeLine; decide), fun a ha => mk2 "W" _ (found "word" _ "W" _ wi (by decide +kernel) (by decide +kernel) (by decide +kernel) rfl (fun h => absurd h (by decide))) a ha⟩⟩
  | false =>
    rw [hw, if_neg Bool.false_ne_true] at wi
    exact ⟨_, rfl, iteF ⟨_, rfl, (by show 3 ≤ sizeLine; decide), fun a ha => mk2 "none" "" ⟨hpl, .inr ⟨c, hlt, ed, hb, .inl ⟨wi, rfl, rfl⟩⟩⟩ a ha⟩⟩
end
end My

namespace My
open PySem PySem.Spec PyProof.Rows L2
/-! ### lexemes one after another -/
def isAl6 (c : Nat) : Bool := inS (LTR ++ DIG) c
/-- a lexeme, by its signs -/
def isLx : List Nat → Bool
  | [] => false
  | c :: r => (inS SGN c && decide (r = [])) || (inS LTR c && r.all isAl6 && decide (r.length ≤ 11)) || (inS DIG c && decide (c = 48) && decide (r = [])) || (inS DIG c && !decide (c = 48) && r.all (inS DIG))
/-- what stands behind a lexeme x does not go on with it -/
def goesOn (x v : List Nat) : Bool := match x, v with
  | _, [] => false
  | [], _ => false
  | c :: _, d :: _ => (inS LTR c && isAl6 d) || (inS DIG c && !decide (c = 48) && inS DIG d)
theorem run_app {q : Nat → Bool} : ∀ {x v : List Nat}, x.all q = true → (∀ d r, v = d :: r → q d = false) → runL q (x ++ v) = x.length
  | [], [], _, _ => rfl
  | [], d :: r, _, h => runL_no (h d r rfl)
  | c :: x, v, ha, h => by
    rw [List.all_cons, Bool.and_eq_true] at ha
    show runL q (c :: (x ++ v)) = _
    rw [runL_yes ha.1, run_app ha.2 h]
    rfl
theorem sgn_no {c : Nat} (h : inS SGN c = true) : isAl6 c = false ∧ inS BLK c = false := by
  have h : c ∈ SGN.cps.toList := of_decide_eq_true h
  have e : SGN.cps.toList = [40, 41, 123, 125, 44, 59] := by decide +kernel
  rw [e] at h
  simp only [List.mem_cons, List.not_mem_nil, or_false] at h
  rcases h with rfl | rfl | rfl | rfl | rfl | rfl <;> exact ⟨by decide +kernel, by decide +kernel⟩
theorem al_list {c : Nat} (h : isAl6 c = true) : c ∈ AL36.cps.toList := by
  unfold isAl6 at h
  rw [al_same] at h
  exact of_decide_eq_true h
theorem al_all (p : Nat → Bool) (h : AL36.cps.toList.all p = true) {c : Nat} (hc : isAl6 c = true) : p c = true := (List.all_eq_true.mp h) c (al_list hc)
theorem al_no {c : Nat} (h : isAl6 c = true) : inS SGN c = false ∧ inS BLK c = false := by
  have q := al_all (fun c => !inS SGN c && !inS BLK c) (by decide +kernel) h
  rw [Bool.and_eq_true] at q
  exact ⟨by simpa using q.1, by simpa using q.2⟩
theorem blk_no {c : Nat} (h : inS BLK c = true) : isAl6 c = false ∧ inS DIG c = false := by
  have h : c ∈ BLK.cps.toList := of_decide_eq_true h
  have e : BLK.cps.toList = [32, 10] := by decide +kernel
  rw [e] at h
  simp only [List.mem_cons, List.not_mem_nil, or_false] at h
  rcases h with rfl | rfl <;> exact ⟨by decide +kernel, by decide +kernel⟩
theorem dig_al {c : Nat} (h : inS DIG c = true) : isAl6 c = true := by
  unfold isAl6
  rw [in_cat, h, Bool.or_true]
theorem ltr_al {c : Nat} (h : inS LTR c = true) : isAl6 c = true := by
  unfold isAl6
  rw [in_cat, h]
  rfl
theorem lx_cases {c : Nat} {r : List Nat} (h : isLx (c :: r) = true) : (inS SGN c = true ∧ r = []) ∨ (inS LTR c = true ∧ r.all isAl6 = true ∧ r.length ≤ 11) ∨ (inS DIG c = true ∧ c = 48 ∧ r = []) ∨ (inS DIG c = true ∧ ¬ c = 48 ∧ r.all (inS DIG) = true) := by
  unfold isLx at h
  rw [Bool.or_eq_true, Bool.or_eq_true, Bool.or_eq_true] at h
  rcases h with ((h | h) | h) | h
  · rw [Bool.and_eq_true, decide_eq_true_iff] at h; exact .inl h
  · rw [Bool.and_eq_true, Bool.and_eq_true, decide_eq_true_iff] at h; exact .inr (.inl ⟨h.1.1, h.1.2, h.2⟩)
  · rw [Bool.and_eq_true, Bool.and_eq_true, decide_eq_true_iff, decide_eq_true_iff] at h; exact .inr (.inr (.inl ⟨h.1.1, h.1.2, h.2⟩))
  · rw [Bool.and_eq_true, Bool.and_eq_true] at h
    refine .inr (.inr (.inr ⟨h.1.1, ?_, h.2⟩))
    have := h.1.2
    simpa using this
theorem lx_head {c : Nat} {r : List Nat} (h : isLx (c :: r) = true) : inS BLK c = false := by
  rcases lx_cases h with ⟨a, _⟩ | ⟨a, _⟩ | ⟨a, _⟩ | ⟨a, _⟩
  · exact (sgn_no a).2
  · exact (al_no (ltr_al a)).2
  · exact (al_no (dig_al a)).2
  · exact (al_no (dig_al a)).2
def kindL : List Nat → Str
  | [] => ""
  | c :: _ => if inS SGN c = true then "sign" else if inS LTR c = true then "word" else "number"
/-- a lexeme is read as itself where it is not gone on with -/
theorem lex_app {c : Nat} {r v : List Nat} (h : isLx (c :: r) = true) (g : goesOn (c :: r) v = false) : lexL (c :: (r ++ v)) = some (kindL (c :: r), (c :: r).length) := by
  show lexC c (r ++ v) = some (if inS SGN c = true then ("sign" : Str) else if inS LTR c = true then "word" else "number", _)
  unfold lexC
  have nx : ∀ d t, v = d :: t → (inS LTR c && isAl6 d) = false ∧ (inS DIG c && !decide (c = 48) && inS DIG d) = false := fun d t e => by
    rw [e] at g
    exact Bool.or_eq_false_iff.mp g
  rcases lx_cases h with ⟨a, e⟩ | ⟨a, b, l⟩ | ⟨a, b, e⟩ | ⟨a, b, l⟩
  · rw [if_pos a, if_pos a, e]
    rfl
  · have al := ltr_al a
    have q : runL (inS (LTR ++ DIG)) ((c :: r) ++ v) = (c :: r).length := run_app (by
      rw [List.all_cons, Bool.and_eq_true]
      exact ⟨al, b⟩) fun d t e => by
        have z := (nx d t e).1
        rw [a, Bool.true_and] at z
        exact z
    have q' : runL (inS (LTR ++ DIG)) (c :: (r ++ v)) = r.length + 1 := q
    rw [if_neg (by rw [(al_no al).1]; exact Bool.false_ne_true), if_pos a, q', if_pos (by omega), if_neg (by rw [(al_no al).1]; exact Bool.false_ne_true), if_pos a]
    rfl
  · rw [if_neg (by rw [(al_no (dig_al a)).1]; exact Bool.false_ne_true), if_neg (by rw [dig_no_ltr a]; exact Bool.false_ne_true), if_pos a, if_pos b, e, if_neg (by rw [(al_no (dig_al a)).1]; exact Bool.false_ne_true), if_neg (by rw [dig_no_ltr a]; exact Bool.false_ne_true)]
    rfl
  · have q : runL (inS DIG) ((c :: r) ++ v) = (c :: r).length := run_app (by
      rw [List.all_cons, Bool.and_eq_true]
      exact ⟨a, l⟩) fun d t e => by
        have z := (nx d t e).2
        rw [a, decide_eq_false b] at z
        exact z
    have q' : runL (inS DIG) (c :: (r ++ v)) = r.length + 1 := q
    rw [if_neg (by rw [(al_no (dig_al a)).1]; exact Bool.false_ne_true), if_neg (by rw [dig_no_ltr a]; exact Bool.false_ne_true), if_pos a, if_neg b, q', if_neg (by rw [(al_no (dig_al a)).1]; exact Bool.false_ne_true), if_neg (by rw [dig_no_ltr a]; exact Bool.false_ne_true)]
    rfl
theorem scan_gap : ∀ {g : List Nat} (v : List Nat) (p : Nat), g.all (inS BLK) = true → scan (g ++ v) p = scan v (p + g.length)
  | [], v, p, _ => rfl
  | c :: g, v, p, h => by
    rw [List.all_cons, Bool.and_eq_true] at h
    show scan (c :: (g ++ v)) p = _
    rw [scan_blank h.1, scan_gap v (p + 1) h.2]
    have e : p + 1 + g.length = p + (c :: g).length := by rw [List.length_cons]; omega
    rw [e]
theorem scan_lx {x v : List Nat} {p : Nat} (h : isLx x = true) (g : goesOn x v = false) : scan (x ++ v) p = ((kindL x, x, p) :: (scan v (p + x.length)).1, (scan v (p + x.length)).2) := by
  cases x with
  | nil => cases h
  | cons c r =>
    have e := lex_app h g
    show scan (c :: (r ++ v)) p = _
    rw [scan_some (lx_head h) e]
    have e1 : (c :: (r ++ v)).take (c :: r).length = c :: r := by
      show ((c :: r) ++ v).take _ = _
      rw [List.take_left']
      rfl
    have e2 : (c :: (r ++ v)).drop (c :: r).length = v := by
      show ((c :: r) ++ v).drop _ = _
      rw [List.drop_left']
      rfl
    rw [e1, e2]
/-- behind U, whose last lexeme is x, all goes on as if it began there; U's lexemes are ws -/
structure Reads6 (U : List Nat) (ws : List (List Nat)) (x : List Nat) : Prop where
  lx : isLx x = true
  go : ∃ ts : List Tk, ts.map (·.2.1) = ws ∧ ∀ v, goesOn x v = false → scan (U ++ v) 0 = (ts ++ (scan v U.length).1, (scan v U.length).2)
theorem reads6_nil {g : List Nat} (h : g.all (inS BLK) = true) : Reads6 g [] [40] := ⟨by decide +kernel, [], rfl, fun v _ => by
  rw [scan_gap v 0 h, Nat.zero_add]
  rfl⟩
theorem goes_gap {x g v : List Nat} (h : g.all (inS BLK) = true) (n : g ≠ []) : goesOn x (g ++ v) = false := by
  cases g with
  | nil => exact absurd rfl n
  | cons d t =>
    rw [List.all_cons, Bool.and_eq_true] at h
    have ⟨a, b⟩ := blk_no h.1
    cases x with
    | nil => rfl
    | cons c r =>
      show ((inS LTR c && isAl6 d) || (inS DIG c && !decide (c = 48) && inS DIG d)) = false
      rw [a, b, Bool.and_false, Bool.and_false]
      rfl
theorem Reads6.step {U : List Nat} {ws : List (List Nat)} {x y g : List Nat} (h : Reads6 U ws x) (hg : g.all (inS BLK) = true) (hy : isLx y = true) (hn : g ≠ [] ∨ ∀ v, goesOn x (y ++ v) = false) : Reads6 (U ++ g ++ y) (ws ++ [y]) y := by
  obtain ⟨ts, e, go⟩ := h.go
  refine ⟨hy, ts ++ [(kindL y, y, U.length + g.length)], ?_, fun v hv => ?_⟩
  · rw [List.map_append, e]; rfl
  · have q : goesOn x (g ++ (y ++ v)) = false := by
      rcases hn with n | n
      · exact goes_gap hg n
      · cases g with
        | nil => exact n v
        | cons d t => exact goes_gap hg (List.cons_ne_nil _ _)
    have l : (U ++ g ++ y).length = U.length + g.length + y.length := by rw [List.length_append, List.length_append]
    rw [List.append_assoc, List.append_assoc, go _ q, scan_gap _ _ hg, scan_lx hy hv, l, List.append_assoc]
    rfl
end My

namespace My
open PySem PySem.Spec PyProof.Rows L2
theorem lx_al {c : Nat} {r : List Nat} (h : isLx (c :: r) = true) (hc : isAl6 c = true) : (c :: r).all isAl6 = true := by
  rw [List.all_cons, hc, Bool.true_and]
  rcases lx_cases h with ⟨a, e⟩ | ⟨a, b, l⟩ | ⟨a, b, e⟩ | ⟨a, b, l⟩
  · rw [e]; rfl
  · exact b
  · rw [e]; rfl
  · rw [List.all_eq_true] at l ⊢
    exact fun x hx => dig_al (l x hx)
theorem alnum_of {l : List Nat} (h : l.all isAl6 = true) (n : l ≠ []) : Txt.isalnum (txt l) = true := by
  have h1 : decide ((txt l).length > 0) = true := by
    rw [txt_len]
    exact decide_eq_true (List.length_pos_iff.mpr n)
  have h2 : l.toArray.all Unicode.isAlnum = true := by
    rw [List.all_toArray, List.all_eq_true]
    intro x hx
    exact al_all Unicode.isAlnum (by decide +kernel) ((List.all_eq_true.mp h) x hx)
  show (decide ((txt l).length > 0) && l.toArray.all Unicode.isAlnum) = true
  rw [h1, h2]
  rfl
theorem digit_head {c : Nat} {r : List Nat} (h : Txt.isdigit (txt (c :: r)) = true) : Unicode.isDigit c = true := by
  have h2 : (decide ((txt (c :: r)).length > 0) && (c :: r).toArray.all Unicode.isDigit) = true := h
  rw [Bool.and_eq_true, List.all_toArray, List.all_cons, Bool.and_eq_true] at h2
  exact h2.2.1
theorem digit_one {c : Nat} (h : Txt.isdigit (txt [c]) = false) : Unicode.isDigit c = false := by
  have h1 : decide ((txt [c]).length > 0) = true := rfl
  have h2 : (decide ((txt [c]).length > 0) && [c].toArray.all Unicode.isDigit) = false := h
  rw [h1, Bool.true_and, List.all_toArray, List.all_cons, List.all_nil, Bool.and_true] at h2
  exact h2
theorem ltr_all (p : Nat → Bool) (h : LTR.cps.toList.all p = true) {c : Nat} (hc : inS LTR c = true) : p c = true := (List.all_eq_true.mp h) c (of_decide_eq_true hc)
theorem dig_all (p : Nat → Bool) (h : DIG.cps.toList.all p = true) {c : Nat} (hc : inS DIG c = true) : p c = true := (List.all_eq_true.mp h) c (of_decide_eq_true hc)
theorem no_go {x y : List Nat} (hx : isLx x = true) (hy : isLx y = true) (h : Txt.isalnum (txt x ++ txt y) = false ∨ txt x = "0" ∨ (Txt.isdigit (txt x) = true ∧ ∀ d t, y = d :: t → Txt.isdigit (txt [d]) = false)) (v : List Nat) : goesOn x (y ++ v) = false := by
  cases x with
  | nil => cases hx
  | cons c r =>
    cases y with
    | nil => cases hy
    | cons d t =>
      show ((inS LTR c && isAl6 d) || (inS DIG c && !decide (c = 48) && inS DIG d)) = false
      rcases h with h | h | ⟨h1, h2⟩
      · cases e1 : isAl6 c with
        | false =>
          have a : inS LTR c = false := by
            cases e : inS LTR c with
            | false => rfl
            | true => rw [ltr_al e] at e1; cases e1
          have b : inS DIG c = false := by
            cases e : inS DIG c with
            | false => rfl
            | true => rw [dig_al e] at e1; cases e1
          rw [a, b]
          rfl
        | true =>
          cases e2 : isAl6 d with
          | false =>
            have b : inS DIG d = false := by
              cases e : inS DIG d with
              | false => rfl
              | true => rw [dig_al e] at e2; cases e2
            rw [b, Bool.and_false, Bool.and_false]
            rfl
          | true =>
            have q : Txt.isalnum (txt ((c :: r) ++ (d :: t))) = true := alnum_of (by rw [List.all_append, lx_al hx e1, lx_al hy e2]; rfl) (by simp)
            have e : txt (c :: r) ++ txt (d :: t) = txt ((c :: r) ++ (d :: t)) := by
              show (⟨(c :: r).toArray ++ (d :: t).toArray⟩ : Str) = ⟨((c :: r) ++ (d :: t)).toArray⟩
              rw [List.append_toArray]
            rw [e, q] at h
            cases h
      · have e0 : ("0" : Str) = txt [48] := by decide +kernel
        rw [e0] at h
        have e1 : (c :: r).toArray = [48].toArray := congrArg Str.cps h
        have e2 : (c :: r) = [48] := congrArg Array.toList e1
        have e3 : c = 48 := (List.cons.inj e2).1
        rw [e3]
        have a : inS LTR 48 = false := by decide +kernel
        rw [a]
        have b : (!decide ((48 : Nat) = 48)) = false := rfl
        rw [b, Bool.and_false]
        rfl
      · have a := digit_head h1
        have b := digit_one (h2 d t rfl)
        have c1 : inS LTR c = false := by
          cases e : inS LTR c with
          | false => rfl
          | true =>
            have q := ltr_all (fun c => !Unicode.isDigit c) (by decide +kernel) e
            rw [a] at q
            cases q
        have d1 : inS DIG d = false := by
          cases e : inS DIG d with
          | false => rfl
          | true =>
            have q := dig_all Unicode.isDigit (by decide +kernel) e
            rw [b] at q
            cases q
        rw [c1, d1, Bool.and_false]
        rfl
theorem tw0 {p : Nat → Bool} : ∀ {l : List Nat}, (∀ c ∈ l, p c = false) → (l.takeWhile p).length = 0
  | [], _ => rfl
  | c :: r, h => by rw [List.takeWhile_cons, h c List.mem_cons_self]; rfl
/-- a text without ^ keeps itself -/
theorem no_strip {z : Str} (h : ∀ c ∈ z.cps.toList, c ≠ 94) : Txt.stripChars z "^" = z := by
  have e1 : ("^" : Str).cps = #[94] := by decide +kernel
  have g : ∀ c, c ≠ 94 → ("^" : Str).cps.contains c = false := fun c n => by
    rw [e1]
    simp [n]
  have l0 : stripLo ("^" : Str).cps.contains true z = 0 := tw0 fun c hc => g c (h c hc)
  have h0 : stripHi ("^" : Str).cps.contains true z (stripLo ("^" : Str).cps.contains true z) = z.length := by
    rw [l0]
    show z.length - ((z.cps.toList.drop 0).reverse.takeWhile ("^" : Str).cps.contains).length = z.length
    rw [tw0 fun c hc => g c (h c (by simpa using hc))]
    rfl
  have s : stripSame ("^" : Str).cps.contains true true z = true := by
    show (stripLo _ true z == 0 && stripHi _ true z (stripLo _ true z) == z.length) = true
    rw [h0, l0]
    simp
  show (if stripSame ("^" : Str).cps.contains true true z = true then z else _) = z
  rw [if_pos s]
end My

namespace My
open PySem PySem.Spec PyProof.Rows L2
/-! ### drawn words, drawn gaps -/
def txtV (l : List Nat) : V := .str (txt l)
theorem txt_app (a b : List Nat) : txt a ++ txt b = txt (a ++ b) := by
  show (⟨a.toArray ++ b.toArray⟩ : Str) = ⟨(a ++ b).toArray⟩
  rw [List.append_toArray]
/-- a word that may be laid into a text -/
structure OkW (x : List Nat) : Prop where
  ne : x ≠ []
  le : x.length ≤ 31
  asc : ∀ c ∈ x, c < 128 ∧ c ≠ 94
theorem OkW.of {x : List Nat} (h : (!decide (x = []) && decide (x.length ≤ 31) && x.all fun c => decide (c < 128) && !decide (c = 94)) = true) : OkW x := by
  rw [Bool.and_eq_true, Bool.and_eq_true, decide_eq_true_iff, List.all_eq_true] at h
  refine ⟨?_, h.1.2, fun c hc => ?_⟩
  · have := h.1.1
    simpa using this
  · have q := h.2 c hc
    rw [Bool.and_eq_true, decide_eq_true_iff] at q
    exact ⟨q.1, by simpa using q.2⟩
/-- what is counted of the signs -/
def Cnt (xs : List (List Nat)) (t : List Nat) (n : Nat) : Prop := ∀ (p : Nat → Bool) (b : Nat), (∀ c, inS BLK c = true → p c = false) → (∀ x ∈ xs, x.countP p ≤ b) → t.countP p ≤ b * n
theorem gp_cnt {p : Nat → Bool} {g : List Nat} (h : g.all (inS BLK) = true) (q : ∀ c, inS BLK c = true → p c = false) : g.countP p = 0 := by
  rw [List.countP_eq_zero]
  exact fun c hc => by rw [q c (List.all_eq_true.mp h c hc)]; exact Bool.false_ne_true
def spAny : Sp := fun vs H Q _ => ∃ (s c : Addr), vs = [.ref s] ∧ Src H s c ∧ ∀ (l : List Nat) (H' : Hp), isLx l = true → OkW l → Go s c H H' → Q (txtV l) H'
def spSpaced : Sp := fun vs H Q _ => ∃ (s c a : Addr) (xs : List (List Nat)), vs = [.ref s, .ref a] ∧ Src H s c ∧ H a = some (.lst (xs.map txtV)) ∧ a ≠ c ∧ xs.length ≤ 100 ∧ (∀ x ∈ xs, OkW x) ∧
  ∀ (t : List Nat) (H' : Hp), Go s c H H' → t.length ≤ 4000 → (∀ d ∈ t, d < 128) → Cnt xs t xs.length → ((∀ x ∈ xs, isLx x = true) → ∃ ts, scan t 0 = (ts, none) ∧ ts.map (·.2.1) = xs) → Q (.str (txt t)) H'
/-- a gap -/
structure Gp (v : V) (g : List Nat) : Prop where
  is : v = txtV g
  bl : g.all (inS BLK) = true
  le : g.length ≤ 4
theorem gp_asc {g : List Nat} (h : g.all (inS BLK) = true) : ∀ d ∈ g, d < 128 := fun d hd => by
  have q : d ∈ BLK.cps.toList := of_decide_eq_true ((List.all_eq_true.mp h) d hd)
  have e : BLK.cps.toList = [32, 10] := by decide +kernel
  rw [e] at q
  simp only [List.mem_cons, List.not_mem_nil, or_false] at q
  omega
theorem gaps3 {v : V} (h : v ∈ [V.str " ", V.str "\n", V.str " \n  "]) : ∃ g, Gp v g ∧ g ≠ [] := by
  simp only [List.mem_cons, List.not_mem_nil, or_false] at h
  rcases h with rfl | rfl | rfl
  · exact ⟨[32], ⟨by decide +kernel, by decide +kernel, by decide⟩, by decide⟩
  · exact ⟨[10], ⟨by decide +kernel, by decide +kernel, by decide⟩, by decide⟩
  · exact ⟨[32, 10, 32, 32], ⟨by decide +kernel, by decide +kernel, by decide⟩, by decide⟩
theorem gaps6 {v : V} (h : v ∈ [V.str " ", V.str "\n", V.str " \n  "] ++ [V.str "", V.str "", V.str ""]) : ∃ g, Gp v g := by
  rcases List.mem_append.mp h with h | h
  · obtain ⟨g, a, _⟩ := gaps3 h
    exact ⟨g, a⟩
  · simp only [List.mem_cons, List.not_mem_nil, or_false, or_self] at h
    rw [h]
    exact ⟨[], ⟨by decide +kernel, rfl, by decide⟩⟩
theorem gapsE {v : V} (h : v ∈ [V.str "", V.str " ", V.str "\n\n"]) : ∃ g, Gp v g := by
  simp only [List.mem_cons, List.not_mem_nil, or_false] at h
  rcases h with rfl | rfl | rfl
  · exact ⟨[], ⟨by decide +kernel, by decide +kernel, by decide⟩⟩
  · exact ⟨[32], ⟨by decide +kernel, by decide +kernel, by decide⟩⟩
  · exact ⟨[10, 10], ⟨by decide +kernel, by decide +kernel, by decide⟩⟩
theorem gapsF {v : V} (h : v ∈ [V.str "", V.str " ", V.str "\n"]) : ∃ g, Gp v g := by
  simp only [List.mem_cons, List.not_mem_nil, or_false] at h
  rcases h with rfl | rfl | rfl
  · exact ⟨[], ⟨by decide +kernel, by decide +kernel, by decide⟩⟩
  · exact ⟨[32], ⟨by decide +kernel, by decide +kernel, by decide⟩⟩
  · exact ⟨[10], ⟨by decide +kernel, by decide +kernel, by decide⟩⟩
section
variable {P : Program} {w : World} {K : PySem.W.Frag} {mg : Str → Option Value} {base : Heap}
theorem ok_spaced (T : Tx K mg) : FnOk P w K mg base CX0 3 T.a_law_spaced T.fd_law_spaced ["_law_source_here", "_law_signs"] spSpaced := by
  refine T.F_law_spaced.ok sc_law_spaced (fun vs H Q E h => ?_) (fun cdv A outer st H vs Q E hr h => ?_)
  · obtain ⟨s, c, a, xs, rfl, _⟩ := h
    rfl
  obtain ⟨s, c, a, xs, rfl, hS, ha, nac, hl, ok, k⟩ := h
  have G_law_of : FnOk P w K mg base CX0 2 T.a_law_of T.fd_law_of ["_law_source_here", "_law_some"] (spOf K) := ok_of T
  have hr_law_of : Room 2 _ := hr
  refine ⟨_, ((pss_cons (ps_par (i := 2) (j := 3) (by rfl) sc_law_spaced.nd rfl rfl (by decide) rfl rfl (pa_cons (pe_call G_law_of hr_law_of rfl T.m_law_of T.F_law_of.kp T.b_law_of .nil pass0 (pa_cons (pv 0) (pa_cons (pe_lst (pa_cons pe_str (pa_cons pe_str (pa_cons pe_str pa_nil)))) pa_nil))) (pa_cons pe_str pa_nil)) (by rfl))
      (pss_cons (ps_for PassesOwn.never rfl (pi_list (pv 1)) (pg_name (i := 4) sc_law_spaced.nd rfl (Or.inl rfl))
        (pss_cons (ps_set (i := 4) sc_law_spaced.nd rfl (Or.inl rfl) (pe_m1 PySem.F.slot_str_strip PySem.F.type_str_strip mt_stripChars (pv 4) pe_str))
      (pss_cons (ps_set (i := 5) sc_law_spaced.nd rfl (Or.inl rfl) (pe_lst (pa_cons pe_str (pa_cons pe_str (pa_cons pe_str pa_nil)))))
      (Evl.pss_cut (ps_if (PW.pt (pw_or (pt_not (pt_val (pe_m0 PySem.F.slot_str_isalnum PySem.F.type_str_isalnum mt_isalnum (pe_op op_add_str (pv 3) (pv 4))))) (pw_or (pt_cmpR op_eq (pv 3) pe_str (nomark _)) (pw_or1 (PW.pt (pw_and (pt_val (pe_m0 PySem.F.slot_str_isdigit PySem.F.type_str_isdigit mt_isdigit (pv 3))) (pw_and1 (pt_not (pt_val (pe_m0 PySem.F.slot_str_isdigit PySem.F.type_str_isdigit mt_isdigit (pe_ix ix_str (pv 4) pe_int (fun _ _ => rfl))))))))))))
        (pss_one (ps_set (i := 5) sc_law_spaced.nd rfl (Or.inl rfl) (pe_op op_cat (pv 5) (pe_lst (pa_cons pe_str (pa_cons pe_str (pa_cons pe_str pa_nil)))))))
        pss_nil)
      (pss_one (ps_par (i := 2) (j := 3) (by rfl) sc_law_spaced.nd rfl rfl (by decide) rfl rfl (pa_cons (pe_op op_add_str (pe_op op_add_str (pv 2) (pe_call G_law_of hr_law_of rfl T.m_law_of T.F_law_of.kp T.b_law_of .nil pass0 (pa_cons (pv 0) (pa_cons (pv 5) pa_nil)))) (pv 4)) (pa_cons (pv 4) pa_nil)) (by rfl)))))))
      (pss_one (ps_ret (pe_op op_add_str (pv 2) (pe_call G_law_of hr_law_of rfl T.m_law_of T.F_law_of.kp T.b_law_of .nil pass0 (pa_cons (pv 0) (pa_cons (pe_lst (pa_cons pe_str (pa_cons pe_str (pa_cons pe_str pa_nil)))) pa_nil))))))))), ?_⟩
  refine ⟨_, rfl, (by show 3 ≤ sizeLine; decide), fun p1 h1 => ?_⟩
  have n1 := hS.ne_none h1
  refine ⟨s, c, p1, _, rfl, hS.same (same_new h1 _), upd_same, n1.2, (by show 1 ≤ 3; decide), (by show 3 < 1000000; decide), fun i x H1 hx g1 => ⟨_, _, rfl, ?_⟩⟩
  obtain ⟨g0, G0⟩ := gapsE (List.mem_of_getElem? hx)
  have g01 : Go s c H H1 := (Go.of hS (same_new h1 _)).trans g1
  rw [G0.is]
  refine ⟨_, rfl, a, rfl, ⟨_, SqL.of (g01.lst hS ha nac)⟩, for_list (K := K) (a := a) (xs := xs.map txtV) (fun i σ M => ∃ (U last : List Nat) (v4 v5 : Option V), σ = [some (.ref s), some (.ref a), some (txtV U), some (txtV last), v4, v5] ∧ Go s c H M ∧
      U.length ≤ 4 + 35 * i ∧ (∀ d ∈ U, d < 128) ∧ last.length ≤ 31 ∧ Cnt xs U i ∧ ((∀ x ∈ xs, isLx x = true) → Reads6 U (xs.take i) last)) ⟨g0, [40], none, none, ?_, g01, G0.le, gp_asc G0.bl, by decide, fun p b q _ => by rw [gp_cnt G0.bl q]; exact Nat.zero_le _, fun _ => reads6_nil G0.bl⟩ (fun i σ M _ ⟨_, _, _, _, _, g, _⟩ => SqL.of (g.lst hS ha nac)) ?_ ?_⟩
  · show [some (V.ref s), some (V.ref a), some (txtV g0), some (V.str "("), none, none] = _
    have e : V.str "(" = txtV [40] := by decide +kernel
    rw [e]
  · rintro i v σ M hi ⟨U, last, v4, v5, rfl, g, lU, aU, ll, cn, rd⟩
    obtain ⟨x, hx, rfl⟩ : ∃ x, xs[i]? = some x ∧ v = txtV x := by
      rw [List.getElem?_map] at hi
      cases e : xs[i]? with
      | none => rw [e] at hi; cases hi
      | some x => rw [e] at hi; exact ⟨x, rfl, (Option.some.inj hi).symm⟩
    have hil : i < xs.length := (List.getElem?_eq_some_iff.mp hx).1
    have O := ok x (List.mem_of_getElem? hx)
    refine ⟨_, rfl, ⟨_, rfl⟩, _, _, rfl, rfl, ?_, ?_⟩
    · rw [txt_len]; exact sz6 (by have := O.le; omega)
    rw [no_strip (z := txt x) fun d hd => (O.asc d hd).2]
    refine ⟨(by show 3 ≤ sizeLine; decide), fun p2 h2 => ?_⟩
    have n2 := g.src.ne_none h2
    have S2 := g.src.same (same_new h2 (.lst [V.str " ", V.str "\n", V.str " \n  "]))
    have g2 : Go s c H _ := g.then (same_new h2 (.lst [V.str " ", V.str "\n", V.str " \n  "]))
    refine ⟨fun σ' M' => ∃ (p : Addr) (gl : List V), σ' = [some (.ref s), some (.ref a), some (txtV U), some (txtV last), some (txtV x), some (.ref p)] ∧ Go s c H M' ∧ M' p = some (.lst gl) ∧ p ≠ c ∧ 1 ≤ gl.length ∧ gl.length ≤ 6 ∧
      ∀ v ∈ gl, ∃ g, Gp v g ∧ (isLx last = true → isLx x = true → g ≠ [] ∨ ∀ r, goesOn last (x ++ r) = false), ?_, ?_⟩
    · have plain : ∀ v ∈ [V.str " ", V.str "\n", V.str " \n  "], ∃ g, Gp v g ∧ (isLx last = true → isLx x = true → g ≠ [] ∨ ∀ r, goesOn last (x ++ r) = false) := fun v hv => by
        obtain ⟨g, a, b⟩ := gaps3 hv
        exact ⟨g, a, fun _ _ => .inl b⟩
      have e2 : (L2.upd M p2 (.lst [V.str " ", V.str "\n", V.str " \n  "])) p2 = some (.lst [V.str " ", V.str "\n", V.str " \n  "]) := upd_same
      -- with three empty ones more
      have more : (isLx last = true → isLx x = true → Txt.isalnum (txt last ++ txt x) = false ∨ txt last = "0" ∨ (Txt.isdigit (txt last) = true ∧ ∀ d t, x = d :: t → Txt.isdigit (txt [d]) = false)) →
          ∀ v ∈ [V.str " ", V.str "\n", V.str " \n  "] ++ [V.str "", V.str "", V.str ""], ∃ g, Gp v g ∧ (isLx last = true → isLx x = true → g ≠ [] ∨ ∀ r, goesOn last (x ++ r) = false) := fun cnd v hv => by
        obtain ⟨g, a⟩ := gaps6 hv
        exact ⟨g, a, fun l1 l2 => .inr (no_go l1 l2 (cnd l1 l2))⟩
      have fin3 : ∀ p3, (L2.upd M p2 (.lst [V.str " ", V.str "\n", V.str " \n  "])) p3 = none → ∀ p4, (L2.upd (L2.upd M p2 (.lst [V.str " ", V.str "\n", V.str " \n  "])) p3 (.lst [V.str "", V.str "", V.str ""])) p4 = none →
          Go s c H (L2.upd (L2.upd (L2.upd M p2 (.lst [V.str " ", V.str "\n", V.str " \n  "])) p3 (.lst [V.str "", V.str "", V.str ""])) p4 (.lst ([V.str " ", V.str "\n", V.str " \n  "] ++ [V.str "", V.str "", V.str ""]))) ∧ p4 ≠ c := fun p3 h3 p4 h4 => by
        have g3 := g2.then (same_new h3 (.lst [V.str "", V.str "", V.str ""]))
        exact ⟨g3.then (same_new h4 _), (g3.src.ne_none h4).2⟩
      have lim : (txt last).length + (txt x).length ≤ sizeLine := by rw [txt_len, txt_len]; exact sz6 (by have := O.le; omega)
      refine ⟨_, rfl, _, rfl, _, _, rfl, rfl, lim, ⟨_, rfl⟩, _, rfl, rfl, trivial, _, rfl, ?_⟩
      cases t1 : Txt.isalnum (txt last ++ txt x) with
      | false =>
        refine iteT ⟨_, rfl, (by show 3 ≤ sizeLine; decide), fun p3 h3 => ?_⟩
        refine ⟨p2, p3, _, _, rfl, rfl, same_new h3 _ _ _ e2, upd_same, (by show 6 ≤ sizeLine; decide), fun p4 h4 => ?_⟩
        have ⟨f1, f2⟩ := fin3 p3 h3 p4 h4
        exact ⟨p4, _, rfl, f1, upd_same, f2, (by show 1 ≤ 6; decide), (by show 6 ≤ 6; decide), more fun _ _ => .inl t1⟩
      | true =>
        refine iteF ⟨_, rfl, rfl, _, rfl, iteD (fun t2 => ?_) (fun t2 => ?_)⟩
        · have t2 : txt last = "0" := V.str.inj t2
          refine ⟨_, rfl, (by show 3 ≤ sizeLine; decide), fun p3 h3 => ?_⟩
          refine ⟨p2, p3, _, _, rfl, rfl, same_new h3 _ _ _ e2, upd_same, (by show 6 ≤ sizeLine; decide), fun p4 h4 => ?_⟩
          have ⟨f1, f2⟩ := fin3 p3 h3 p4 h4
          exact ⟨p4, _, rfl, f1, upd_same, f2, (by show 1 ≤ 6; decide), (by show 6 ≤ 6; decide), more fun _ _ => .inr (.inl t2)⟩
        · refine ⟨_, rfl, ⟨_, rfl⟩, _, rfl, rfl, trivial, _, rfl, ?_⟩
          cases t3 : Txt.isdigit (txt last) with
          | false => exact iteF ⟨p2, _, rfl, g2, upd_same, n2.2, (by show 1 ≤ 3; decide), (by show 3 ≤ 6; decide), plain⟩
          | true =>
            obtain ⟨d, t, ex⟩ := List.exists_cons_of_ne_nil O.ne
            have at0 : atI (txt x).cps.toList (0 : Int) = some d := by
              show atI x (0 : Int) = some d
              rw [ex]
              exact atI_nat (j := 0) rfl
            refine iteT ⟨_, rfl, txt x, _, d, rfl, rfl, ?_, at0, ⟨_, rfl⟩, _, rfl, rfl, trivial, _, rfl, ?_⟩
            · rw [txt_len]; exact sz6 (by have := O.le; omega)
            cases t4 : Txt.isdigit (⟨#[d]⟩ : Str) with
            | true => exact iteF ⟨p2, _, rfl, g2, upd_same, n2.2, (by show 1 ≤ 3; decide), (by show 3 ≤ 6; decide), plain⟩
            | false =>
              refine iteT ⟨_, rfl, (by show 3 ≤ sizeLine; decide), fun p3 h3 => ?_⟩
              refine ⟨p2, p3, _, _, rfl, rfl, same_new h3 _ _ _ e2, upd_same, (by show 6 ≤ sizeLine; decide), fun p4 h4 => ?_⟩
              have ⟨f1, f2⟩ := fin3 p3 h3 p4 h4
              exact ⟨p4, _, rfl, f1, upd_same, f2, (by show 1 ≤ 6; decide), (by show 6 ≤ 6; decide), more fun _ _ => .inr (.inr ⟨t3, fun d' t' e' => by
                rw [ex] at e'
                cases e'
                exact t4⟩)⟩
    rintro σ' M' ⟨p, gl, rfl, g3, ep, npc, l1, l6, hg⟩
    refine ⟨_, rfl, _, rfl, _, rfl, s, c, p, gl, rfl, g3.src, ep, npc, l1, by omega, fun j v M4 hj g4 => ?_⟩
    obtain ⟨g9, G9, cnd⟩ := hg v (List.mem_of_getElem? hj)
    rw [G9.is]
    have lg := G9.le
    have lx := O.le
    refine ⟨_, _, rfl, rfl, ?_, _, rfl, _, _, rfl, rfl, ?_, _, rfl, _, _, rfl, ?_⟩
    · rw [txt_len, txt_len]; exact sz6 (by omega)
    · rw [txt_app, txt_len, txt_len, List.length_append]; exact sz6 (by omega)
    rw [txt_app, txt_app]
    refine ⟨U ++ g9 ++ x, x, _, _, rfl, g3.trans g4, ?_, ?_, lx, ?_, ?_⟩
    · rw [List.length_append, List.length_append]; omega
    · intro d hd
      rcases List.mem_append.mp hd with h | h
      · rcases List.mem_append.mp h with h | h
        · exact aU d h
        · exact gp_asc G9.bl d h
      · exact (O.asc d h).1
    · intro p b q hb
      have h1 := cn p b q hb
      have h2 := hb x (List.mem_of_getElem? hx)
      rw [List.countP_append, List.countP_append, gp_cnt G9.bl q, Nat.mul_add, Nat.mul_one]
      omega
    · intro all
      have R := rd all
      have ly := all x (List.mem_of_getElem? hx)
      have ex : xs.take (i + 1) = xs.take i ++ [x] := by
        rw [List.take_succ_eq_append_getElem hil]
        have := (List.getElem?_eq_some_iff.mp hx).2
        rw [this]
      rw [ex]
      exact R.step G9.bl ly (cnd R.lx ly)
  · rintro σ M ⟨U, last, v4, v5, rfl, g, lU, aU, ll, cn, rd⟩
    rw [List.length_map] at lU rd cn
    refine ⟨_, rfl, _, rfl, (by show 3 ≤ sizeLine; decide), fun p2 h2 => ?_⟩
    have n2 := g.src.ne_none h2
    refine ⟨s, c, p2, _, rfl, g.src.same (same_new h2 _), upd_same, n2.2, (by show 1 ≤ 3; decide), (by show 3 < 1000000; decide), fun i x H2 hx g2 => ?_⟩
    obtain ⟨g9, G9⟩ := gapsF (List.mem_of_getElem? hx)
    have g3 : Go s c H H2 := g.trans ((Go.of g.src (same_new h2 _)).trans g2)
    rw [G9.is]
    refine ⟨_, _, rfl, rfl, ?_, ?_⟩
    · rw [txt_len, txt_len]; exact sz6 (by have := G9.le; omega)
    rw [txt_app]
    refine k _ H2 g3 ?_ ?_ ?_ ?_
    · rw [List.length_append]; have := G9.le; omega
    · intro d hd
      rcases List.mem_append.mp hd with h | h
      · exact aU d h
      · exact gp_asc G9.bl d h
    · intro p b q hb
      rw [List.countP_append, gp_cnt G9.bl q]
      exact cn p b q hb
    · intro lx
      have R := rd lx
      rw [List.take_length] at R
      obtain ⟨ts, e, go⟩ := R.go
      have q : goesOn last g9 = false := by
        cases g9 with
        | nil => cases last <;> rfl
        | cons d t =>
          have q := goes_gap (x := last) (v := []) G9.bl (List.cons_ne_nil _ _)
          rw [List.append_nil] at q
          exact q
      refine ⟨ts, ?_, e⟩
      have z := scan_gap (g := g9) [] U.length G9.bl
      rw [List.append_nil] at z
      rw [go g9 q, z, scan_nil, List.append_nil]
end
end My

namespace My
open PySem PySem.Spec PyProof.Rows L2
/-! ### the lexemes of a text, and the table of the form -/
theorem run_all8 {q : Nat → Bool} : ∀ {t : List Nat} {d : Nat}, d ∈ t.take (runL q t) → q d = true
  | [], _, h => by rw [List.take_nil] at h; cases h
  | c :: r, d, h => by
    cases e : q c with
    | false => rw [runL_no e, List.take_zero] at h; cases h
    | true =>
      rw [runL_yes e, List.take_succ_cons] at h
      rcases List.mem_cons.mp h with h | h
      · rw [h]; exact e
      · exact run_all8 h
def TkOk (t : Tk) : Prop := (t.1 = "sign" ∧ ∃ c, t.2.1 = [c] ∧ inS SGN c = true) ∨ (t.1 = "word" ∧ ∃ c r, t.2.1 = c :: r ∧ inS LTR c = true ∧ (∀ d ∈ c :: r, inS (LTR ++ DIG) d = true) ∧ (c :: r).length ≤ 12) ∨
  (t.1 = "number" ∧ ∃ c r, t.2.1 = c :: r ∧ (∀ d ∈ c :: r, inS DIG d = true) ∧ (c = 48 → r = []))
theorem lex_ok {c : Nat} {r : List Nat} {k : Str} {n p : Nat} (h : lexL (c :: r) = some (k, n)) : TkOk (k, (c :: r).take n, p) := by
  have h : lexC c r = some (k, n) := h
  unfold lexC at h
  by_cases h1 : inS SGN c = true
  · rw [if_pos h1] at h
    cases h
    exact .inl ⟨rfl, c, rfl, h1⟩
  rw [if_neg h1] at h
  by_cases h2 : inS LTR c = true
  · rw [if_pos h2] at h
    by_cases h3 : runL (inS (LTR ++ DIG)) (c :: r) ≤ 12
    · rw [if_pos h3] at h
      cases h
      have y : inS (LTR ++ DIG) c = true := by rw [in_cat, h2]; rfl
      refine .inr (.inl ⟨rfl, c, r.take (runL (inS (LTR ++ DIG)) r), ?_, h2, ?_, ?_⟩)
      · show (c :: r).take (runL (inS (LTR ++ DIG)) (c :: r)) = _
        rw [runL_yes y, List.take_succ_cons]
      · have e : c :: r.take (runL (inS (LTR ++ DIG)) r) = (c :: r).take (runL (inS (LTR ++ DIG)) (c :: r)) := by rw [runL_yes y, List.take_succ_cons]
        rw [e]
        exact fun d hd => run_all8 hd
      · rw [runL_yes y] at h3
        rw [List.length_cons, List.length_take]
        omega
    · rw [if_neg h3] at h; cases h
  rw [if_neg h2] at h
  by_cases h3 : inS DIG c = true
  · rw [if_pos h3] at h
    cases h
    refine .inr (.inr ⟨rfl, ?_⟩)
    by_cases h4 : c = 48
    · rw [if_pos h4]
      exact ⟨c, [], rfl, fun d hd => (by rw [List.mem_singleton.mp hd]; exact h3), fun _ => rfl⟩
    · rw [if_neg h4]
      refine ⟨c, r.take (runL (inS DIG) r), ?_, ?_, fun e => absurd e h4⟩
      · show (c :: r).take (runL (inS DIG) (c :: r)) = _
        rw [runL_yes h3, List.take_succ_cons]
      · have e : c :: r.take (runL (inS DIG) r) = (c :: r).take (runL (inS DIG) (c :: r)) := by rw [runL_yes h3, List.take_succ_cons]
        rw [e]
        exact fun d hd => run_all8 hd
  · rw [if_neg h3] at h; cases h
theorem scanF_ok : ∀ (f : Nat) (t : List Nat) (p : Nat), ∀ k ∈ (scanF f t p).1, TkOk k
  | 0, _, _, _, h => by cases h
  | _ + 1, [], _, _, h => by cases h
  | f + 1, c :: r, p, k, h => by
    unfold scanF at h
    by_cases hb : inS BLK c = true
    · rw [if_pos hb] at h
      exact scanF_ok f r (p + 1) k h
    · rw [if_neg hb] at h
      cases e : lexL (c :: r) with
      | none => rw [e] at h; cases h
      | some q =>
        obtain ⟨k', n⟩ := q
        rw [e] at h
        rcases List.mem_cons.mp h with h | h
        · rw [h]; exact lex_ok e
        · exact scanF_ok f _ _ k h
theorem scan_ok {t : List Nat} {p : Nat} : ∀ k ∈ (scan t p).1, TkOk k := scanF_ok _ _ _
/-! the heads -/
abbrev tks (z : List Nat) : List Tk := (scan z 0).1
def tagF (t : Tk) : Str := if t.1 = "word" then "W" else if t.1 = "number" then "N" else txt t.2.1
def hTag (z : List Nat) (i : Nat) : Str := match (tks z)[i]? with
  | some t => tagF t
  | none => if (scan z 0).2 = none then "END" else "none"
def hText (z : List Nat) (i : Nat) : Str := match (tks z)[i]? with
  | some t => txt t.2.1
  | none => ""
def placeF (z : List Nat) (i : Nat) : Nat := match (tks z)[i]? with
  | some t => t.2.2
  | none => stopAt z (scan z 0).2
def seesF (z : List Nat) (i : Nat) (l : Str) : Bool := match (tks z)[i]? with
  | some t => decide (txt t.2.1 = l)
  | none => false
def sortB (z : List Nat) (i : Nat) (s : Str) : Bool := match (tks z)[i]? with
  | some t => decide (t.1 = s)
  | none => false
def fitsF (z : List Nat) (i : Nat) (top : Str) : Bool := decide (hTag z i = top) || (decide (hTag z i = "W") && decide (hText z i = top))
def LITS : List Str := ["book", "to", "(", ")", "{", "}", ",", ";"]
theorem lits_ok : (LITS.all fun l => !decide (l = ("W" : Str)) && !decide (l = ("N" : Str)) && !decide (l = ("END" : Str)) && !decide (l = ("none" : Str)) && (match l.cps.toList with
    | c :: _ => !inS DIG c
    | [] => false)) = true := by decide +kernel
theorem sgn_w : ∀ c, inS SGN c = true → txt [c] ≠ ("W" : Str) ∧ txt [c] ≠ ("N" : Str) ∧ txt [c] ≠ ("END" : Str) ∧ txt [c] ≠ ("none" : Str) ∧ txt [c] ≠ ("book" : Str) := fun c h => by
  have h : c ∈ SGN.cps.toList := of_decide_eq_true h
  have e : SGN.cps.toList = [40, 41, 123, 125, 44, 59] := by decide +kernel
  rw [e] at h
  simp only [List.mem_cons, List.not_mem_nil, or_false] at h
  rcases h with rfl | rfl | rfl | rfl | rfl | rfl <;> decide +kernel
theorem txt_inj {a b : List Nat} (h : txt a = txt b) : a = b := by
  have e : a.toArray = b.toArray := congrArg Str.cps h
  exact congrArg Array.toList e
theorem tag_sign {t : Tk} (h : t.1 = "sign") : tagF t = txt t.2.1 := by
  unfold tagF
  rw [h, if_neg (by decide), if_neg (by decide)]
theorem tag_word {t : Tk} (h : t.1 = "word") : tagF t = "W" := by
  unfold tagF
  rw [if_pos h]
theorem tag_num {t : Tk} (h : t.1 = "number") : tagF t = "N" := by
  unfold tagF
  rw [h, if_neg (by decide), if_pos rfl]
theorem sees_fits {z : List Nat} {i : Nat} {l : Str} (hl : l ∈ LITS) : fitsF z i l = seesF z i l := by
  have f := List.all_eq_true.mp lits_ok l hl
  simp only [Bool.and_eq_true, Bool.not_eq_true', decide_eq_false_iff_not] at f
  obtain ⟨⟨⟨⟨f1, f2⟩, f3⟩, f4⟩, f5⟩ := f
  unfold fitsF hTag hText seesF
  cases e : (tks z)[i]? with
  | none =>
    show (decide ((if (scan z 0).2 = none then ("END" : Str) else "none") = l) || (decide ((if (scan z 0).2 = none then ("END" : Str) else "none") = "W") && decide (("" : Str) = l))) = false
    split
    · rw [decide_eq_false (fun h => f3 h.symm), decide_eq_false (show ("END" : Str) ≠ "W" by decide)]; rfl
    · rw [decide_eq_false (fun h => f4 h.symm), decide_eq_false (show ("none" : Str) ≠ "W" by decide)]; rfl
  | some t =>
    show (decide (tagF t = l) || (decide (tagF t = "W") && decide (txt t.2.1 = l))) = decide (txt t.2.1 = l)
    rcases scan_ok t (List.mem_of_getElem? e) with ⟨k, c, ec, hc⟩ | ⟨k, c, r, ec, _⟩ | ⟨k, c, r, ec, hd, _⟩
    · rw [tag_sign k, ec, decide_eq_false (sgn_w c hc).1, Bool.false_and, Bool.or_false]
    · rw [tag_word k, decide_eq_false (fun h => f1 h.symm), decide_eq_true rfl, Bool.true_and, Bool.false_or]
    · rw [tag_num k, decide_eq_false (fun h => f2 h.symm), decide_eq_false (show ("N" : Str) ≠ "W" by decide), Bool.false_and, Bool.or_false]
      refine (decide_eq_false fun h => ?_).symm
      rw [← h, ec] at f5
      have f5 : (!inS DIG c) = true := f5
      rw [hd c List.mem_cons_self] at f5
      cases f5
theorem fits_sort {z : List Nat} {i : Nat} : fitsF z i "W" = sortB z i "word" ∧ fitsF z i "N" = sortB z i "number" := by
  unfold fitsF hTag hText sortB
  cases e : (tks z)[i]? with
  | none =>
    show (decide ((if (scan z 0).2 = none then ("END" : Str) else "none") = "W") || (decide ((if (scan z 0).2 = none then ("END" : Str) else "none") = "W") && decide (("" : Str) = "W"))) = false ∧
      (decide ((if (scan z 0).2 = none then ("END" : Str) else "none") = "N") || (decide ((if (scan z 0).2 = none then ("END" : Str) else "none") = "W") && decide (("" : Str) = "N"))) = false
    split <;> decide
  | some t =>
    show (decide (tagF t = "W") || (decide (tagF t = "W") && decide (txt t.2.1 = "W"))) = decide (t.1 = "word") ∧ (decide (tagF t = "N") || (decide (tagF t = "W") && decide (txt t.2.1 = "N"))) = decide (t.1 = "number")
    rcases scan_ok t (List.mem_of_getElem? e) with ⟨k, c, ec, hc⟩ | ⟨k, c, r, ec, hl, hd, _⟩ | ⟨k, c, r, ec, hd, _⟩
    · rw [tag_sign k, ec, k, decide_eq_false (sgn_w c hc).1, decide_eq_false (sgn_w c hc).2.1]; decide
    · have n : txt t.2.1 ≠ ("N" : Str) := fun h => by
        have := txt_inj (b := ("N" : Str).cps.toList) (h.trans (txt_self _).symm)
        rw [ec, show ("N" : Str).cps.toList = [78] by decide +kernel] at this
        cases this
        exact absurd hl (by decide +kernel)
      rw [tag_word k, k, decide_eq_false n]
      exact ⟨by cases decide (txt t.2.1 = ("W" : Str)) <;> decide, by decide⟩
    · rw [tag_num k, k]; exact ⟨by cases decide (txt t.2.1 = ("W" : Str)) <;> decide, by cases decide (txt t.2.1 = ("N" : Str)) <;> decide⟩
theorem fits_end {z : List Nat} {i : Nat} : fitsF z i "END" = (decide ((tks z).length ≤ i) && decide ((scan z 0).2 = none)) := by
  unfold fitsF hTag hText
  cases e : (tks z)[i]? with
  | none =>
    have z0 : decide ((tks z).length ≤ i) = true := decide_eq_true (List.getElem?_eq_none_iff.mp e)
    rw [z0, Bool.true_and]
    show (decide ((if (scan z 0).2 = none then ("END" : Str) else "none") = "END") || (decide ((if (scan z 0).2 = none then ("END" : Str) else "none") = "W") && decide (("" : Str) = "END"))) = _
    by_cases q : (scan z 0).2 = none
    · rw [if_pos q, decide_eq_true q]; decide
    · rw [if_neg q, decide_eq_false q]; decide
  | some t =>
    have lt := (List.getElem?_eq_some_iff.mp e).1
    have z0 : decide ((tks z).length ≤ i) = false := decide_eq_false (by omega)
    rw [z0, Bool.false_and]
    show (decide (tagF t = "END") || (decide (tagF t = "W") && decide (txt t.2.1 = "END"))) = false
    rcases scan_ok t (List.mem_of_getElem? e) with ⟨k, c, ec, hc⟩ | ⟨k, c, r, ec, hl, hd, _⟩ | ⟨k, c, r, ec, hd, _⟩
    · rw [tag_sign k, ec, decide_eq_false (sgn_w c hc).1, decide_eq_false (sgn_w c hc).2.2.1]; rfl
    · have n : txt t.2.1 ≠ ("END" : Str) := fun h => by
        have := txt_inj (b := ("END" : Str).cps.toList) (h.trans (txt_self _).symm)
        rw [ec, show ("END" : Str).cps.toList = [69, 78, 68] by decide +kernel] at this
        cases this
        exact absurd hl (by decide +kernel)
      rw [tag_word k, decide_eq_false n]; decide
    · rw [tag_num k, decide_eq_false (show ("N" : Str) ≠ "END" by decide), decide_eq_false (show ("N" : Str) ≠ "W" by decide)]; rfl
/-! the table, gone by a stack -/
def isNT (s : Str) : Bool := decide (s ∈ (["BOOK", "LIST", "WORDS", "MORE", "BARTERS", "SIDE", "PARTS"] : List Str))
def ruleF (top tx : Str) : List Str :=
  if top = "BOOK" then ["book", "LIST", "{", "BARTERS", "}", "END"]
  else if top = "LIST" then ["(", "WORDS", ")"]
  else if top = "WORDS" then (if tx = ")" then [] else ["W", "MORE"])
  else if top = "MORE" then (if tx = "," then [",", "W", "MORE"] else [])
  else if top = "BARTERS" then (if tx = "}" then [] else ["W", "SIDE", "to", "SIDE", ";", "BARTERS"])
  else if top = "SIDE" then ["(", "N", "W", "PARTS", ")"]
  else if tx = "," then [",", "N", "W", "PARTS"] else []
inductive Au (z : List Nat) : Nat → List Str → Nat → Option Nat → Prop
  | nil (i : Nat) : Au z 0 [] i none
  | ex {n i : Nat} {top : Str} {stk : List Str} {out : Option Nat} : isNT top = true → Au z n (ruleF top (hText z i) ++ stk) i out → Au z (n + 1) (top :: stk) i out
  | eat {n i : Nat} {top : Str} {stk : List Str} {out : Option Nat} : isNT top = false → fitsF z i top = true → Au z n stk (i + 1) out → Au z (n + 1) (top :: stk) i out
  | bad {i : Nat} {top : Str} {stk : List Str} : isNT top = false → fitsF z i top = false → Au z 0 (top :: stk) i (some (placeF z i))
/-- these symbols are right from the i-th lexeme to the j-th -/
def AuOk (z : List Nat) (syms : List Str) (i j : Nat) : Prop := ∀ stk out n, Au z n stk j out → ∃ m, Au z m (syms ++ stk) i out
/-- these symbols go wrong at the j-th lexeme -/
def AuBad (z : List Nat) (syms : List Str) (i j : Nat) : Prop := ∀ stk, ∃ m, Au z m (syms ++ stk) i (some (placeF z j))
theorem AuOk.nil (z : List Nat) (i : Nat) : AuOk z [] i i := fun stk out n h => ⟨n, h⟩
theorem AuOk.app {z : List Nat} {a b : List Str} {i j k : Nat} (h : AuOk z a i j) (g : AuOk z b j k) : AuOk z (a ++ b) i k := fun stk out n q => by
  obtain ⟨m, q⟩ := g stk out n q
  obtain ⟨m, q⟩ := h _ out m q
  exact ⟨m, by rw [List.append_assoc]; exact q⟩
theorem AuOk.bad {z : List Nat} {a b : List Str} {i j k : Nat} (h : AuOk z a i j) (g : AuBad z b j k) : AuBad z (a ++ b) i k := fun stk => by
  obtain ⟨m, q⟩ := g stk
  obtain ⟨m, q⟩ := h _ _ m q
  exact ⟨m, by rw [List.append_assoc]; exact q⟩
theorem AuBad.more {z : List Nat} {a b : List Str} {i j : Nat} (h : AuBad z a i j) : AuBad z (a ++ b) i j := fun stk => by
  obtain ⟨m, q⟩ := h (b ++ stk)
  exact ⟨m, by rw [List.append_assoc]; exact q⟩
theorem AuOk.one {z : List Nat} {l : Str} {i : Nat} (n : isNT l = false) (h : fitsF z i l = true) : AuOk z [l] i (i + 1) := fun stk out k q => ⟨_, .eat n h q⟩
theorem AuBad.one {z : List Nat} {l : Str} {i : Nat} (n : isNT l = false) (h : fitsF z i l = false) : AuBad z [l] i i := fun stk => ⟨_, .bad n h⟩
theorem AuOk.rule {z : List Nat} {top : Str} {i j : Nat} (n : isNT top = true) (h : AuOk z (ruleF top (hText z i)) i j) : AuOk z [top] i j := fun stk out k q => by
  obtain ⟨m, q⟩ := h stk out k q
  exact ⟨_, .ex n q⟩
theorem AuBad.rule {z : List Nat} {top : Str} {i j : Nat} (n : isNT top = true) (h : AuBad z (ruleF top (hText z i)) i j) : AuBad z [top] i j := fun stk => by
  obtain ⟨m, q⟩ := h stk
  exact ⟨_, .ex n q⟩
theorem sees_text {z : List Nat} {i : Nat} {l : Str} (hl : l ≠ "") : seesF z i l = decide (hText z i = l) := by
  unfold seesF hText
  cases e : (tks z)[i]? with
  | none => exact (decide_eq_false fun h => hl h.symm).symm
  | some t => rfl
end My

namespace My
open PySem PySem.Spec PyProof.Rows L2
/-! ### the reader -/
def But (D0 : Addr) (M N : Hp) : Prop := ∀ b u, b ≠ D0 → M b = some u → N b = some u
theorem But.refl {D0 : Addr} {M : Hp} : But D0 M M := fun _ _ _ e => e
theorem But.trans {D0 : Addr} {M N O : Hp} (h : But D0 M N) (g : But D0 N O) : But D0 M O := fun b u n e => g b u n (h b u n e)
theorem But.of {D0 : Addr} {M N : Hp} (h : Same M N) : But D0 M N := fun b u _ e => h b u e
theorem But.upd {D0 : Addr} {M : Hp} {o : HO} : But D0 M (L2.upd M D0 o) := fun b u n e => by rw [upd_ne n]; exact e
theorem But.kt {D0 : Addr} {M N : Hp} {xs : List V} (h : But D0 M N) (e : M D0 = some (.lst xs)) : KT M N := fun b ys q => h b _ (ne_of q e (by intro z; cases z)) q
theorem AllAt.app {α : Type} {R : Addr → α → Prop} {ps qs : List Addr} {xs ys : List α} (h : AllAt R ps xs) (g : AllAt R qs ys) : AllAt R (ps ++ qs) (xs ++ ys) := by
  refine ⟨by rw [List.length_append, List.length_append, h.1, g.1], fun i p x h1 h2 => ?_⟩
  by_cases l : i < ps.length
  · rw [List.getElem?_append_left l] at h1
    rw [List.getElem?_append_left (by rw [← h.1]; exact l)] at h2
    exact h.2 i p x h1 h2
  · rw [List.getElem?_append_right (by omega)] at h1
    rw [List.getElem?_append_right (by rw [← h.1]; omega), ← h.1] at h2
    exact g.2 _ p x h1 h2
theorem Tks.get {H : Hp} : ∀ {xs : List V} {ts : List Tk} {i : Nat} {t : Tk}, Tks H xs ts → ts[i]? = some t → ∃ a, xs[i]? = some (.ref a) ∧ H a = some (.tup (tkV t))
  | _, _, 0, _, .cons e _, h => by cases h; exact ⟨_, rfl, e⟩
  | _, _, i + 1, _, .cons _ r, h => Tks.get (i := i) r h
def rdFs (b : Addr) (z : List Nat) (i : Nat) : List (Str × V) := [("_found", .ref b), ("_stop", .int (stopAt z (scan z 0).2 : Nat)), ("_length", .int (z.length : Nat)), ("_at", .int (i : Nat))]
structure Rd (C : Addr) (H : Hp) (x b : Addr) (z : List Nat) (i : Nat) : Prop where
  ex : ∃ (dx : Addr) (xs : List V), H x = some (.ins C dx (rdFs b z i)) ∧ H b = some (.lst xs) ∧ Tks H xs (tks z)
  le : i ≤ (tks z).length
  zl : z.length ≤ 100000
theorem Rd.same {C : Addr} {H H' : Hp} {x b : Addr} {z : List Nat} {i : Nat} (h : Rd C H x b z i) (e : Same H H') : Rd C H' x b z i :=
  ⟨let ⟨dx, xs, a1, a2, a3⟩ := h.ex; ⟨dx, xs, e _ _ a1, e _ _ a2, a3.same e⟩, h.le, h.zl⟩
def spSees (C : Addr) : Sp := fun vs H Q _ => ∃ (x b : Addr) (l : Str) (z : List Nat) (i : Nat), vs = [.ref x, .str l] ∧ Rd C H x b z i ∧ Q (.bl (seesF z i l)) H
def spPlace (C : Addr) : Sp := fun vs H Q _ => ∃ (x b : Addr) (z : List Nat) (i : Nat), vs = [.ref x] ∧ Rd C H x b z i ∧ Q (.int (placeF z i : Nat)) H
/-- the error of a wrong place -/
def WrE (Ce : Addr) (E : XK) (H : Hp) (x : Addr) (p : Nat) : Prop := ∀ (dx : Addr) (H' : Hp), But x H H' → H' dx = some (.xd [("place", .int (p : Nat))]) → E (.ref Ce) (some dx) H'
def spTake (C Ce : Addr) : Sp := fun vs H Q E => ∃ (x b : Addr) (l : Str) (z : List Nat) (i : Nat), vs = [.ref x, .str l] ∧ Rd C H x b z i ∧
  (seesF z i l = true → ∀ H', But x H H' → Rd C H' x b z (i + 1) → Q .non H') ∧ (seesF z i l = false → WrE Ce E H x (placeF z i))
def lexAt (z : List Nat) (i : Nat) : Str := match (tks z)[i]? with
  | some t => txt t.2.1
  | none => ""
def spTakeS (C Ce : Addr) : Sp := fun vs H Q E => ∃ (x b : Addr) (s : Str) (z : List Nat) (i : Nat), vs = [.ref x, .str s] ∧ Rd C H x b z i ∧
  (sortB z i s = true → ∀ H', But x H H' → Rd C H' x b z (i + 1) → Q (.str (lexAt z i)) H') ∧ (sortB z i s = false → WrE Ce E H x (placeF z i))
def spTakeE (C Ce : Addr) : Sp := fun vs H Q E => ∃ (x b : Addr) (z : List Nat) (i : Nat), vs = [.ref x] ∧ Rd C H x b z i ∧
  (fitsF z i "END" = true → Q .non H) ∧ (fitsF z i "END" = false → WrE Ce E H x (placeF z i))
def spReader (C : Addr) : Sp := fun vs H Q _ => ∃ (x dx : Addr) (z : Str), vs = [.ref x, .str z] ∧ H x = some (.ins C dx []) ∧ z.length ≤ 100000 ∧ ∀ (b : Addr) (H' : Hp), H b = none → But x H H' → Rd C H' x b z.cps.toList 0 → Q .non H'
section
variable {P : Program} {w : World} {K : PySem.W.Frag} {mg : Str → Option Value} {base : Heap}
theorem ok_Reader_init (T : Tx K mg) : FnOk P w K mg base CX0 4 T.a_Reader_init T.fd_Reader_init ["self", "text"] (spReader T.C_Reader) := by
  refine T.F_Reader_init.ok sc_Reader_init (fun vs H Q E h => ?_) (fun cdv A outer st H vs Q E hr h => ?_)
  · obtain ⟨x, dx, z, rfl, _⟩ := h
    rfl
  obtain ⟨x, dx, z, rfl, hx, zl, k⟩ := h
  have G_scanned : FnOk P w K mg base CX0 3 T.a_scanned T.fd_scanned ["text"] spScanned := ok_scanned T
  have hr_scanned : Room 3 _ := hr
  refine ⟨_, ((pss_cons (ps_asg (pe_call G_scanned hr_scanned rfl T.m_scanned T.F_scanned.kp T.b_scanned .nil pass0 (pa_cons (pv 1) pa_nil)) (pg_tup rfl (pgs_cons (pg_fld (pv 0)) (pgs_cons (pg_fld (pv 0)) pgs_nil))))
      (pss_cons (ps_fld (pv 0) (pe_callB call_len_str (by rfl) T.n_len (by decide +kernel) (pa_cons (pv 1) pa_nil)) rfl)
      (pss_one (ps_fld (pv 0) pe_int rfl))))), ?_⟩
  refine ⟨_, rfl, z, rfl, zl, fun a b xs H1 s1 hb eb tk ea => ?_⟩
  have nbx : b ≠ x := fun e => by rw [e, hx] at hb; cases hb
  have e1 := s1 _ _ hx
  refine ⟨a, _, rfl, SqT.of ea, rfl, _, _, rfl, _, rfl, x, _, dx, [], rfl, e1, T.cl_Reader, T.na_Reader_found, by decide, ?_⟩
  have u1 := upd_same (H := H1) (a := x) (o := HO.ins T.C_Reader dx (putF "_found" (.ref b) []))
  refine ⟨_, _, rfl, _, rfl, x, _, dx, _, rfl, u1, T.cl_Reader, T.na_Reader_stop, by show 1 < 1000; decide, rfl, ?_⟩
  generalize hM : L2.upd H1 x (.ins T.C_Reader dx (putF "_found" (.ref b) [])) = M1 at u1
  have b1 : But x H1 M1 := by rw [← hM]; exact But.upd
  have u2 := upd_same (H := M1) (a := x) (o := HO.ins T.C_Reader dx (putF "_stop" (.int (stopAt z.cps.toList (scan z.cps.toList 0).2 : Nat)) (putF "_found" (.ref b) [])))
  refine ⟨_, rfl, z, rfl, sz6 zl, _, rfl, x, _, dx, _, rfl, u2, T.cl_Reader, T.na_Reader_length, by show 2 < 1000; decide, ?_⟩
  have e3 : ∀ (M2 : Hp) (o o2 : HO), But x M2 (L2.upd (L2.upd M2 x o) x o2) := fun M2 o o2 c u n e => by rw [upd_ne n, upd_ne n]; exact e
  refine ⟨_, rfl, x, _, dx, _, rfl, upd_same, T.cl_Reader, T.na_Reader_at, by show 3 < 1000; decide, ?_⟩
  refine k b _ hb (fun c u n e => ?_) ⟨⟨dx, xs, upd_same, ?_, ?_⟩, Nat.zero_le _, by rw [str_len]; exact zl⟩
  · rw [upd_ne n, upd_ne n, upd_ne n]
    exact b1 _ _ n (s1 _ _ e)
  · rw [upd_ne nbx, upd_ne nbx, upd_ne nbx]
    exact b1 _ _ nbx eb
  · refine tk.keep fun c ys e => ?_
    have n : c ≠ x := fun q => by rw [q, e1] at e; cases e
    rw [upd_ne n, upd_ne n, upd_ne n]
    exact b1 _ _ n e
theorem dec_str8 (a b : Str) : decide (V.str a = V.str b) = decide (a = b) := by
  rw [decide_eq_decide]
  exact ⟨V.str.inj, congrArg V.str⟩
theorem ok_sees (T : Tx K mg) : FnOk P w K mg base CX0 1 T.a_Reader_sees T.fd_Reader_sees ["self", "lexeme"] (spSees T.C_Reader) := by
  refine T.F_Reader_sees.ok sc_Reader_sees (fun vs H Q E h => ?_) (fun cdv A outer st H vs Q E hr h => ?_)
  · obtain ⟨x, b, l, z, i, rfl, _⟩ := h
    rfl
  obtain ⟨x, b, l, z, i, rfl, R, k⟩ := h
  obtain ⟨dx, xs, hx, hb, tk⟩ := R.ex
  refine ⟨_, ((pss_one (ps_ret (pe_and (pe_cmpR op_lt (pe_fld (pv 0) rfl) (pe_callB call_len_seq (by rfl) T.n_len (by decide +kernel) (pa_cons (pe_fld (pv 0) rfl) pa_nil)) (nomark _)) (pe_one (pe_cmpR op_eq (pe_ix (show IxR _ (rIxT K) from ix_tup) (pe_ix (show IxR _ (rIxL K) from ix_list) (pe_fld (pv 0) rfl) (pe_fld (pv 0) rfl) (fun _ _ => rfl)) pe_int (fun _ _ => rfl)) (pv 1) (nomark _))))))), ?_⟩
  refine ⟨_, rfl, x, _, _, _, _, rfl, hx, T.cl_Reader, T.na_Reader_at, rfl, _, rfl, x, _, _, _, _, rfl, hx, T.cl_Reader, T.na_Reader_found, rfl, b, _, rfl, .inl (SqL.of hb), _, _, rfl, rfl, _, rfl, ?_⟩
  unfold seesF at k
  refine iteD (fun t => ?_) (fun t => ?_)
  · have lt : i < (tks z).length := by rw [← tk.length]; omega
    have e := List.getElem?_eq_getElem lt
    generalize (tks z)[i] = tt at e
    obtain ⟨a, ea, et⟩ := tk.get e
    rw [e] at k
    refine ⟨_, rfl, x, _, _, _, _, rfl, hx, T.cl_Reader, T.na_Reader_found, rfl, _, rfl, x, _, _, _, _, rfl, hx, T.cl_Reader, T.na_Reader_at, rfl, b, _, _, _, rfl, rfl, SqL.of hb, atI_nat ea, a, _, _, _, rfl, rfl, SqT.of et, rfl, _, rfl, rfl, ?_⟩
    rw [dec_str8]
    exact k
  · have e : (tks z)[i]? = none := List.getElem?_eq_none_iff.mpr (by rw [← tk.length]; omega)
    rw [e] at k
    exact k
theorem ok_place (T : Tx K mg) : FnOk P w K mg base CX0 1 T.a_Reader_wrong_place T.fd_Reader_wrong_place ["self"] (spPlace T.C_Reader) := by
  refine T.F_Reader_wrong_place.ok sc_Reader_wrong_place (fun vs H Q E h => ?_) (fun cdv A outer st H vs Q E hr h => ?_)
  · obtain ⟨x, b, z, i, rfl, _⟩ := h
    rfl
  obtain ⟨x, b, z, i, rfl, R, k⟩ := h
  obtain ⟨dx, xs, hx, hb, tk⟩ := R.ex
  refine ⟨_, ((pss_one (ps_ret (pe_ifExp (pt_cmpR op_lt (pe_fld (pv 0) rfl) (pe_callB call_len_seq (by rfl) T.n_len (by decide +kernel) (pa_cons (pe_fld (pv 0) rfl) pa_nil)) (nomark _)) (pe_ix (show IxR _ (rIxT K) from ix_tup) (pe_ix (show IxR _ (rIxL K) from ix_list) (pe_fld (pv 0) rfl) (pe_fld (pv 0) rfl) (fun _ _ => rfl)) pe_int (fun _ _ => rfl)) (pe_fld (pv 0) rfl))))), ?_⟩
  refine ⟨_, rfl, x, _, _, _, _, rfl, hx, T.cl_Reader, T.na_Reader_at, rfl, _, rfl, x, _, _, _, _, rfl, hx, T.cl_Reader, T.na_Reader_found, rfl, b, _, rfl, .inl (SqL.of hb), _, _, rfl, rfl, _, rfl, ?_⟩
  unfold placeF at k
  refine iteD (fun t => ?_) (fun t => ?_)
  · have lt : i < (tks z).length := by rw [← tk.length]; omega
    have e := List.getElem?_eq_getElem lt
    generalize (tks z)[i] = tt at e
    obtain ⟨a, ea, et⟩ := tk.get e
    rw [e] at k
    exact ⟨_, rfl, x, _, _, _, _, rfl, hx, T.cl_Reader, T.na_Reader_found, rfl, _, rfl, x, _, _, _, _, rfl, hx, T.cl_Reader, T.na_Reader_at, rfl, b, _, _, _, rfl, rfl, SqL.of hb, atI_nat ea, a, _, _, _, rfl, rfl, SqT.of et, rfl, k⟩
  · have e : (tks z)[i]? = none := List.getElem?_eq_none_iff.mpr (by rw [← tk.length]; omega)
    rw [e] at k
    exact ⟨_, rfl, x, _, _, _, _, rfl, hx, T.cl_Reader, T.na_Reader_stop, rfl, k⟩
theorem Rd.next {C : Addr} {H : Hp} {x dx b : Addr} {xs : List V} {z : List Nat} {i : Nat} (R : Rd C H x b z i) (hx : H x = some (.ins C dx (rdFs b z i))) (hb : H b = some (.lst xs)) (tk : Tks H xs (tks z)) (lt : i < (tks z).length) :
    Rd C (L2.upd H x (.ins C dx (rdFs b z (i + 1)))) x b z (i + 1) := by
  have nb : b ≠ x := fun q => by rw [q, hx] at hb; cases hb
  refine ⟨⟨dx, xs, upd_same, by rw [upd_ne nb]; exact hb, tk.keep fun c ys e => ?_⟩, lt, R.zl⟩
  rw [upd_ne (fun q => by rw [q, hx] at e; cases e)]
  exact e
theorem sees_lt {z : List Nat} {i : Nat} {l : Str} (h : seesF z i l = true) : i < (tks z).length := by
  unfold seesF at h
  cases e : (tks z)[i]? with
  | none => rw [e] at h; cases h
  | some t => exact (List.getElem?_eq_some_iff.mp e).1
theorem sort_lt {z : List Nat} {i : Nat} {l : Str} (h : sortB z i l = true) : i < (tks z).length := by
  unfold sortB at h
  cases e : (tks z)[i]? with
  | none => rw [e] at h; cases h
  | some t => exact (List.getElem?_eq_some_iff.mp e).1
theorem ok_take (T : Tx K mg) : FnOk P w K mg base (L2.CX P w) 3 T.a_Reader_take T.fd_Reader_take ["self", "lexeme"] (spTake T.C_Reader T.e_BadText.C) := by
  refine T.F_Reader_take.okX sc_Reader_take (fun vs H Q E h => ?_) (fun cdv A outer st H vs Q E hr h => ?_)
  · obtain ⟨x, b, l, z, i, rfl, _⟩ := h
    rfl
  obtain ⟨x, b, l, z, i, rfl, R, kY, kN⟩ := h
  obtain ⟨dx, xs, hx, hb, tk⟩ := R.ex
  have G_Reader_sees : FnOk P w K mg base CX0 1 T.a_Reader_sees T.fd_Reader_sees ["self", "lexeme"] (spSees T.C_Reader) := ok_sees T
  have hr_Reader_sees : Room 1 _ := hr.mono (by decide)
  have G_Reader_wrong_place : FnOk P w K mg base CX0 1 T.a_Reader_wrong_place T.fd_Reader_wrong_place ["self"] (spPlace T.C_Reader) := ok_place T
  have hr_Reader_wrong_place : Room 1 _ := hr.mono (by decide)
  have hr2 : Room 2 _ := hr
  refine ⟨_, ((pss_cons (ps_if (pt_not (pt_val (pe_meth (pv 0) T.cl_Reader T.me_Reader_sees G_Reader_sees hr_Reader_sees T.b_Reader_sees .nil pass0 (pa_cons (pv 1) pa_nil))))
        (pss_one (ps_raise rfl (takes_of rfl rfl rfl rfl) (pmk_oex T.e_BadText.oex T.e_BadText.iC T.e_BadText.tI (ok_badText T) hr2 T.e_BadText.b .nil pass0 rfl T.e_BadText.m (pa_cons (pe_meth0 (pv 0) T.cl_Reader T.me_Reader_wrong_place G_Reader_wrong_place hr_Reader_wrong_place T.b_Reader_wrong_place .nil pass0) pa_nil))))
        pss_nil)
      (pss_one (ps_fldaug (pv 0) pe_int in_add)))), ?_⟩
  refine ⟨_, rfl, x, _, _, rfl, hx, rfl, _, rfl, x, b, l, z, i, rfl, R, _, rfl, ?_⟩
  cases q : seesF z i l with
  | true =>
    refine iteF ?_
    refine ⟨_, rfl, x, _, dx, _, _, rfl, hx, T.cl_Reader, T.na_Reader_at, rfl, _, _, rfl, rfl, dx, _, hx, by show 4 < 1000; decide, ?_⟩
    exact kY q _ But.upd (R.next hx hb tk (sees_lt q))
  | false =>
    have kW := kN q
    refine iteT ⟨_, rfl, x, _, _, rfl, hx, rfl, x, b, z, i, rfl, R, (by show 1 ≤ 1000; decide), fun e he => ?_⟩
    refine ⟨e, _, rfl, upd_same, fun dx2 h1 h2 => ⟨rfl, dx2, [("place", .int (placeF z i : Nat))], upd_same, ?_, ?_, ?_⟩⟩
    · rw [upd_ne h2]; exact upd_same
    · rw [upd_ne h2] at h1; exact h1
    · refine kW dx2 _ ?_ upd_same
      intro y u _ hy
      have n1 : y ≠ e := ne_of_none hy he
      have n2 : y ≠ dx2 := by
        rw [upd_ne h2] at h1
        exact ne_of_none hy h1
      rw [upd_ne n2, del_ne n1, upd_ne n1, upd_ne n2, upd_ne n1]
      exact hy
theorem ok_take_sort (T : Tx K mg) : FnOk P w K mg base (L2.CX P w) 3 T.a_Reader_take_sort T.fd_Reader_take_sort ["self", "sort"] (spTakeS T.C_Reader T.e_BadText.C) := by
  refine T.F_Reader_take_sort.okX sc_Reader_take_sort (fun vs H Q E h => ?_) (fun cdv A outer st H vs Q E hr h => ?_)
  · obtain ⟨x, b, l, z, i, rfl, _⟩ := h
    rfl
  obtain ⟨x, b, l, z, i, rfl, R, kY, kN⟩ := h
  obtain ⟨dx, xs, hx, hb, tk⟩ := R.ex
  have G_Reader_wrong_place : FnOk P w K mg base CX0 1 T.a_Reader_wrong_place T.fd_Reader_wrong_place ["self"] (spPlace T.C_Reader) := ok_place T
  have hr_Reader_wrong_place : Room 1 _ := hr.mono (by decide)
  have hr2 : Room 2 _ := hr
  refine ⟨_, ((pss_cons (ps_if (PW.pt (pw_or (pt_cmpR op_eq (pe_fld (pv 0) rfl) (pe_callB call_len_seq (by rfl) T.n_len (by decide +kernel) (pa_cons (pe_fld (pv 0) rfl) pa_nil)) (nomark _)) (pw_or1 (pt_cmpR op_ne (pe_ix (show IxR _ (rIxT K) from ix_tup) (pe_ix (show IxR _ (rIxL K) from ix_list) (pe_fld (pv 0) rfl) (pe_fld (pv 0) rfl) (fun _ _ => rfl)) pe_int (fun _ _ => rfl)) (pv 1) (nomark _)))))
        (pss_one (ps_raise rfl (takes_of rfl rfl rfl rfl) (pmk_oex T.e_BadText.oex T.e_BadText.iC T.e_BadText.tI (ok_badText T) hr2 T.e_BadText.b .nil pass0 rfl T.e_BadText.m (pa_cons (pe_meth0 (pv 0) T.cl_Reader T.me_Reader_wrong_place G_Reader_wrong_place hr_Reader_wrong_place T.b_Reader_wrong_place .nil pass0) pa_nil))))
        pss_nil)
      (pss_cons (ps_fldaug (pv 0) pe_int in_add)
      (pss_one (ps_ret (pe_ix (show IxR _ (rIxT K) from ix_tup) (pe_ix (show IxR _ (rIxL K) from ix_list) (pe_fld (pv 0) rfl) (pe_op op_sub (pe_fld (pv 0) rfl) pe_int) (fun _ _ => rfl)) pe_int (fun _ _ => rfl))))))), ?_⟩
  refine ⟨_, rfl, x, _, _, _, _, rfl, hx, T.cl_Reader, T.na_Reader_at, rfl, _, rfl, x, _, _, _, _, rfl, hx, T.cl_Reader, T.na_Reader_found, rfl, b, _, rfl, .inl (SqL.of hb), rfl, _, rfl, ?_⟩
  have lx := tk.length
  refine iteD (fun t => ?_) (fun t => ?_)
  · have t : (i : Int) = (xs.length : Int) := V.int.inj t
    have kW := kN (by
      unfold sortB
      rw [List.getElem?_eq_none_iff.mpr (by omega)])
    refine iteT ⟨_, rfl, x, _, _, rfl, hx, rfl, x, b, z, i, rfl, R, (by show 1 ≤ 1000; decide), fun e he => ?_⟩
    refine ⟨e, _, rfl, upd_same, fun dx2 h1 h2 => ⟨rfl, dx2, [("place", .int (placeF z i : Nat))], upd_same, ?_, ?_, ?_⟩⟩
    · rw [upd_ne h2]; exact upd_same
    · rw [upd_ne h2] at h1; exact h1
    · refine kW dx2 _ ?_ upd_same
      intro y u _ hy
      have n1 : y ≠ e := ne_of_none hy he
      have n2 : y ≠ dx2 := by
        rw [upd_ne h2] at h1
        exact ne_of_none hy h1
      rw [upd_ne n2, del_ne n1, upd_ne n1, upd_ne n2, upd_ne n1]
      exact hy
  · have t : i ≠ xs.length := fun q => t (congrArg (fun n : Nat => V.int (n : Int)) q)
    have lt : i < (tks z).length := by
      have := R.le
      omega
    have e := List.getElem?_eq_getElem lt
    generalize (tks z)[i] = tt at e
    obtain ⟨a, ea, et⟩ := tk.get e
    refine ⟨_, rfl, x, _, _, _, _, rfl, hx, T.cl_Reader, T.na_Reader_found, rfl, _, rfl, x, _, _, _, _, rfl, hx, T.cl_Reader, T.na_Reader_at, rfl, b, _, _, _, rfl, rfl, SqL.of hb, atI_nat ea, a, _, _, _, rfl, rfl, SqT.of et, rfl, _, rfl, rfl, _, rfl, ?_⟩
    rw [dec_str8]
    have es : sortB z i l = decide (tt.1 = l) := by unfold sortB; rw [e]
    rw [es] at kY kN
    have el : lexAt z i = txt tt.2.1 := by unfold lexAt; rw [e]
    by_cases q : tt.1 = l
    · rw [decide_eq_true q]
      have kY := kY (decide_eq_true q)
      refine iteF ?_
      have nb : b ≠ x := fun q => by rw [q, hx] at hb; cases hb
      have na : a ≠ x := fun q => by rw [q, hx] at et; cases et
      refine ⟨_, rfl, x, _, dx, _, _, rfl, hx, T.cl_Reader, T.na_Reader_at, rfl, _, _, rfl, rfl, dx, _, hx, by show 4 < 1000; decide, ?_⟩
      have RN := R.next hx hb tk lt
      have u1 := upd_same (H := H) (a := x) (o := HO.ins T.C_Reader dx (rdFs b z (i + 1)))
      refine ⟨_, rfl, x, _, _, _, _, rfl, u1, T.cl_Reader, T.na_Reader_found, rfl, _, rfl, x, _, _, _, _, rfl, u1, T.cl_Reader, T.na_Reader_at, rfl, _, _, rfl, rfl, b, _, _, _, rfl, rfl, SqL.of (by rw [upd_ne nb]; exact hb), ?_, a, _, _, _, rfl, rfl, SqT.of (by rw [upd_ne na]; exact et), rfl, ?_⟩
      · rw [show (((i + 1 : Nat) : Int) - 1) = (i : Int) by omega]
        exact atI_nat ea
      · rw [el] at kY
        exact kY _ But.upd RN
    · rw [decide_eq_false q]
      have kW := kN (decide_eq_false q)
      refine iteT ⟨_, rfl, x, _, _, rfl, hx, rfl, x, b, z, i, rfl, R, (by show 1 ≤ 1000; decide), fun e he => ?_⟩
      refine ⟨e, _, rfl, upd_same, fun dx2 h1 h2 => ⟨rfl, dx2, [("place", .int (placeF z i : Nat))], upd_same, ?_, ?_, ?_⟩⟩
      · rw [upd_ne h2]; exact upd_same
      · rw [upd_ne h2] at h1; exact h1
      · refine kW dx2 _ ?_ upd_same
        intro y u _ hy
        have n1 : y ≠ e := ne_of_none hy he
        have n2 : y ≠ dx2 := by
          rw [upd_ne h2] at h1
          exact ne_of_none hy h1
        rw [upd_ne n2, del_ne n1, upd_ne n1, upd_ne n2, upd_ne n1]
        exact hy
theorem ok_take_end (T : Tx K mg) : FnOk P w K mg base (L2.CX P w) 3 T.a_Reader_take_end T.fd_Reader_take_end ["self"] (spTakeE T.C_Reader T.e_BadText.C) := by
  refine T.F_Reader_take_end.okX sc_Reader_take_end (fun vs H Q E h => ?_) (fun cdv A outer st H vs Q E hr h => ?_)
  · obtain ⟨x, b, z, i, rfl, _⟩ := h
    rfl
  obtain ⟨x, b, z, i, rfl, R, kY, kN⟩ := h
  obtain ⟨dx, xs, hx, hb, tk⟩ := R.ex
  have G_Reader_wrong_place : FnOk P w K mg base CX0 1 T.a_Reader_wrong_place T.fd_Reader_wrong_place ["self"] (spPlace T.C_Reader) := ok_place T
  have hr_Reader_wrong_place : Room 1 _ := hr.mono (by decide)
  have hr2 : Room 2 _ := hr
  refine ⟨_, ((pss_one (ps_if (PW.pt (pw_or (pt_cmpR op_lt (pe_fld (pv 0) rfl) (pe_callB call_len_seq (by rfl) T.n_len (by decide +kernel) (pa_cons (pe_fld (pv 0) rfl) pa_nil)) (nomark _)) (pw_or1 (pt_cmpR op_lt (pe_fld (pv 0) rfl) (pe_fld (pv 0) rfl) (nomark _)))))
        (pss_one (ps_raise rfl (takes_of rfl rfl rfl rfl) (pmk_oex T.e_BadText.oex T.e_BadText.iC T.e_BadText.tI (ok_badText T) hr2 T.e_BadText.b .nil pass0 rfl T.e_BadText.m (pa_cons (pe_meth0 (pv 0) T.cl_Reader T.me_Reader_wrong_place G_Reader_wrong_place hr_Reader_wrong_place T.b_Reader_wrong_place .nil pass0) pa_nil))))
        pss_nil))), ?_⟩
  have lx := tk.length
  refine ⟨_, rfl, x, _, _, _, _, rfl, hx, T.cl_Reader, T.na_Reader_at, rfl, _, rfl, x, _, _, _, _, rfl, hx, T.cl_Reader, T.na_Reader_found, rfl, b, _, rfl, .inl (SqL.of hb), _, _, rfl, rfl, _, rfl, ?_⟩
  have fe := fits_end (z := z) (i := i)
  rw [fe] at kY kN
  have bad : (decide ((tks z).length ≤ i) && decide ((scan z 0).2 = none)) = false → WrE T.e_BadText.C E H x (placeF z i) := kN
  refine iteD (fun t => ?_) (fun t => ?_)
  · have kW := bad (by rw [decide_eq_false (by omega)]; rfl)
    refine iteT ⟨_, rfl, x, _, _, rfl, hx, rfl, x, b, z, i, rfl, R, (by show 1 ≤ 1000; decide), fun e he => ?_⟩
    refine ⟨e, _, rfl, upd_same, fun dx2 h1 h2 => ⟨rfl, dx2, [("place", .int (placeF z i : Nat))], upd_same, ?_, ?_, ?_⟩⟩
    · rw [upd_ne h2]; exact upd_same
    · rw [upd_ne h2] at h1; exact h1
    · refine kW dx2 _ ?_ upd_same
      intro y u _ hy
      have n1 : y ≠ e := ne_of_none hy he
      have n2 : y ≠ dx2 := by
        rw [upd_ne h2] at h1
        exact ne_of_none hy h1
      rw [upd_ne n2, del_ne n1, upd_ne n1, upd_ne n2, upd_ne n1]
      exact hy
  · refine ⟨_, rfl, x, _, _, _, _, rfl, hx, T.cl_Reader, T.na_Reader_stop, rfl, _, rfl, x, _, _, _, _, rfl, hx, T.cl_Reader, T.na_Reader_length, rfl, _, _, rfl, rfl, _, rfl, ?_⟩
    have z1 : decide ((tks z).length ≤ i) = true := decide_eq_true (by omega)
    cases q : (scan z 0).2 with
    | none =>
      have e1 : stopAt z (none : Option Nat) = z.length := rfl
      rw [e1, decide_eq_false (by omega)]
      exact iteF (kY (by rw [z1, q]; rfl))
    | some n =>
      have l := scan_lt q
      have e1 : stopAt z (some n) = n := rfl
      have kW := bad (by rw [z1, q]; rfl)
      rw [e1, decide_eq_true (by omega)]
      refine iteT ⟨_, rfl, x, _, _, rfl, hx, rfl, x, b, z, i, rfl, R, (by show 1 ≤ 1000; decide), fun e he => ?_⟩
      refine ⟨e, _, rfl, upd_same, fun dx2 h1 h2 => ⟨rfl, dx2, [("place", .int (placeF z i : Nat))], upd_same, ?_, ?_, ?_⟩⟩
      · rw [upd_ne h2]; exact upd_same
      · rw [upd_ne h2] at h1; exact h1
      · refine kW dx2 _ ?_ upd_same
        intro y u _ hy
        have n1 : y ≠ e := ne_of_none hy he
        have n2 : y ≠ dx2 := by
          rw [upd_ne h2] at h1
          exact ne_of_none hy h1
        rw [upd_ne n2, del_ne n1, upd_ne n1, upd_ne n2, upd_ne n1]
        exact hy
end
end My

namespace My
open PySem PySem.Spec PyProof.Rows L2
/-! ### lists of words, sides, parts -/
def isSg (l : Str) (t : Tk) : Bool := decide (txt t.2.1 = l)
/-- so many lexemes of this text come ahead of the j-th -/
def cbF (l : Str) (z : List Nat) (j : Nat) : Nat := ((tks z).take j).countP (isSg l)
theorem cb_succ {l : Str} {z : List Nat} {j : Nat} : cbF l z (j + 1) = cbF l z j + (if seesF z j l = true then 1 else 0) := by
  unfold cbF seesF
  cases e : (tks z)[j]? with
  | none =>
    have h := List.getElem?_eq_none_iff.mp e
    rw [List.take_of_length_le h, List.take_of_length_le (by omega)]
    simp
  | some t =>
    rw [← take_snoc e, List.countP_append, List.countP_singleton]
    rfl
theorem cb_mono {l : Str} {z : List Nat} {i j : Nat} (h : i ≤ j) : cbF l z i ≤ cbF l z j := by
  unfold cbF
  exact (List.take_sublist_take_left h).countP_le
theorem lit_no {l : Str} (h : l ∈ LITS) : isNT l = false := by
  have : (LITS.all fun l => !isNT l) = true := by decide +kernel
  have := List.all_eq_true.mp this l h
  rwa [Bool.not_eq_true'] at this
theorem AuOk.lit {z : List Nat} {l : Str} {i : Nat} (hl : l ∈ LITS) (h : seesF z i l = true) : AuOk z [l] i (i + 1) := .one (lit_no hl) (by rw [sees_fits hl]; exact h)
theorem AuBad.lit {z : List Nat} {l : Str} {i : Nat} (hl : l ∈ LITS) (h : seesF z i l = false) : AuBad z [l] i i := .one (lit_no hl) (by rw [sees_fits hl]; exact h)
theorem AuOk.w {z : List Nat} {i : Nat} (h : sortB z i "word" = true) : AuOk z ["W"] i (i + 1) := .one (by decide) (by rw [fits_sort.1]; exact h)
theorem AuBad.w {z : List Nat} {i : Nat} (h : sortB z i "word" = false) : AuBad z ["W"] i i := .one (by decide) (by rw [fits_sort.1]; exact h)
theorem AuOk.n {z : List Nat} {i : Nat} (h : sortB z i "number" = true) : AuOk z ["N"] i (i + 1) := .one (by decide) (by rw [fits_sort.2]; exact h)
theorem AuBad.n {z : List Nat} {i : Nat} (h : sortB z i "number" = false) : AuBad z ["N"] i i := .one (by decide) (by rw [fits_sort.2]; exact h)
theorem lit_at (k : Nat) (h : k < 8) : LITS.getD k "" ∈ LITS := by
  have : k < LITS.length := h
  rw [List.getD_eq_getElem?_getD, List.getElem?_eq_getElem this]
  exact List.getElem_mem this
/-- whether a text is there is told by the head's text -/
theorem text_is {z : List Nat} {i : Nat} {l : Str} (hl : l ≠ "") (b : Bool) (h : seesF z i l = b) : decide (hText z i = l) = b := by rw [← sees_text hl]; exact h
theorem AuOk.more {z : List Nat} {i j : Nat} (s : seesF z i "," = true) (w : sortB z (i + 1) "word" = true) (h : AuOk z ["MORE"] (i + 2) j) : AuOk z ["MORE"] i j := by
  refine .rule (by decide) ?_
  have e : hText z i = "," := of_decide_eq_true (text_is (by decide) true s)
  have : ruleF "MORE" (hText z i) = ([","] : List Str) ++ ((["W"] : List Str) ++ (["MORE"] : List Str)) := by rw [e]; rfl
  rw [this]
  exact (AuOk.lit (lit_at 6 (by decide)) s).app ((AuOk.w w).app h)
theorem AuOk.stop {z : List Nat} {i : Nat} (s : seesF z i "," = false) : AuOk z ["MORE"] i i := by
  refine .rule (by decide) ?_
  have e : hText z i ≠ "," := of_decide_eq_false (text_is (by decide) false s)
  have : ruleF "MORE" (hText z i) = [] := by
    unfold ruleF
    rw [if_neg (by decide), if_neg (by decide), if_neg (by decide), if_pos rfl, if_neg e]
  rw [this]
  exact .nil z i
theorem AuBad.more1 {z : List Nat} {i : Nat} (s : seesF z i "," = true) (w : sortB z (i + 1) "word" = false) : AuBad z ["MORE"] i (i + 1) := by
  refine .rule (by decide) ?_
  have e : hText z i = "," := of_decide_eq_true (text_is (by decide) true s)
  have : ruleF "MORE" (hText z i) = ([","] : List Str) ++ ((["W"] : List Str) ++ (["MORE"] : List Str)) := by rw [e]; rfl
  rw [this]
  exact (AuOk.lit (lit_at 6 (by decide)) s).bad (AuBad.w w).more
theorem AuBad.more2 {z : List Nat} {i j : Nat} (s : seesF z i "," = true) (w : sortB z (i + 1) "word" = true) (h : AuBad z ["MORE"] (i + 2) j) : AuBad z ["MORE"] i j := by
  refine .rule (by decide) ?_
  have e : hText z i = "," := of_decide_eq_true (text_is (by decide) true s)
  have : ruleF "MORE" (hText z i) = ([","] : List Str) ++ ((["W"] : List Str) ++ (["MORE"] : List Str)) := by rw [e]; rfl
  rw [this]
  exact (AuOk.lit (lit_at 6 (by decide)) s).bad ((AuOk.w w).bad h)
/-- a token of the sort is there, and its text is a word -/
theorem word_at {z : List Nat} {i : Nat} (h : sortB z i "word" = true) : wordD (.str (lexAt z i)) = true := by
  unfold sortB at h
  unfold lexAt
  cases e : (tks z)[i]? with
  | none => rw [e] at h; cases h
  | some t =>
    rw [e] at h
    have h : t.1 = "word" := of_decide_eq_true h
    rcases scan_ok t (List.mem_of_getElem? e) with ⟨k, _⟩ | ⟨_, c, r, ec, hl, hd, le⟩ | ⟨k, _⟩
    · rw [h] at k; exact absurd k (by decide)
    · show wordD (.str (txt t.2.1)) = true
      rw [ec]
      show (decide ((txt (c :: r)).length ≤ 12) && (inS LTR c && (c :: r).all isAl)) = true
      have hal : (c :: r).all isAl = true := List.all_eq_true.mpr fun d hd' => (by
        have := hd d hd'
        rwa [in_cat] at this)
      rw [txt_len, decide_eq_true le, hl, hal]
      rfl
    · rw [h] at k; exact absurd k (by decide)
/-- where a reader stands, as its cell tells -/
def atF (H : Hp) (x : Addr) : Nat := match H x with
  | some (.ins _ _ fs) => (match fs.lookup ("_at" : Str) with
    | some (.int k) => k.toNat
    | _ => 0)
  | _ => 0
theorem Rd.at_ {C : Addr} {H : Hp} {x b : Addr} {z : List Nat} {i : Nat} (R : Rd C H x b z i) : atF H x = i := by
  obtain ⟨dx, xs, hx, _, _⟩ := R.ex
  unfold atF
  rw [hx]
  rfl
theorem But.new {x p : Addr} {H M : Hp} {o : HO} (h : But x H M) (n : M p = none) : But x H (L2.upd M p o) := h.trans (.of (same_new n o))
theorem But.free {x b : Addr} {H M : Hp} (h : But x H M) (n : M b = none) (nx : b ≠ x) : H b = none := by
  cases e : H b with
  | none => rfl
  | some u => rw [h b u nx e] at n; cases n
/-- the table's words behind one word: what is right, and where it goes wrong, as from an earlier place -/
def Going (z : List Nat) (sym : Str) (a j : Nat) : Prop := (∀ k, AuOk z [sym] j k → AuOk z [sym] a k) ∧ ∀ k, AuBad z [sym] j k → AuBad z [sym] a k
theorem Going.refl {z : List Nat} {sym : Str} {a : Nat} : Going z sym a a := ⟨fun _ h => h, fun _ h => h⟩
theorem list_rule {z : List Nat} {i : Nat} : ruleF "LIST" (hText z i) = (["("] : List Str) ++ ((["WORDS"] : List Str) ++ ([")"] : List Str)) := rfl
theorem words_some {z : List Nat} {i : Nat} (s : seesF z i ")" = false) : ruleF "WORDS" (hText z i) = (["W"] : List Str) ++ (["MORE"] : List Str) := by
  have e : hText z i ≠ ")" := of_decide_eq_false (text_is (by decide) false s)
  unfold ruleF
  rw [if_neg (by decide), if_neg (by decide), if_pos rfl, if_neg e]; rfl
theorem words_none {z : List Nat} {i : Nat} (s : seesF z i ")" = true) : ruleF "WORDS" (hText z i) = [] := by
  have e : hText z i = ")" := of_decide_eq_true (text_is (by decide) true s)
  rw [e]; rfl
theorem scanF_len : ∀ (f : Nat) (t : List Nat) (p : Nat), (scanF f t p).1.length ≤ t.length
  | 0, _, _ => Nat.zero_le _
  | _ + 1, [], _ => Nat.zero_le _
  | f + 1, c :: r, p => by
    unfold scanF
    by_cases hb : inS BLK c = true
    · rw [if_pos hb]
      exact Nat.le_succ_of_le (scanF_len f r (p + 1))
    · rw [if_neg hb]
      cases e : lexL (c :: r) with
      | none => exact Nat.zero_le _
      | some q =>
        obtain ⟨k, n⟩ := q
        have ⟨n1, n2⟩ := lexL_pos e
        have := scanF_len f ((c :: r).drop n) (p + n)
        rw [List.length_drop] at this
        show (scanF f ((c :: r).drop n) (p + n)).1.length + 1 ≤ _
        omega
theorem tks_len (z : List Nat) : (tks z).length ≤ z.length := scanF_len _ _ _
theorem cb_le {l : Str} {z : List Nat} {j : Nat} : cbF l z j ≤ (tks z).length := by
  unfold cbF
  exact Nat.le_trans List.countP_le_length (by rw [List.length_take]; omega)
/-- another list's cell may change -/
theorem Rd.put {C : Addr} {H : Hp} {x b D : Addr} {z : List Nat} {i : Nat} {ys : List V} {o : HO} (R : Rd C H x b z i) (e : H D = some (.lst ys)) (nb : D ≠ b) : Rd C (L2.upd H D o) x b z i := by
  obtain ⟨dx, xs, hx, hb, tk⟩ := R.ex
  have nx : x ≠ D := fun q => by rw [← q, hx] at e; cases e
  refine ⟨⟨dx, xs, by rw [upd_ne nx]; exact hx, by rw [upd_ne nb.symm]; exact hb, tk.keep fun c zs h => ?_⟩, R.le, R.zl⟩
  rw [upd_ne (fun q => by rw [q, e] at h; cases h)]
  exact h
def spTakeL (C Ce : Addr) : Sp := fun vs H Q E => ∃ (x b : Addr) (z : List Nat) (i : Nat), vs = [.ref x, .str "word"] ∧ Rd C H x b z i ∧
  (∀ (ws : List Str) (D : Addr) (j : Nat) (H' : Hp), But x H H' → H D = none → H' D = some (.lst (ws.map V.str)) → Rd C H' x b z j → i ≤ j → AuOk z ["LIST"] i j → (∀ w ∈ ws, wordD (.str w) = true) → ws.length + cbF "," z i ≤ cbF "," z j + 1 → Q (.ref D) H') ∧
  (∀ j, AuBad z ["LIST"] i j → WrE Ce E H x (placeF z j))
section
variable {P : Program} {w : World} {K : PySem.W.Frag} {mg : Str → Option Value} {base : Heap}
theorem ok_take_list (T : Tx K mg) : FnOk P w K mg base (L2.CX P w) 4 T.a_Reader_take_list T.fd_Reader_take_list ["self", "sort"] (spTakeL T.C_Reader T.e_BadText.C) := by
  refine T.F_Reader_take_list.okX sc_Reader_take_list (fun vs H Q E h => ?_) (fun cdv A outer st H vs Q E hr h => ?_)
  · obtain ⟨x, b, z, i, rfl, _⟩ := h
    rfl
  obtain ⟨x, b, z, i, rfl, R, kY, kN⟩ := h
  have G_Reader_sees : FnOk P w K mg base CX0 1 T.a_Reader_sees T.fd_Reader_sees ["self", "lexeme"] (spSees T.C_Reader) := ok_sees T
  have hr_Reader_sees : Room 1 _ := hr.mono (by decide)
  have G_Reader_take : FnOk P w K mg base (L2.CX P w) 3 T.a_Reader_take T.fd_Reader_take ["self", "lexeme"] (spTake T.C_Reader T.e_BadText.C) := ok_take T
  have hr_Reader_take : Room 3 _ := hr
  have G_Reader_take_sort : FnOk P w K mg base (L2.CX P w) 3 T.a_Reader_take_sort T.fd_Reader_take_sort ["self", "sort"] (spTakeS T.C_Reader T.e_BadText.C) := ok_take_sort T
  have hr_Reader_take_sort : Room 3 _ := hr
  refine ⟨_, ((pss_cons (ps_set (i := 2) sc_Reader_take_list.nd rfl (Or.inl rfl) (pe_lst pa_nil))
      (pss_cons (ps_expr (pe_meth (pv 0) T.cl_Reader T.me_Reader_take G_Reader_take hr_Reader_take T.b_Reader_take .nil (passes_call (takes_of rfl rfl rfl rfl) (fun _ _ _ _ z => z)) (pa_cons pe_str pa_nil)))
      (pss_cons (ps_if (pt_not (pt_val (pe_meth (pv 0) T.cl_Reader T.me_Reader_sees G_Reader_sees hr_Reader_sees T.b_Reader_sees .nil pass0 (pa_cons pe_str pa_nil))))
        (pss_cons (ps_expr (pe_bm PySem.F.plainAttrs_list PySem.F.slot_list_append PySem.F.type_list_append mt_append (pv 2) (pa_cons (pe_meth (pv 0) T.cl_Reader T.me_Reader_take_sort G_Reader_take_sort hr_Reader_take_sort T.b_Reader_take_sort .nil (passes_call (takes_of rfl rfl rfl rfl) (fun _ _ _ _ z => z)) (pa_cons (pv 1) pa_nil)) pa_nil)))
      (pss_one (ps_while (passes_of rfl) (pt_val (pe_meth (pv 0) T.cl_Reader T.me_Reader_sees G_Reader_sees hr_Reader_sees T.b_Reader_sees .nil pass0 (pa_cons pe_str pa_nil)))
        (pss_cons (ps_expr (pe_meth (pv 0) T.cl_Reader T.me_Reader_take G_Reader_take hr_Reader_take T.b_Reader_take .nil (passes_call (takes_of rfl rfl rfl rfl) (fun _ _ _ _ z => z)) (pa_cons pe_str pa_nil)))
      (pss_one (ps_expr (pe_bm PySem.F.plainAttrs_list PySem.F.slot_list_append PySem.F.type_list_append mt_append (pv 2) (pa_cons (pe_meth (pv 0) T.cl_Reader T.me_Reader_take_sort G_Reader_take_sort hr_Reader_take_sort T.b_Reader_take_sort .nil (passes_call (takes_of rfl rfl rfl rfl) (fun _ _ _ _ z => z)) (pa_cons (pv 1) pa_nil)) pa_nil))))))))
        pss_nil)
      (pss_cons (ps_expr (pe_meth (pv 0) T.cl_Reader T.me_Reader_take G_Reader_take hr_Reader_take T.b_Reader_take .nil (passes_call (takes_of rfl rfl rfl rfl) (fun _ _ _ _ z => z)) (pa_cons pe_str pa_nil)))
      (pss_one (ps_ret (pv 2)))))))), ?_⟩
  refine ⟨Nat.zero_le _, fun D hD => ?_⟩
  obtain ⟨dx0, xs0, hx0, hb0, _⟩ := R.ex
  have nDx : D ≠ x := fun e => by rw [e, hx0] at hD; cases hD
  have nDb : D ≠ b := fun e => by rw [e, hb0] at hD; cases hD
  have b1 : But x H (L2.upd H D (.lst [])) := But.refl.new hD
  have R1 := R.same (same_new hD (.lst []))
  have eD1 := upd_same (H := H) (a := D) (o := HO.lst [])
  generalize L2.upd H D (.lst []) = M1 at b1 R1 eD1 ⊢
  obtain ⟨dx1, xs1, hx1, _, _⟩ := R1.ex
  refine ⟨_, rfl, x, _, _, rfl, hx1, rfl, x, b, "(", z, i, rfl, R1, fun s0 M2 b2 R2 => ?_, fun s0 dx H' bb e => kN i ?_ dx H' (b1.trans bb) e⟩
  · have eD2 := b2 _ _ nDx eD1
    obtain ⟨dx2, xs2, hx2, _, _⟩ := R2.ex
    have okP := AuOk.lit (lit_at 2 (by decide)) s0
    refine ⟨_, rfl, x, _, _, rfl, hx2, rfl, x, b, ")", z, i + 1, rfl, R2, _, rfl, ?_⟩
    have b12 := b1.trans b2
    cases q : seesF z (i + 1) ")" with
    | true =>
      refine iteF ?_
      refine ⟨_, rfl, x, _, _, rfl, hx2, rfl, x, b, ")", z, i + 1, rfl, R2, fun _ M3 b3 R3 => ⟨_, rfl, ?_⟩, fun e => by rw [q] at e; cases e⟩
      refine kY [] D (i + 2) M3 (b12.trans b3) hD (b3 _ _ nDx eD2) R3 (by omega) (.rule (by decide) ?_) (fun _ h => nomatch h) ?_
      · rw [list_rule]
        refine okP.app (AuOk.app (.rule (by decide) ?_) (AuOk.lit (lit_at 3 (by decide)) q))
        rw [words_none q]
        exact .nil z _
      · have := cb_mono (l := ",") (z := z) (show i ≤ i + 2 by omega)
        show 0 + cbF "," z i ≤ _
        omega
    | false =>
      refine iteT ?_
      refine ⟨_, rfl, .inl ⟨rfl, _, SqL.of eD2⟩, _, rfl, x, _, _, rfl, hx2, rfl, _, rfl, x, b, "word", z, i + 1, rfl, R2, fun w1 M3 b3 R3 => ?_, fun w0 dx H' bb e => kN (i + 1) ?_ dx H' (b12.trans bb) e⟩
      · have eD3 := b3 _ _ nDx eD2
        refine ⟨D, [], _, rfl, rfl, eD3, (by show 0 < sizeLine; decide), ?_⟩
        have R4 := R3.put (o := .lst ([] ++ [V.str (lexAt z (i + 1))])) eD3 nDb
        have b4 : But x H (L2.upd M3 D (.lst ([] ++ [V.str (lexAt z (i + 1))]))) := fun c u n e => by rw [upd_ne (ne_of_none e hD)]; exact b3 _ _ n (b12 _ _ n e)
        have eD4 := upd_same (H := M3) (a := D) (o := HO.lst ([] ++ [V.str (lexAt z (i + 1))]))
        generalize L2.upd M3 D (.lst ([] ++ [V.str (lexAt z (i + 1))])) = M4 at R4 b4 eD4 ⊢
        refine while_b (fun σ N => ∃ (ws : List Str) (j : Nat), σ = [some (.ref x), some (.str "word"), some (.ref D)] ∧ But x H N ∧ N D = some (.lst (ws.map V.str)) ∧ Rd T.C_Reader N x b z j ∧ i + 2 ≤ j ∧ Going z "MORE" (i + 2) j ∧ (∀ w ∈ ws, wordD (.str w) = true) ∧ ws.length + cbF "," z i ≤ cbF "," z j + 1)
          (fun σ N => (tks z).length - atF N x) ⟨[lexAt z (i + 1)], i + 2, rfl, b4, eD4, R4, Nat.le_refl _, Going.refl, fun v hv => by rw [List.mem_singleton.mp hv]; exact word_at w1, ?_⟩ ?_
        · have := cb_mono (l := ",") (z := z) (show i ≤ i + 2 by omega)
          show 1 + cbF "," z i ≤ _
          omega
        · rintro σ N ⟨ws, j, rfl, bN, eN, RN, ij, go, wo, le⟩
          obtain ⟨dxN, xsN, hxN, _, _⟩ := RN.ex
          refine ⟨seesF z j ",", fun Q hq => ⟨_, rfl, x, _, _, rfl, hxN, rfl, x, b, ",", z, j, rfl, RN, _, rfl, hq⟩, ?_⟩
          cases q2 : seesF z j "," with
          | true =>
            refine iteT ?_
            refine ⟨_, rfl, x, _, _, rfl, hxN, rfl, x, b, ",", z, j, rfl, RN, fun _ M5 b5 R5 => ?_, fun e => by rw [q2] at e; cases e⟩
            obtain ⟨dx5, xs5, hx5, _, _⟩ := R5.ex
            have eD5 := b5 _ _ nDx eN
            refine ⟨_, rfl, .inl ⟨rfl, _, SqL.of eD5⟩, _, rfl, x, _, _, rfl, hx5, rfl, _, rfl, x, b, "word", z, j + 1, rfl, R5, fun w6 M6 b6 R6 => ?_, fun w0 dx H' bb e => kN (j + 1) ?_ dx H' ((bN.trans b5).trans bb) e⟩
            · have eD6 := b6 _ _ nDx eD5
              have lz := R.zl
              have ll := tks_len z
              have lc := cb_le (l := ",") (z := z) (j := j)
              have lt := sees_lt q2
              have R7 := R6.put (o := .lst (ws.map V.str ++ [V.str (lexAt z (j + 1))])) eD6 nDb
              refine ⟨D, _, _, rfl, rfl, eD6, by rw [List.length_map, sizeLine_eq]; omega, ⟨ws ++ [lexAt z (j + 1)], j + 2, rfl, fun c u n e => ?_, by rw [upd_same, List.map_append]; rfl, R7, by omega, ⟨fun k h => go.1 k (AuOk.more q2 w6 h), fun k h => go.2 k (AuBad.more2 q2 w6 h)⟩, fun v hv => ?_, ?_⟩, ?_⟩
              · rw [upd_ne (ne_of_none e hD)]
                exact b6 _ _ n (b5 _ _ n (bN _ _ n e))
              · rcases List.mem_append.mp hv with h | h
                · exact wo v h
                · rw [List.mem_singleton.mp h]; exact word_at w6
              · have h1 := cb_succ (l := ",") (z := z) (j := j)
                rw [if_pos q2] at h1
                have h2 := cb_mono (l := ",") (z := z) (show j + 1 ≤ j + 2 by omega)
                rw [List.length_append]
                show ws.length + 1 + cbF "," z i ≤ _
                omega
              · rw [R7.at_, RN.at_]
                omega
            · refine .rule (by decide) ?_
              rw [list_rule]
              refine okP.bad (AuBad.more (.rule (by decide) ?_))
              rw [words_some q]
              exact (AuOk.w w1).bad (go.2 _ (AuBad.more1 q2 w0))
          | false =>
            refine iteF ?_
            have okW : AuOk z ["WORDS"] (i + 1) j := .rule (by decide) (by rw [words_some q]; exact (AuOk.w w1).app (go.1 _ (AuOk.stop q2)))
            refine ⟨_, rfl, x, _, _, rfl, hxN, rfl, x, b, ")", z, j, rfl, RN, fun s9 M5 b5 R5 => ⟨_, rfl, ?_⟩, fun s9 dx H' bb e => kN j ?_ dx H' (bN.trans bb) e⟩
            · refine kY ws D (j + 1) M5 (bN.trans b5) hD (b5 _ _ nDx eN) R5 (by omega) (.rule (by decide) ?_) wo ?_
              · rw [list_rule]
                exact okP.app (okW.app (AuOk.lit (lit_at 3 (by decide)) s9))
              · have h2 := cb_mono (l := ",") (z := z) (show j ≤ j + 1 by omega)
                omega
            · refine .rule (by decide) ?_
              rw [list_rule]
              exact okP.bad (okW.bad (AuBad.lit (lit_at 3 (by decide)) s9))
      · refine .rule (by decide) ?_
        rw [list_rule]
        refine okP.bad (AuBad.more (.rule (by decide) ?_))
        rw [words_some q]
        exact (AuBad.w w0).more
  · exact .rule (by decide) (by rw [list_rule]; exact (AuBad.lit (lit_at 2 (by decide)) s0).more)
end
end My

namespace My
open PySem PySem.Spec PyProof.Rows L2
/-! ### parts, sides, the whole form -/
abbrev Pt := Str × Str
def PtAt (H : Hp) (q : Addr) (p : Pt) : Prop := H q = some (.tup [.str p.1, .str p.2])
def SideAt (H : Hp) (l : Addr) (ps : List Pt) : Prop := ∃ qs : List Addr, H l = some (.lst (qs.map V.ref)) ∧ AllAt (PtAt H) qs ps
theorem SideAt.same {H H' : Hp} {l : Addr} {ps : List Pt} (h : SideAt H l ps) (e : Same H H') : SideAt H' l ps :=
  let ⟨qs, a, b⟩ := h; ⟨qs, e _ _ a, b.imp fun _ _ q => e _ _ q⟩
theorem But.tup {x : Addr} {C dx : Addr} {fs : List (Str × V)} {H M : Hp} (h : But x H M) (hx : H x = some (.ins C dx fs)) : KT H M := fun b xs e => h b _ (fun q => by rw [q, hx] at e; cases e) e
theorem KT.pts {H M : Hp} (h : KT H M) {qs : List Addr} {ps : List Pt} (a : AllAt (PtAt H) qs ps) : AllAt (PtAt M) qs ps := a.imp fun q p e => h q _ e
def NumAt (z : List Nat) (dg : Str) : Prop := ∃ t ∈ tks z, t.1 = "number" ∧ dg = txt t.2.1
def PtOk (z : List Nat) (p : Pt) : Prop := NumAt z p.1 ∧ wordD (.str p.2) = true
theorem num_at {z : List Nat} {i : Nat} (h : sortB z i "number" = true) : NumAt z (lexAt z i) := by
  unfold sortB at h
  unfold lexAt
  cases e : (tks z)[i]? with
  | none => rw [e] at h; cases h
  | some t =>
    rw [e] at h
    exact ⟨t, List.mem_of_getElem? e, of_decide_eq_true h, rfl⟩
abbrev NW : List Str := ["N", "W"]
theorem AuOk.nw {z : List Nat} {i : Nat} (h : sortB z i "number" = true) (g : sortB z (i + 1) "word" = true) : AuOk z NW i (i + 2) := (AuOk.n h).app (AuOk.w g)
theorem AuBad.nw1 {z : List Nat} {i : Nat} (h : sortB z i "number" = false) : AuBad z NW i i := AuBad.more (a := ["N"]) (b := ["W"]) (AuBad.n h)
theorem AuBad.nw2 {z : List Nat} {i : Nat} (h : sortB z i "number" = true) (g : sortB z (i + 1) "word" = false) : AuBad z NW i (i + 1) := AuOk.bad (a := ["N"]) (b := ["W"]) (AuOk.n h) (AuBad.w g)
theorem side_rule {z : List Nat} {i : Nat} : ruleF "SIDE" (hText z i) = (["("] : List Str) ++ (NW ++ ((["PARTS"] : List Str) ++ ([")"] : List Str))) := rfl
theorem parts_some {z : List Nat} {i : Nat} (s : seesF z i "," = true) : ruleF "PARTS" (hText z i) = ([","] : List Str) ++ (NW ++ (["PARTS"] : List Str)) := by
  have e : hText z i = "," := of_decide_eq_true (text_is (by decide) true s)
  rw [e]; rfl
theorem parts_none {z : List Nat} {i : Nat} (s : seesF z i "," = false) : ruleF "PARTS" (hText z i) = [] := by
  have e : hText z i ≠ "," := of_decide_eq_false (text_is (by decide) false s)
  unfold ruleF
  rw [if_neg (by decide), if_neg (by decide), if_neg (by decide), if_neg (by decide), if_neg (by decide), if_neg (by decide), if_neg e]
def spPart (C Ce : Addr) : Sp := fun vs H Q E => ∃ (x b : Addr) (z : List Nat) (i : Nat), vs = [.ref x] ∧ Rd C H x b z i ∧
  (∀ (q : Addr) (p : Pt) (H' : Hp), But x H H' → H q = none → PtAt H' q p → Rd C H' x b z (i + 2) → AuOk z NW i (i + 2) → PtOk z p → i + 2 ≤ (tks z).length → Q (.ref q) H') ∧
  (∀ j, AuBad z NW i j → WrE Ce E H x (placeF z j))
def spSide (C Ce : Addr) : Sp := fun vs H Q E => ∃ (x b : Addr) (z : List Nat) (i : Nat), vs = [.ref x] ∧ Rd C H x b z i ∧
  (∀ (l : Addr) (ps : List Pt) (j : Nat) (H' : Hp), But x H H' → H l = none → SideAt H' l ps → Rd C H' x b z j → i < j → AuOk z ["SIDE"] i j → ps ≠ [] → (∀ p ∈ ps, PtOk z p) → ps.length ≤ j → Q (.ref l) H') ∧
  (∀ j, AuBad z ["SIDE"] i j → WrE Ce E H x (placeF z j))
section
variable {P : Program} {w : World} {K : PySem.W.Frag} {mg : Str → Option Value} {base : Heap}
theorem ok_read_part (T : Tx K mg) : FnOk P w K mg base (L2.CX P w) 4 T.a_read_part T.fd_read_part ["reader"] (spPart T.C_Reader T.e_BadText.C) := by
  refine T.F_read_part.okX sc_read_part (fun vs H Q E h => ?_) (fun cdv A outer st H vs Q E hr h => ?_)
  · obtain ⟨x, b, z, i, rfl, _⟩ := h
    rfl
  obtain ⟨x, b, z, i, rfl, R, kY, kN⟩ := h
  have G_Reader_take_sort : FnOk P w K mg base (L2.CX P w) 3 T.a_Reader_take_sort T.fd_Reader_take_sort ["self", "sort"] (spTakeS T.C_Reader T.e_BadText.C) := ok_take_sort T
  have hr_Reader_take_sort : Room 3 _ := hr
  refine ⟨_, ((pss_cons (ps_set (i := 1) sc_read_part.nd rfl (Or.inl rfl) (pe_meth (pv 0) T.cl_Reader T.me_Reader_take_sort G_Reader_take_sort hr_Reader_take_sort T.b_Reader_take_sort .nil (passes_call (takes_of rfl rfl rfl rfl) (fun _ _ _ _ z => z)) (pa_cons pe_str pa_nil)))
      (pss_one (ps_ret (pe_tup (pa_cons (pv 1) (pa_cons (pe_meth (pv 0) T.cl_Reader T.me_Reader_take_sort G_Reader_take_sort hr_Reader_take_sort T.b_Reader_take_sort .nil (passes_call (takes_of rfl rfl rfl rfl) (fun _ _ _ _ z => z)) (pa_cons pe_str pa_nil)) pa_nil))))))), ?_⟩
  obtain ⟨dx1, xs1, hx1, _, _⟩ := R.ex
  refine ⟨_, rfl, x, _, _, rfl, hx1, rfl, x, b, "number", z, i, rfl, R, fun s0 M2 b2 R2 => ?_, fun s0 dx H' bb e => kN i (AuBad.nw1 s0) dx H' bb e⟩
  obtain ⟨dx2, xs2, hx2, _, _⟩ := R2.ex
  refine ⟨_, rfl, _, rfl, x, _, _, rfl, hx2, rfl, x, b, "word", z, i + 1, rfl, R2, fun s3 M3 b3 R3 => ⟨(by show 2 ≤ sizeLine; decide), fun q hq => ?_⟩, fun s3 dx H' bb e => kN (i + 1) (AuBad.nw2 s0 s3) dx H' (b2.trans bb) e⟩
  have nq : q ≠ x := fun e => by
    obtain ⟨_, _, h, _⟩ := R3.ex
    rw [e, h] at hq; cases hq
  have b23 := b2.trans b3
  exact kY q (lexAt z i, lexAt z (i + 1)) _ (b23.new hq) (b23.free hq nq) upd_same (R3.same (same_new hq _)) (AuOk.nw s0 s3) ⟨num_at s0, word_at s3⟩ (sort_lt s3)
theorem ok_read_side (T : Tx K mg) : FnOk P w K mg base (L2.CX P w) 5 T.a_read_side T.fd_read_side ["reader"] (spSide T.C_Reader T.e_BadText.C) := by
  refine T.F_read_side.okX sc_read_side (fun vs H Q E h => ?_) (fun cdv A outer st H vs Q E hr h => ?_)
  · obtain ⟨x, b, z, i, rfl, _⟩ := h
    rfl
  obtain ⟨x, b, z, i, rfl, R, kY, kN⟩ := h
  have G_Reader_sees : FnOk P w K mg base CX0 1 T.a_Reader_sees T.fd_Reader_sees ["self", "lexeme"] (spSees T.C_Reader) := ok_sees T
  have hr_Reader_sees : Room 1 _ := hr.mono (by decide)
  have G_Reader_take : FnOk P w K mg base (L2.CX P w) 3 T.a_Reader_take T.fd_Reader_take ["self", "lexeme"] (spTake T.C_Reader T.e_BadText.C) := ok_take T
  have hr_Reader_take : Room 3 _ := hr.mono (by decide)
  have G_read_part : FnOk P w K mg base (L2.CX P w) 4 T.a_read_part T.fd_read_part ["reader"] (spPart T.C_Reader T.e_BadText.C) := ok_read_part T
  have hr_read_part : Room 4 _ := hr
  refine ⟨_, ((pss_cons (ps_expr (pe_meth (pv 0) T.cl_Reader T.me_Reader_take G_Reader_take hr_Reader_take T.b_Reader_take .nil (passes_call (takes_of rfl rfl rfl rfl) (fun _ _ _ _ z => z)) (pa_cons pe_str pa_nil)))
      (pss_cons (ps_set (i := 1) sc_read_side.nd rfl (Or.inl rfl) (pe_lst (pa_cons (pe_call G_read_part hr_read_part rfl T.m_read_part T.F_read_part.kp T.b_read_part .nil (passes_call (takes_of rfl rfl rfl rfl) (fun _ _ _ _ z => z)) (pa_cons (pv 0) pa_nil)) pa_nil)))
      (pss_cons (ps_while (passes_of rfl) (pt_val (pe_meth (pv 0) T.cl_Reader T.me_Reader_sees G_Reader_sees hr_Reader_sees T.b_Reader_sees .nil pass0 (pa_cons pe_str pa_nil)))
        (pss_cons (ps_expr (pe_meth (pv 0) T.cl_Reader T.me_Reader_take G_Reader_take hr_Reader_take T.b_Reader_take .nil (passes_call (takes_of rfl rfl rfl rfl) (fun _ _ _ _ z => z)) (pa_cons pe_str pa_nil)))
      (pss_one (ps_expr (pe_bm PySem.F.plainAttrs_list PySem.F.slot_list_append PySem.F.type_list_append mt_append (pv 1) (pa_cons (pe_call G_read_part hr_read_part rfl T.m_read_part T.F_read_part.kp T.b_read_part .nil (passes_call (takes_of rfl rfl rfl rfl) (fun _ _ _ _ z => z)) (pa_cons (pv 0) pa_nil)) pa_nil))))))
      (pss_cons (ps_expr (pe_meth (pv 0) T.cl_Reader T.me_Reader_take G_Reader_take hr_Reader_take T.b_Reader_take .nil (passes_call (takes_of rfl rfl rfl rfl) (fun _ _ _ _ z => z)) (pa_cons pe_str pa_nil)))
      (pss_one (ps_ret (pv 1)))))))), ?_⟩
  obtain ⟨dx1, xs1, hx1, hb1, _⟩ := R.ex
  refine ⟨_, rfl, x, _, _, rfl, hx1, rfl, x, b, "(", z, i, rfl, R, fun s0 M2 b2 R2 => ?_, fun s0 dx H' bb e => kN i ?_ dx H' bb e⟩
  · have okP := AuOk.lit (lit_at 2 (by decide)) s0
    refine ⟨_, rfl, x, b, z, i + 1, rfl, R2, fun q1 p1 M3 b3 hq1 eq1 R3 ok1 pk1 le1 => ?_, fun j bad dx H' bb e => kN j ?_ dx H' (b2.trans bb) e⟩
    · refine ⟨(by show 1 ≤ sizeLine; decide), fun D hD => ?_⟩
      have nDx : D ≠ x := fun e => by
        obtain ⟨_, _, h, _⟩ := R3.ex
        rw [e, h] at hD; cases hD
      have nDb : D ≠ b := fun e => by
        obtain ⟨_, _, _, h, _⟩ := R3.ex
        rw [e, h] at hD; cases hD
      have b23 := b2.trans b3
      have hD0 : H D = none := b23.free hD nDx
      have b4 := b23.new (o := .lst [V.ref q1]) hD
      have R4 := R3.same (same_new hD (.lst [V.ref q1]))
      have eD4 := upd_same (H := M3) (a := D) (o := HO.lst [V.ref q1])
      have p4 : PtAt (L2.upd M3 D (.lst [V.ref q1])) q1 p1 := same_new hD _ _ _ eq1
      generalize L2.upd M3 D (.lst [V.ref q1]) = M4 at b4 R4 eD4 p4 ⊢
      refine while_b (fun σ N => ∃ (qs : List Addr) (ps : List Pt) (j : Nat), σ = [some (.ref x), some (.ref D)] ∧ But x H N ∧ N D = some (.lst (qs.map V.ref)) ∧ AllAt (PtAt N) qs ps ∧ Rd T.C_Reader N x b z j ∧ i + 3 ≤ j ∧ Going z "PARTS" (i + 3) j ∧ ps ≠ [] ∧ (∀ p ∈ ps, PtOk z p) ∧ ps.length ≤ j)
        (fun σ N => (tks z).length - atF N x) ⟨[q1], [p1], i + 3, rfl, b4, eD4, AllAt.nil.snoc p4, R4, Nat.le_refl _, Going.refl, by simp, fun p hp => by rw [List.mem_singleton.mp hp]; exact pk1, by show 1 ≤ i + 3; omega⟩ ?_
      rintro σ N ⟨qs, ps, j, rfl, bN, eN, aN, RN, ij, go, ne, po, lp⟩
      obtain ⟨dxN, xsN, hxN, _, _⟩ := RN.ex
      refine ⟨seesF z j ",", fun Q hq => ⟨_, rfl, x, _, _, rfl, hxN, rfl, x, b, ",", z, j, rfl, RN, _, rfl, hq⟩, ?_⟩
      cases q2 : seesF z j "," with
      | true =>
        refine iteT ?_
        refine ⟨_, rfl, x, _, _, rfl, hxN, rfl, x, b, ",", z, j, rfl, RN, fun _ M5 b5 R5 => ?_, fun e => by rw [q2] at e; cases e⟩
        have okC := AuOk.lit (lit_at 6 (by decide)) q2
        have eD5 := b5 _ _ nDx eN
        have a5 := (b5.tup hxN).pts aN
        obtain ⟨dx5, xs5, hx5, _, _⟩ := R5.ex
        refine ⟨_, rfl, .inl ⟨rfl, _, SqL.of eD5⟩, _, rfl, x, b, z, j + 1, rfl, R5, fun q6 p6 M6 b6 hq6 eq6 R6 ok6 pk6 le6 => ?_, fun k bad dx H' bb e => kN k ?_ dx H' ((bN.trans b5).trans bb) e⟩
        · have eD6 := b6 _ _ nDx eD5
          have a6 := (b6.tup hx5).pts a5
          have lz := R.zl
          have ll := tks_len z
          have lj := RN.le
          have R7 := R6.put (o := .lst (qs.map V.ref ++ [V.ref q6])) eD6 nDb
          have kt : KT M6 (L2.upd M6 D (.lst (qs.map V.ref ++ [V.ref q6]))) := KT.upd eD6
          refine ⟨D, _, _, rfl, rfl, eD6, by rw [List.length_map, aN.1, sizeLine_eq]; omega, ⟨qs ++ [q6], ps ++ [p6], j + 3, rfl, fun c u n e => ?_, by rw [upd_same, List.map_append]; rfl, (kt.pts a6).snoc (kt _ _ eq6), R7, by omega, ⟨fun k h => go.1 k ?_, fun k h => go.2 k ?_⟩, by simp, fun p hp => ?_, ?_⟩, ?_⟩
          · rw [upd_ne (ne_of_none e hD0)]
            exact b6 _ _ n (b5 _ _ n (bN _ _ n e))
          · exact .rule (by decide) (by rw [parts_some q2]; exact okC.app (ok6.app h))
          · exact .rule (by decide) (by rw [parts_some q2]; exact okC.bad (ok6.bad h))
          · rcases List.mem_append.mp hp with h | h
            · exact po p h
            · rw [List.mem_singleton.mp h]; exact pk6
          · rw [List.length_append]
            show ps.length + 1 ≤ j + 3
            omega
          · rw [R7.at_, RN.at_]
            omega
        · refine .rule (by decide) ?_
          rw [side_rule]
          refine okP.bad (ok1.bad (AuBad.more (go.2 _ (.rule (by decide) ?_))))
          rw [parts_some q2]
          exact okC.bad bad.more
      | false =>
        refine iteF ?_
        have okW : AuOk z ["PARTS"] (i + 3) j := go.1 _ (.rule (by decide) (by rw [parts_none q2]; exact .nil z _))
        refine ⟨_, rfl, x, _, _, rfl, hxN, rfl, x, b, ")", z, j, rfl, RN, fun s9 M5 b5 R5 => ⟨_, rfl, ?_⟩, fun s9 dx H' bb e => kN j ?_ dx H' (bN.trans bb) e⟩
        · refine kY D ps (j + 1) M5 (bN.trans b5) hD0 ⟨qs, b5 _ _ nDx eN, (b5.tup hxN).pts aN⟩ R5 (by omega) (.rule (by decide) ?_) ne po (by omega)
          rw [side_rule]
          exact okP.app (ok1.app (okW.app (AuOk.lit (lit_at 3 (by decide)) s9)))
        · refine .rule (by decide) ?_
          rw [side_rule]
          exact okP.bad (ok1.bad (okW.bad (AuBad.lit (lit_at 3 (by decide)) s9)))
    · exact .rule (by decide) (by rw [side_rule]; exact okP.bad bad.more)
  · exact .rule (by decide) (by rw [side_rule]; exact (AuBad.lit (lit_at 2 (by decide)) s0).more)
end
end My

namespace My
open PySem PySem.Spec PyProof.Rows L2
/-! ### the whole form -/
abbrev Tr8 := Str × List Pt × List Pt
def TrAt (H : Hp) (q : Addr) (t : Tr8) : Prop := ∃ a c : Addr, H q = some (.tup [.str t.1, .ref a, .ref c]) ∧ SideAt H a t.2.1 ∧ SideAt H c t.2.2
def TolAt (H : Hp) (l : Addr) (ts : List Tr8) : Prop := ∃ qs : List Addr, H l = some (.lst (qs.map V.ref)) ∧ AllAt (TrAt H) qs ts
theorem TrAt.same {H H' : Hp} {q : Addr} {t : Tr8} (h : TrAt H q t) (e : Same H H') : TrAt H' q t := let ⟨a, c, h1, h2, h3⟩ := h; ⟨a, c, e _ _ h1, h2.same e, h3.same e⟩
/-- the heap without two cells -/
def hid (x D : Addr) (H : Hp) : Hp := fun c => if c = x ∨ c = D then none else H c
theorem hid_in {x D c : Addr} {H : Hp} {u : HO} (n : c ≠ x) (m : c ≠ D) (e : H c = some u) : hid x D H c = some u := by
  unfold hid
  rw [if_neg (fun h => h.elim n m)]; exact e
theorem hid_at {x D c : Addr} {H : Hp} {u : HO} (e : hid x D H c = some u) : c ≠ x ∧ c ≠ D ∧ H c = some u := by
  unfold hid at e
  split at e
  · cases e
  · rename_i n
    exact ⟨fun h => n (.inl h), fun h => n (.inr h), e⟩
theorem hid_out {x D : Addr} {H : Hp} : Same (hid x D H) H := fun _ _ e => (hid_at e).2.2
theorem hid_but {x D : Addr} {H M : Hp} (h : But x H M) : Same (hid x D H) (hid x D M) := fun c u e => by
  obtain ⟨n, m, e⟩ := hid_at e
  exact hid_in n m (h _ _ n e)
theorem hid_upd {x D : Addr} {H : Hp} {o : HO} : Same (hid x D H) (hid x D (L2.upd H D o)) := fun c u e => by
  obtain ⟨n, m, e⟩ := hid_at e
  exact hid_in n m (by rw [upd_ne m]; exact e)
theorem SideAt.hid {x D C dx : Addr} {fs : List (Str × V)} {ys : List V} {H : Hp} {l : Addr} {ps : List Pt} (h : SideAt H l ps) (hx : H x = some (.ins C dx fs)) (hD : H D = some (.lst ys)) (n : l ≠ D) : SideAt (hid x D H) l ps := by
  obtain ⟨qs, a, b⟩ := h
  refine ⟨qs, hid_in (fun e => by rw [e, hx] at a; cases a) n a, b.imp fun q p e => ?_⟩
  have e : H q = some (.tup [.str p.1, .str p.2]) := e
  exact hid_in (fun z => by rw [z, hx] at e; cases e) (fun z => by rw [z, hD] at e; cases e) e
theorem book_rule {z : List Nat} {i : Nat} : ruleF "BOOK" (hText z i) = (["book"] : List Str) ++ ((["LIST"] : List Str) ++ ((["{"] : List Str) ++ ((["BARTERS"] : List Str) ++ ((["}"] : List Str) ++ (["END"] : List Str))))) := rfl
theorem barters_none {z : List Nat} {i : Nat} (s : seesF z i "}" = true) : ruleF "BARTERS" (hText z i) = [] := by
  have e : hText z i = "}" := of_decide_eq_true (text_is (by decide) true s)
  rw [e]; rfl
theorem barters_some {z : List Nat} {i : Nat} (s : seesF z i "}" = false) : ruleF "BARTERS" (hText z i) = (["W"] : List Str) ++ ((["SIDE"] : List Str) ++ ((["to"] : List Str) ++ ((["SIDE"] : List Str) ++ (([";"] : List Str) ++ (["BARTERS"] : List Str))))) := by
  have e : hText z i ≠ "}" := of_decide_eq_false (text_is (by decide) false s)
  unfold ruleF
  rw [if_neg (by decide), if_neg (by decide), if_neg (by decide), if_neg (by decide), if_pos rfl, if_neg e]; rfl
def TrOk (z : List Nat) (t : Tr8) : Prop := wordD (.str t.1) = true ∧ t.2.1 ≠ [] ∧ t.2.2 ≠ [] ∧ (∀ p ∈ t.2.1, PtOk z p) ∧ (∀ p ∈ t.2.2, PtOk z p) ∧ t.2.1.length ≤ z.length ∧ t.2.2.length ≤ z.length
def spParts (C Ce : Addr) : Sp := fun vs H Q E => ∃ (x b : Addr) (z : List Nat) (i : Nat), vs = [.ref x] ∧ Rd C H x b z i ∧
  (∀ (p g t : Addr) (ws : List Str) (trs : List Tr8) (H' : Hp), But x H H' → H' p = some (.tup [.ref g, .ref t]) → H' g = some (.lst (ws.map V.str)) → TolAt H' t trs → (∃ j, AuOk z ["BOOK"] i j) → (∀ w ∈ ws, wordD (.str w) = true) → ws.length ≤ cbF "," z (tks z).length + 1 → (∀ t ∈ trs, TrOk z t) → trs.length ≤ cbF ";" z (tks z).length → Q (.ref p) H') ∧
  (∀ j, AuBad z ["BOOK"] i j → WrE Ce E H x (placeF z j))
section
variable {P : Program} {w : World} {K : PySem.W.Frag} {mg : Str → Option Value} {base : Heap}
theorem ok_read_parts (T : Tx K mg) : FnOk P w K mg base (L2.CX P w) 6 T.a_read_parts T.fd_read_parts ["reader"] (spParts T.C_Reader T.e_BadText.C) := by
  refine T.F_read_parts.okX sc_read_parts (fun vs H Q E h => ?_) (fun cdv A outer st H vs Q E hr h => ?_)
  · obtain ⟨x, b, z, i, rfl, _⟩ := h
    rfl
  obtain ⟨x, b, z, i, rfl, R, kY, kN⟩ := h
  have G_Reader_sees : FnOk P w K mg base CX0 1 T.a_Reader_sees T.fd_Reader_sees ["self", "lexeme"] (spSees T.C_Reader) := ok_sees T
  have hr_Reader_sees : Room 1 _ := hr.mono (by decide)
  have G_Reader_take : FnOk P w K mg base (L2.CX P w) 3 T.a_Reader_take T.fd_Reader_take ["self", "lexeme"] (spTake T.C_Reader T.e_BadText.C) := ok_take T
  have hr_Reader_take : Room 3 _ := hr.mono (by decide)
  have G_Reader_take_sort : FnOk P w K mg base (L2.CX P w) 3 T.a_Reader_take_sort T.fd_Reader_take_sort ["self", "sort"] (spTakeS T.C_Reader T.e_BadText.C) := ok_take_sort T
  have hr_Reader_take_sort : Room 3 _ := hr.mono (by decide)
  have G_Reader_take_list : FnOk P w K mg base (L2.CX P w) 4 T.a_Reader_take_list T.fd_Reader_take_list ["self", "sort"] (spTakeL T.C_Reader T.e_BadText.C) := ok_take_list T
  have hr_Reader_take_list : Room 4 _ := hr.mono (by decide)
  have G_Reader_take_end : FnOk P w K mg base (L2.CX P w) 3 T.a_Reader_take_end T.fd_Reader_take_end ["self"] (spTakeE T.C_Reader T.e_BadText.C) := ok_take_end T
  have hr_Reader_take_end : Room 3 _ := hr.mono (by decide)
  have G_read_side : FnOk P w K mg base (L2.CX P w) 5 T.a_read_side T.fd_read_side ["reader"] (spSide T.C_Reader T.e_BadText.C) := ok_read_side T
  have hr_read_side : Room 5 _ := hr
  refine ⟨_, ((pss_cons (ps_expr (pe_meth (pv 0) T.cl_Reader T.me_Reader_take G_Reader_take hr_Reader_take T.b_Reader_take .nil (passes_call (takes_of rfl rfl rfl rfl) (fun _ _ _ _ z => z)) (pa_cons pe_str pa_nil)))
      (pss_cons (ps_set (i := 1) sc_read_parts.nd rfl (Or.inl rfl) (pe_meth (pv 0) T.cl_Reader T.me_Reader_take_list G_Reader_take_list hr_Reader_take_list T.b_Reader_take_list .nil (passes_call (takes_of rfl rfl rfl rfl) (fun _ _ _ _ z => z)) (pa_cons pe_str pa_nil)))
      (pss_cons (ps_expr (pe_meth (pv 0) T.cl_Reader T.me_Reader_take G_Reader_take hr_Reader_take T.b_Reader_take .nil (passes_call (takes_of rfl rfl rfl rfl) (fun _ _ _ _ z => z)) (pa_cons pe_str pa_nil)))
      (pss_cons (ps_set (i := 2) sc_read_parts.nd rfl (Or.inl rfl) (pe_lst pa_nil))
      (pss_cons (ps_while (passes_of rfl) (pt_not (pt_val (pe_meth (pv 0) T.cl_Reader T.me_Reader_sees G_Reader_sees hr_Reader_sees T.b_Reader_sees .nil pass0 (pa_cons pe_str pa_nil))))
        (pss_cons (ps_set (i := 3) sc_read_parts.nd rfl (Or.inl rfl) (pe_meth (pv 0) T.cl_Reader T.me_Reader_take_sort G_Reader_take_sort hr_Reader_take_sort T.b_Reader_take_sort .nil (passes_call (takes_of rfl rfl rfl rfl) (fun _ _ _ _ z => z)) (pa_cons pe_str pa_nil)))
      (pss_cons (ps_set (i := 4) sc_read_parts.nd rfl (Or.inl rfl) (pe_call G_read_side hr_read_side rfl T.m_read_side T.F_read_side.kp T.b_read_side .nil (passes_call (takes_of rfl rfl rfl rfl) (fun _ _ _ _ z => z)) (pa_cons (pv 0) pa_nil)))
      (pss_cons (ps_expr (pe_meth (pv 0) T.cl_Reader T.me_Reader_take G_Reader_take hr_Reader_take T.b_Reader_take .nil (passes_call (takes_of rfl rfl rfl rfl) (fun _ _ _ _ z => z)) (pa_cons pe_str pa_nil)))
      (pss_cons (ps_set (i := 5) sc_read_parts.nd rfl (Or.inl rfl) (pe_call G_read_side hr_read_side rfl T.m_read_side T.F_read_side.kp T.b_read_side .nil (passes_call (takes_of rfl rfl rfl rfl) (fun _ _ _ _ z => z)) (pa_cons (pv 0) pa_nil)))
      (pss_cons (ps_expr (pe_meth (pv 0) T.cl_Reader T.me_Reader_take G_Reader_take hr_Reader_take T.b_Reader_take .nil (passes_call (takes_of rfl rfl rfl rfl) (fun _ _ _ _ z => z)) (pa_cons pe_str pa_nil)))
      (pss_one (ps_expr (pe_bm PySem.F.plainAttrs_list PySem.F.slot_list_append PySem.F.type_list_append mt_append (pv 2) (pa_cons (pe_tup (pa_cons (pv 3) (pa_cons (pv 4) (pa_cons (pv 5) pa_nil)))) pa_nil))))))))))
      (pss_cons (ps_expr (pe_meth (pv 0) T.cl_Reader T.me_Reader_take G_Reader_take hr_Reader_take T.b_Reader_take .nil (passes_call (takes_of rfl rfl rfl rfl) (fun _ _ _ _ z => z)) (pa_cons pe_str pa_nil)))
      (pss_cons (ps_expr (pe_meth0 (pv 0) T.cl_Reader T.me_Reader_take_end G_Reader_take_end hr_Reader_take_end T.b_Reader_take_end .nil (passes_call (takes_of rfl rfl rfl rfl) (fun _ _ _ _ z => z))))
      (pss_one (ps_ret (pe_tup (pa_cons (pv 1) (pa_cons (pv 2) pa_nil))))))))))))), ?_⟩
  obtain ⟨dx1, xs1, hx1, hb1, _⟩ := R.ex
  refine ⟨_, rfl, x, _, _, rfl, hx1, rfl, x, b, "book", z, i, rfl, R, fun s0 M2 b2 R2 => ?_, fun s0 dx H' bb e => kN i ?_ dx H' bb e⟩
  rotate_left
  · exact .rule (by decide) (by rw [book_rule]; exact (AuBad.lit (lit_at 0 (by decide)) s0).more)
  have ok0 := AuOk.lit (lit_at 0 (by decide)) s0
  obtain ⟨dx2, xs2, hx2, hb2, _⟩ := R2.ex
  refine ⟨_, rfl, x, _, _, rfl, hx2, rfl, x, b, z, i + 1, rfl, R2, fun ws g j1 M3 b3 hg eg R3 ij1 ok1 wo lw => ?_, fun j bad dx H' bb e => kN j ?_ dx H' (b2.trans bb) e⟩
  rotate_left
  · exact .rule (by decide) (by rw [book_rule]; exact ok0.bad bad.more)
  have ngx : g ≠ x := fun e => by rw [e, hx2] at hg; cases hg
  have ngb : g ≠ b := fun e => by rw [e, hb2] at hg; cases hg
  have b23 := b2.trans b3
  obtain ⟨dx3, xs3, hx3, hb3, _⟩ := R3.ex
  refine ⟨_, rfl, x, _, _, rfl, hx3, rfl, x, b, "{", z, j1, rfl, R3, fun s4 M4 b4 R4 => ?_, fun s4 dx H' bb e => kN j1 ?_ dx H' (b23.trans bb) e⟩
  rotate_left
  · exact .rule (by decide) (by rw [book_rule]; exact ok0.bad (ok1.bad (AuBad.lit (lit_at 4 (by decide)) s4).more))
  have ok4 := AuOk.lit (lit_at 4 (by decide)) s4
  have b24 := b23.trans b4
  have eg4 := b4 _ _ ngx eg
  refine ⟨Nat.zero_le _, fun D hD => ?_⟩
  have nDx : D ≠ x := fun e => by
    obtain ⟨_, _, h, _⟩ := R4.ex
    rw [e, h] at hD; cases hD
  have nDb : D ≠ b := fun e => by
    obtain ⟨_, _, _, h, _⟩ := R4.ex
    rw [e, h] at hD; cases hD
  have nDg : D ≠ g := fun e => by rw [e, eg4] at hD; cases hD
  have hD0 : H D = none := b24.free hD nDx
  have b5 := b24.new (o := .lst []) hD
  have R5 := R4.same (same_new hD (.lst []))
  have eD5 := upd_same (H := M4) (a := D) (o := HO.lst [])
  have eg5 := same_new hD (.lst []) _ _ eg4
  generalize L2.upd M4 D (.lst []) = M5 at b5 R5 eD5 eg5 ⊢
  refine while_b (fun σ N => ∃ (v3 v4 v5 : Option V) (qs : List Addr) (ts : List Tr8) (j : Nat), σ = [some (.ref x), some (.ref g), some (.ref D), v3, v4, v5] ∧ But x H N ∧ N g = some (.lst (ws.map V.str)) ∧ N D = some (.lst (qs.map V.ref)) ∧ AllAt (TrAt (hid x D N)) qs ts ∧ Rd T.C_Reader N x b z j ∧ j1 + 1 ≤ j ∧ Going z "BARTERS" (j1 + 1) j ∧ (∀ t ∈ ts, TrOk z t) ∧ ts.length ≤ cbF ";" z j)
    (fun σ N => (tks z).length - atF N x) ⟨none, none, none, [], [], j1 + 1, rfl, b5, eg5, eD5, AllAt.nil, R5, Nat.le_refl _, Going.refl, (fun _ h => nomatch h), Nat.zero_le _⟩ ?_
  rintro σ N ⟨v3, v4, v5, qs, ts, j, rfl, bN, egN, eN, aN, RN, ij, go, to_, lt⟩
  obtain ⟨dxN, xsN, hxN, hbN, _⟩ := RN.ex
  refine ⟨!seesF z j "}", fun Q hq => ⟨_, rfl, x, _, _, rfl, hxN, rfl, x, b, "}", z, j, rfl, RN, _, rfl, hq⟩, ?_⟩
  have ok14 := ok1.app ok4
  cases q2 : seesF z j "}" with
  | false =>
    refine iteT ?_
    have badB : ∀ k, AuBad z ((["W"] : List Str) ++ ((["SIDE"] : List Str) ++ ((["to"] : List Str) ++ ((["SIDE"] : List Str) ++ (([";"] : List Str) ++ (["BARTERS"] : List Str)))))) j k → AuBad z ["BOOK"] i k := fun k h => by
      refine .rule (by decide) ?_
      rw [book_rule]
      exact ok0.bad (ok1.bad (ok4.bad (go.2 k (.rule (by decide) (by rw [barters_some q2]; exact h))).more))
    refine ⟨_, rfl, x, _, _, rfl, hxN, rfl, x, b, "word", z, j, rfl, RN, fun w1 N1 c1 R6 => ?_, fun w0 dx H' bb e => kN j (badB _ (AuBad.w w0).more) dx H' (bN.trans bb) e⟩
    have okW := AuOk.w w1
    obtain ⟨dx6, xs6, hx6, hb6, _⟩ := R6.ex
    have eD6 := c1 _ _ nDx eN
    have d1 := bN.trans c1
    refine ⟨_, rfl, x, b, z, j + 1, rfl, R6, fun l1 ps1 k1 N2 c2 hl1 sd1 R7 jk1 okS1 ne1 po1 le1 => ?_, fun k bad dx H' bb e => kN k (badB _ (okW.bad bad.more)) dx H' (d1.trans bb) e⟩
    have nl1 : l1 ≠ D := fun e => by rw [e, eD6] at hl1; cases hl1
    obtain ⟨dx7, xs7, hx7, hb7, _⟩ := R7.ex
    have eD7 := c2 _ _ nDx eD6
    have d2 := d1.trans c2
    have sh1 := sd1.hid hx7 eD7 nl1
    refine ⟨_, rfl, x, _, _, rfl, hx7, rfl, x, b, "to", z, k1, rfl, R7, fun s5 N3 c3 R8 => ?_, fun s5 dx H' bb e => kN k1 (badB _ (okW.bad (okS1.bad (AuBad.lit (lit_at 1 (by decide)) s5).more))) dx H' (d2.trans bb) e⟩
    have okT := AuOk.lit (lit_at 1 (by decide)) s5
    obtain ⟨dx8, xs8, hx8, hb8, _⟩ := R8.ex
    have eD8 := c3 _ _ nDx eD7
    have d3 := d2.trans c3
    refine ⟨_, rfl, x, b, z, k1 + 1, rfl, R8, fun l2 ps2 k2 N4 c4 hl2 sd2 R9 jk2 okS2 ne2 po2 le2 => ?_, fun k bad dx H' bb e => kN k (badB _ (okW.bad (okS1.bad (okT.bad bad.more)))) dx H' (d3.trans bb) e⟩
    have nl2 : l2 ≠ D := fun e => by rw [e, eD8] at hl2; cases hl2
    obtain ⟨dx9, xs9, hx9, hb9, _⟩ := R9.ex
    have eD9 := c4 _ _ nDx eD8
    have d4 := d3.trans c4
    have sh2 := sd2.hid hx9 eD9 nl2
    refine ⟨_, rfl, x, _, _, rfl, hx9, rfl, x, b, ";", z, k2, rfl, R9, fun s6 N5 c5 R10 => ?_, fun s6 dx H' bb e => kN k2 (badB _ (okW.bad (okS1.bad (okT.bad (okS2.bad (AuBad.lit (lit_at 7 (by decide)) s6).more))))) dx H' (d4.trans bb) e⟩
    have okC := AuOk.lit (lit_at 7 (by decide)) s6
    obtain ⟨dx10, xs10, hx10, hb10, _⟩ := R10.ex
    have eD10 := c5 _ _ nDx eD9
    have d5 := d4.trans c5
    have sN5 := (((hid_but (D := D) c1).trans (hid_but c2)).trans ((hid_but c3).trans (hid_but c4))).trans (hid_but c5)
    have sh1' := sh1.same ((hid_but (D := D) c3).trans ((hid_but c4).trans (hid_but c5)))
    have sh2' := sh2.same (hid_but (D := D) c5)
    have aN5 := aN.imp fun q t e => e.same sN5
    refine ⟨_, rfl, .inl ⟨rfl, _, SqL.of eD10⟩, _, rfl, _, rfl, _, rfl, (by show 3 ≤ sizeLine; decide), fun q hq => ?_⟩
    have nqx : q ≠ x := fun e => by rw [e, hx10] at hq; cases hq
    have nqD : q ≠ D := fun e => by rw [e, eD10] at hq; cases hq
    have sq := same_new hq (.tup [.str (lexAt z j), .ref l1, .ref l2])
    have eq := upd_same (H := N5) (a := q) (o := HO.tup [.str (lexAt z j), .ref l1, .ref l2])
    have R11 := R10.same sq
    have d6 := d5.new (o := .tup [.str (lexAt z j), .ref l1, .ref l2]) hq
    generalize L2.upd N5 q (.tup [.str (lexAt z j), .ref l1, .ref l2]) = N6 at sq eq R11 d6 ⊢
    have eD11 := sq _ _ eD10
    have hx11 := sq _ _ hx10
    have h6 := hid_but (x := x) (D := D) (But.of sq)
    have lz := R.zl
    have ll := tks_len z
    have lcb := cb_le (l := ";") (z := z) (j := j)
    have k2l := R9.le
    have ltj := sort_lt w1
    have R12 := R11.put (o := .lst (qs.map V.ref ++ [V.ref q])) eD11 nDb
    refine ⟨D, _, _, rfl, rfl, eD11, by rw [List.length_map, aN.1, sizeLine_eq]; omega, ⟨_, _, _, qs ++ [q], ts ++ [(lexAt z j, ps1, ps2)], k2 + 1, rfl, fun c u n e => ?_, ?_, by rw [upd_same, List.map_append]; rfl, ?_, R12, by omega, ⟨fun k h => go.1 k ?_, fun k h => go.2 k ?_⟩, fun t ht => ?_, ?_⟩, ?_⟩
    · rw [upd_ne (ne_of_none e hD0)]
      exact d6 _ _ n e
    · rw [upd_ne nDg.symm]
      have egN5 : N5 g = some (.lst (ws.map V.str)) := c5 _ _ ngx (c4 _ _ ngx (c3 _ _ ngx (c2 _ _ ngx (c1 _ _ ngx egN))))
      exact sq _ _ egN5
    · have hu := hid_upd (x := x) (D := D) (H := N6) (o := .lst (qs.map V.ref ++ [V.ref q]))
      refine ((aN5.imp fun q t e => e.same (h6.trans hu))).snoc ⟨l1, l2, hu _ _ (hid_in nqx nqD eq), sh1'.same (h6.trans hu), sh2'.same (h6.trans hu)⟩
    · exact .rule (by decide) (by rw [barters_some q2]; exact okW.app (okS1.app (okT.app (okS2.app (okC.app h)))))
    · exact .rule (by decide) (by rw [barters_some q2]; exact okW.bad (okS1.bad (okT.bad (okS2.bad (okC.bad h)))))
    · rcases List.mem_append.mp ht with h | h
      · exact to_ t h
      · rw [List.mem_singleton.mp h]
        have k1l := R7.le
        exact ⟨word_at w1, ne1, ne2, po1, po2, by show ps1.length ≤ _; omega, by show ps2.length ≤ _; omega⟩
    · have h1 := cb_succ (l := ";") (z := z) (j := k2)
      rw [if_pos s6] at h1
      have h2 := cb_mono (l := ";") (z := z) (show j ≤ k2 by omega)
      rw [List.length_append]
      show ts.length + 1 ≤ _
      omega
    · rw [R12.at_, RN.at_]
      omega
  | true =>
    refine iteF ?_
    have okB : AuOk z ["BARTERS"] (j1 + 1) j := go.1 _ (.rule (by decide) (by rw [barters_none q2]; exact .nil z _))
    have okE := AuOk.lit (lit_at 5 (by decide)) q2
    refine ⟨_, rfl, x, _, _, rfl, hxN, rfl, x, b, "}", z, j, rfl, RN, fun _ M6 c6 R6 => ?_, fun e => by rw [q2] at e; cases e⟩
    obtain ⟨dx6, xs6, hx6, hb6, _⟩ := R6.ex
    refine ⟨_, rfl, x, _, _, rfl, hx6, rfl, x, b, z, j + 1, rfl, R6, fun f1 => ?_, fun f0 dx H' bb e => kN (j + 1) ?_ dx H' ((bN.trans c6).trans bb) e⟩
    · refine ⟨_, rfl, _, rfl, (by show 2 ≤ sizeLine; decide), fun p hp => ?_⟩
      have sp := same_new hp (.tup [.ref g, .ref D])
      have hh := (hid_but (x := x) (D := D) c6).trans (hid_but (But.of sp))
      have h0 := cb_mono (l := ",") (z := z) (show j1 ≤ (tks z).length from R3.le)
      have h2 := cb_mono (l := ";") (z := z) (show j ≤ (tks z).length from RN.le)
      refine kY p g D ws ts _ ((bN.trans c6).new hp) upd_same (sp _ _ (c6 _ _ ngx egN)) ⟨qs, sp _ _ (c6 _ _ nDx eN), aN.imp fun q t e => (e.same hh).same hid_out⟩ ⟨j + 2, .rule (by decide) ?_⟩ wo (by omega) to_ (by omega)
      rw [book_rule]
      exact ok0.app (ok1.app (ok4.app (okB.app (okE.app (AuOk.one (by decide) f1)))))
    · refine .rule (by decide) ?_
      rw [book_rule]
      exact ok0.bad (ok1.bad (ok4.bad (okB.bad (okE.bad (AuBad.one (by decide) f0)))))
end
end My

namespace My
open PySem PySem.Spec PyProof.Rows L2
/-! ### what a right form tells -/
theorem small_big {n : Nat} (h : n ≤ 100000) : n < sizeLine := by rw [sizeLine_eq]; omega
theorem in_kvB : ∀ {xs : List Str} {x : Str}, x ∈ xs → valV (kvB xs) (Sum.inr x) = some (.bl true)
  | y :: xs, x, h => by
    show valV (((Sum.inr y : Key), V.bl true) :: kvB xs) (Sum.inr x) = _
    by_cases e : y = x
    · rw [valV_pos (by rw [e])]
    · rw [valV_neg (fun z => e (Sum.inr.inj z))]
      exact in_kvB ((List.mem_cons.mp h).resolve_left fun z => e z.symm)
theorem fold_ge (r : List Nat) : ∀ a : Nat, 0 < a → 0 < r.foldl (fun acc c => acc * 10 + (c - 48)) a := by
  induction r with
  | nil => exact fun _ h => h
  | cons c r ih =>
    intro a h
    rw [List.foldl_cons]
    exact ih _ (by omega)
theorem dig_is {c : Nat} (h : inS DIG c = true) : 48 ≤ c ∧ c ≤ 57 := by
  have h : c ∈ DIG.cps.toList := of_decide_eq_true h
  have e : DIG.cps.toList = [48, 49, 50, 51, 52, 53, 54, 55, 56, 57] := by decide +kernel
  rw [e] at h
  simp only [List.mem_cons, List.not_mem_nil, or_false] at h
  omega
theorem scanF_cnt (q : Nat → Bool) : ∀ (f : Nat) (t : List Nat) (p : Nat), ∀ k ∈ (scanF f t p).1, k.2.1.countP q ≤ t.countP q
  | 0, _, _, _, h => by cases h
  | _ + 1, [], _, _, h => by cases h
  | f + 1, c :: r, p, k, h => by
    unfold scanF at h
    by_cases hb : inS BLK c = true
    · rw [if_pos hb] at h
      exact Nat.le_trans (scanF_cnt q f r (p + 1) k h) (List.sublist_cons_self c r).countP_le
    · rw [if_neg hb] at h
      cases e : lexL (c :: r) with
      | none => rw [e] at h; cases h
      | some y =>
        obtain ⟨k', n⟩ := y
        rw [e] at h
        rcases List.mem_cons.mp h with h | h
        · rw [h]
          exact (List.take_sublist n (c :: r)).countP_le
        · exact Nat.le_trans (scanF_cnt q f _ _ k h) (List.drop_sublist n (c :: r)).countP_le
theorem num_val {z : List Nat} {dg : Str} (h : NumAt z dg) (n0 : dg ≠ "0") (cz : z.countP (inS DIG) ≤ 640) : ∃ n : Int, PySem.intText? dg = some n ∧ dg.length ≤ 640 ∧ 0 < n := by
  obtain ⟨t, ht, k, rfl⟩ := h
  have cn := scanF_cnt (inS DIG) _ _ _ t ht
  rcases scan_ok t ht with ⟨k', _⟩ | ⟨k', _⟩ | ⟨_, c, r, ec, hd, h0⟩
  · rw [k] at k'; exact absurd k' (by decide)
  · rw [k] at k'; exact absurd k' (by decide)
  · have el : (txt t.2.1).cps.toList = c :: r := by rw [ec]; rfl
    have c1 : t.2.1.countP (inS DIG) = t.2.1.length := List.countP_eq_length.mpr (by rw [ec]; exact hd)
    have l : (txt t.2.1).length ≤ 640 := by rw [txt_len]; omega
    have c0 : c ≠ 48 := fun e => n0 (by rw [ec, h0 e, e]; decide +kernel)
    have cc := dig_is (hd c List.mem_cons_self)
    refine ⟨_, PySem.intText_digits (x := txt t.2.1) (by rw [el]; exact fun d hd' => dig_is (hd d hd')) (by rw [el]; exact List.cons_ne_nil _ _) (by omega), l, ?_⟩
    rw [el]
    have : 0 < PySem.NumText.digitsVal (c :: r) := by
      unfold PySem.NumText.digitsVal
      rw [List.foldl_cons]
      exact fold_ge r _ (by omega)
    omega
/-- no number is nought, and the goods are known and different -/
def PrtsOk (ws : List Str) (ps : List Pt) : Prop := (∀ p ∈ ps, p.1 ≠ "0" ∧ p.2 ∈ ws) ∧ (ps.map (·.2)).Nodup
def spAre : Sp := fun vs H Q _ => ∃ (kd l : Addr) (ws : List Str) (ps : List Pt), vs = [.ref kd, .ref l] ∧ H kd = some (.dK (kvB ws)) ∧ SideAt H l ps ∧ ps.length ≤ 100000 ∧ ∀ (r : Bool) (H' : Hp), Same H H' → (r = true → PrtsOk ws ps) → Q (.bl r) H'
/-- a told book is right -/
structure ToldOk (ws : List Str) (ts : List Tr8) : Prop where
  gn : ws.Nodup
  nn : (ts.map (·.1)).Nodup
  al : ∀ t ∈ ts, PrtsOk ws (t.2.1 ++ t.2.2)
def spWrongT : Sp := fun vs H Q _ => ∃ (g l : Addr) (ws : List Str) (ts : List Tr8), vs = [.ref g, .ref l] ∧ H g = some (.lst (ws.map V.str)) ∧ TolAt H l ts ∧ ws.length ≤ 1000 ∧ ts.length ≤ 1000 ∧ (∀ t ∈ ts, t.2.1.length ≤ 10000 ∧ t.2.2.length ≤ 10000) ∧
  (∀ H', Same H H' → ToldOk ws ts → Q .non H') ∧ ∀ (p : Addr) (ys : List V) (H' : Hp), Same H H' → H' p = some (.tup ys) → Q (.ref p) H'
section
variable {P : Program} {w : World} {K : PySem.W.Frag} {mg : Str → Option Value} {base : Heap}
theorem ok_are_parts (T : Tx K mg) : FnOk P w K mg base CX0 1 T.a_are_parts T.fd_are_parts ["known", "parts"] spAre := by
  refine T.F_are_parts.ok sc_are_parts (fun vs H Q E h => ?_) (fun cdv A outer st H vs Q E hr h => ?_)
  · obtain ⟨kd, l, ws, ps, rfl, _⟩ := h
    rfl
  obtain ⟨kd, l, ws, ps, rfl, hk, ⟨qs, hl, aq⟩, lp, k⟩ := h
  have hu := hu_of hr
  refine ⟨_, ((pss_cons (ps_set (i := 2) sc_are_parts.nd rfl (Or.inl rfl) pe_dnewK)
      (pss_cons (ps_for PassesOwn.never rfl (pi_list (pv 1)) (pg_tup rfl (pgs_cons (pg_name (i := 3) sc_are_parts.nd rfl (Or.inl rfl)) (pgs_cons (pg_name (i := 4) sc_are_parts.nd rfl (Or.inl rfl)) pgs_nil)))
        (pss_cons (ps_if (PW.pt (pw_or (pt_cmpR op_eq (pv 3) pe_str (nomark _)) (pw_or (pt_cmp (pc_dnotin hu (pv 4) (pv 0)) rfl) (pw_or1 (pt_cmp (pc_din hu (pv 4) (pv 2)) rfl)))))
        (pss_one (ps_ret pe_bl))
        pss_nil)
      (pss_one (ps_dput hu (pv 2) (pv 4) pe_bl rfl))))
      (pss_one (ps_ret pe_bl))))), ?_⟩
  intro D hD
  have s1 := same_new hD (.dK [])
  refine ⟨_, rfl, l, rfl, ⟨_, SqL.of (s1 _ _ hl)⟩, for_list (K := K) (a := l) (xs := qs.map V.ref) (fun i σ M => ∃ v3 v4 : Option V, σ = [some (.ref kd), some (.ref l), some (.ref D), v3, v4] ∧ Same H M ∧ M D = some (.dK (kvB ((ps.take i).map (·.2)))) ∧ PrtsOk ws (ps.take i))
    ⟨none, none, rfl, s1, upd_same, (fun _ h => nomatch h), List.nodup_nil⟩ (fun i σ M _ ⟨_, _, _, z, _⟩ => SqL.of (z _ _ hl)) (fun i y σ M hy z => ?_) (fun σ M z => ?_)⟩
  · obtain ⟨v3, v4, rfl, sM, eD, po, nd⟩ := z
    obtain ⟨q, hq, rfl⟩ := getM hy
    obtain ⟨p, hp, eq⟩ := aq.get hq
    have eq : H q = some (.tup [.str p.1, .str p.2]) := eq
    refine ⟨q, _, rfl, SqT.of (sM _ _ eq), rfl, _, _, rfl, _, _, rfl, rfl, ?_⟩
    refine ⟨_, rfl, rfl, _, rfl, ?_⟩
    have ff : ∀ {r : Bool}, r = false → (r = true → PrtsOk ws ps) := fun {r} e h => by rw [e] at h; cases h
    refine iteD (fun t => ?_) (fun t => ?_)
    · exact iteT (k false M sM (ff rfl))
    · have t : p.1 ≠ "0" := fun e => t (congrArg V.str e)
      have nxt : p.2 ∈ ws → p.2 ∉ (ps.take i).map (·.2) → PrtsOk ws (ps.take (i + 1)) := fun h1 h2 => by
        rw [← take_snoc hp]
        refine ⟨fun u hu => ?_, ?_⟩
        · rcases List.mem_append.mp hu with h | h
          · exact po u h
          · rw [List.mem_singleton.mp h]; exact ⟨t, h1⟩
        · rw [List.map_append, List.nodup_append]
          exact ⟨nd, by simp, fun a ha b hb e => h2 (by
            have : b = p.2 := by simpa using hb
            rw [← this, ← e]; exact ha)⟩
      by_cases h1 : p.2 ∈ ws
      · have g1 : DGet M kd (.str p.2) (some (.bl true)) := by rw [← in_kvB h1]; exact DGet.k (k := Sum.inr p.2) (sM _ _ hk)
        refine ⟨_, rfl, _, rfl, kd, _, rfl, g1, _, rfl, iteF ?_⟩
        by_cases h2 : p.2 ∈ (ps.take i).map (·.2)
        · have g2 : DGet M D (.str p.2) (some (.bl true)) := by rw [← in_kvB h2]; exact DGet.k (k := Sum.inr p.2) eD
          refine ⟨_, rfl, _, rfl, D, _, rfl, g2, _, rfl, iteT ?_⟩
          exact k false M sM (ff rfl)
        · have g2 : DGet M D (.str p.2) none := by rw [← no_kvB h2]; exact DGet.k (k := Sum.inr p.2) eD
          refine ⟨_, rfl, _, rfl, D, _, rfl, g2, _, rfl, iteF ?_⟩
          refine ⟨_, rfl, _, rfl, D, _, rfl, DPut.k (k := Sum.inr p.2) eD ?_, ?_⟩
          · unfold kvB
            rw [List.length_map, List.length_map, List.length_take]
            exact small_big (by omega)
          · rw [put_kvB h2]
            refine ⟨_, _, rfl, same_put hD sM, ?_, nxt h1 h2⟩
            rw [upd_same, ← take_snoc hp, List.map_append]; rfl
      · have g1 : DGet M kd (.str p.2) none := by rw [← no_kvB h1]; exact DGet.k (k := Sum.inr p.2) (sM _ _ hk)
        refine ⟨_, rfl, _, rfl, kd, _, rfl, g1, _, rfl, iteT ?_⟩
        exact k false M sM (ff rfl)
  · obtain ⟨v3, v4, rfl, sM, eD, po⟩ := z
    rw [List.length_map, aq.1, List.take_length] at po
    exact k true M sM fun _ => po
theorem ok_wrong_told (T : Tx K mg) : FnOk P w K mg base CX0 2 T.a_wrong_told T.fd_wrong_told ["goods", "told"] spWrongT := by
  refine T.F_wrong_told.ok sc_wrong_told (fun vs H Q E h => ?_) (fun cdv A outer st H vs Q E hr h => ?_)
  · obtain ⟨g, l, ws, ts, rfl, _⟩ := h
    rfl
  obtain ⟨g, l, ws, ts, rfl, hg, ⟨qs, hl, aq⟩, lw, lt, lps, kY, kN⟩ := h
  have hu := hu_of hr
  have G_are_parts : FnOk P w K mg base CX0 1 T.a_are_parts T.fd_are_parts ["known", "parts"] spAre := ok_are_parts T
  have hr_are_parts : Room 1 _ := hr
  refine ⟨_, ((pss_cons (ps_set (i := 2) sc_wrong_told.nd rfl (Or.inl rfl) pe_dnewK)
      (pss_cons (ps_for PassesOwn.never rfl (pi_enumM (by rfl) T.n_enumerate (pa_cons (pv 0) pa_nil)) (pg_tup rfl (pgs_cons (pg_name (i := 3) sc_wrong_told.nd rfl (Or.inl rfl)) (pgs_cons (pg_name (i := 4) sc_wrong_told.nd rfl (Or.inl rfl)) pgs_nil)))
        (pss_cons (ps_if (pt_cmp (pc_din hu (pv 4) (pv 2)) rfl)
        (pss_one (ps_ret (pe_tup (pa_cons pe_int (pa_cons (pv 3) pa_nil)))))
        pss_nil)
      (pss_one (ps_dput hu (pv 2) (pv 4) pe_bl rfl))))
      (pss_cons (ps_set (i := 5) sc_wrong_told.nd rfl (Or.inl rfl) pe_dnewK)
      (pss_cons (ps_for PassesOwn.never rfl (pi_enumM (by rfl) T.n_enumerate (pa_cons (pv 1) pa_nil)) (pg_tup rfl (pgs_cons (pg_name (i := 3) sc_wrong_told.nd rfl (Or.inl rfl)) (pgs_cons (pg_tup rfl (pgs_cons (pg_name (i := 6) sc_wrong_told.nd rfl (Or.inl rfl)) (pgs_cons (pg_name (i := 7) sc_wrong_told.nd rfl (Or.inl rfl)) (pgs_cons (pg_name (i := 8) sc_wrong_told.nd rfl (Or.inl rfl)) pgs_nil)))) pgs_nil)))
        (pss_cons (ps_if (pt_cmp (pc_din hu (pv 6) (pv 5)) rfl)
        (pss_one (ps_ret (pe_tup (pa_cons pe_int (pa_cons (pv 3) (pa_cons pe_int pa_nil))))))
        pss_nil)
      (pss_cons (ps_dput hu (pv 5) (pv 6) pe_bl rfl)
      (pss_one (ps_if (pt_not (pt_val (pe_call G_are_parts hr_are_parts rfl T.m_are_parts T.F_are_parts.kp T.b_are_parts .nil pass0 (pa_cons (pv 2) (pa_cons (pe_op op_cat (pv 7) (pv 8)) pa_nil)))))
        (pss_one (ps_ret (pe_tup (pa_cons pe_int (pa_cons (pv 3) (pa_cons pe_int pa_nil))))))
        pss_nil)))))
      (pss_one (ps_ret pe_non))))))), ?_⟩
  intro D hD
  have s0 := same_new hD (.dK [])
  refine ⟨_, rfl, false, g, _, rfl, SqL.of (s0 _ _ hg), for_it walk_enumM (fun i σ M => ∃ v3 v4 : Option V, σ = [some (.ref g), some (.ref l), some (.ref D), v3, v4, none, none, none, none] ∧ Same H M ∧ M D = some (.dK (kvB (ws.take i))) ∧ (ws.take i).Nodup)
    ⟨none, none, rfl, s0, upd_same, List.nodup_nil⟩ (fun i σ M _ ⟨_, _, _, z, _⟩ => SqL.of (z _ _ hg)) (fun i x σ M M' hi z y => ?_) (fun σ M z => ?_)⟩
  · obtain ⟨v3, v4, rfl, sM, eD, nd⟩ := z
    obtain ⟨C, u, v, rfl, nC, rfl, eu, ev⟩ := y
    obtain ⟨x, hx, rfl⟩ := getM ev
    have sC := same_new nC (.tup [u, .str x])
    refine ⟨C, _, rfl, SqT.of upd_same, rfl, _, _, rfl, _, _, rfl, rfl, ?_⟩
    have eD2 := sC _ _ eD
    by_cases h2 : x ∈ ws.take i
    · have g2 : DGet (L2.upd M C (.tup [u, .str x])) D (.str x) (some (.bl true)) := by rw [← in_kvB h2]; exact DGet.k (k := Sum.inr x) eD2
      refine ⟨_, rfl, _, rfl, D, _, rfl, g2, _, rfl, iteT ?_⟩
      exact ⟨_, rfl, (by show 2 ≤ sizeLine; decide), fun p hp => kN p _ _ ((sM.trans sC).trans (same_new hp _)) upd_same⟩
    · have g2 : DGet (L2.upd M C (.tup [u, .str x])) D (.str x) none := by rw [← no_kvB h2]; exact DGet.k (k := Sum.inr x) eD2
      refine ⟨_, rfl, _, rfl, D, _, rfl, g2, _, rfl, iteF ?_⟩
      refine ⟨_, rfl, _, rfl, D, _, rfl, DPut.k (k := Sum.inr x) eD2 ?_, ?_⟩
      · unfold kvB
        rw [List.length_map, List.length_take]
        exact small_big (by omega)
      · rw [put_kvB h2, take_snoc hx]
        refine ⟨_, _, rfl, same_put hD (sM.trans sC), upd_same, ?_⟩
        rw [← take_snoc hx, List.nodup_append]
        exact ⟨nd, by simp, fun a ha b hb e => h2 (by
          have : b = x := by simpa using hb
          rw [← this, ← e]; exact ha)⟩
  · obtain ⟨v3, v4, rfl, sM, eD, nd⟩ := z
    rw [List.length_map, List.take_length] at eD nd
    intro D2 hD2
    have s1 := sM.trans (same_new hD2 (.dK []))
    have n12 : D ≠ D2 := ne_of_none eD hD2
    have eD1 := same_new hD2 (.dK []) _ _ eD
    have hD20 := sM.free hD2
    have e20 := upd_same (H := M) (a := D2) (o := HO.dK [])
    generalize L2.upd M D2 (.dK []) = M1 at s1 eD1 e20 ⊢
    refine ⟨_, rfl, false, l, _, rfl, SqL.of (s1 _ _ hl), for_it walk_enumM (fun i σ N => ∃ v3 v4 v6 v7 v8 : Option V, σ = [some (.ref g), some (.ref l), some (.ref D), v3, v4, some (.ref D2), v6, v7, v8] ∧ Same H N ∧ N D = some (.dK (kvB ws)) ∧ N D2 = some (.dK (kvB ((ts.take i).map (·.1)))) ∧ ((ts.take i).map (·.1)).Nodup ∧ ∀ t ∈ ts.take i, PrtsOk ws (t.2.1 ++ t.2.2))
      ⟨_, _, none, none, none, rfl, s1, eD1, e20, List.nodup_nil, (fun _ h => nomatch h)⟩ (fun i σ N _ ⟨_, _, _, _, _, _, z, _⟩ => SqL.of (z _ _ hl)) (fun i x σ N N' hi z y => ?_) (fun σ N z => ?_)⟩
    · obtain ⟨v3, v4, v6, v7, v8, rfl, sN, eN, eN2, nd2, al⟩ := z
      obtain ⟨C, u, v, rfl, nC, rfl, eu, ev⟩ := y
      obtain ⟨q, hq, rfl⟩ := getM ev
      obtain ⟨t, ht, a, c, et, sa, sc⟩ := aq.get hq
      have sC := same_new nC (.tup [u, .ref q])
      have sNC := sN.trans sC
      have eC := upd_same (H := N) (a := C) (o := HO.tup [u, .ref q])
      have eN' := sC _ _ eN
      have eN2' := sC _ _ eN2
      generalize L2.upd N C (.tup [u, .ref q]) = N1 at sC sNC eC eN' eN2' ⊢
      refine ⟨C, _, rfl, SqT.of eC, rfl, _, _, rfl, _, _, rfl, q, _, rfl, SqT.of (sNC _ _ et), rfl, _, _, rfl, _, _, rfl, _, _, rfl, rfl, rfl, ?_⟩
      by_cases h2 : t.1 ∈ (ts.take i).map (·.1)
      · have g2 : DGet N1 D2 (.str t.1) (some (.bl true)) := by rw [← in_kvB h2]; exact DGet.k (k := Sum.inr t.1) eN2'
        refine ⟨_, rfl, _, rfl, D2, _, rfl, g2, _, rfl, iteT ?_⟩
        exact ⟨_, rfl, (by show 3 ≤ sizeLine; decide), fun p hp => kN p _ _ (sNC.trans (same_new hp _)) upd_same⟩
      · have g2 : DGet N1 D2 (.str t.1) none := by rw [← no_kvB h2]; exact DGet.k (k := Sum.inr t.1) eN2'
        refine ⟨_, rfl, _, rfl, D2, _, rfl, g2, _, rfl, iteF ?_⟩
        refine ⟨_, rfl, _, rfl, D2, _, rfl, DPut.k (k := Sum.inr t.1) eN2' ?_, ?_⟩
        · unfold kvB
          rw [List.length_map, List.length_map, List.length_take]
          exact small_big (by omega)
        · rw [put_kvB h2]
          have sP : Same H (L2.upd N1 D2 (.dK (kvB ((ts.take i).map (·.1) ++ [t.1])))) := fun b u e => by rw [upd_ne (ne_of_none e hD20)]; exact sNC _ _ e
          have eP := upd_same (H := N1) (a := D2) (o := HO.dK (kvB ((ts.take i).map (·.1) ++ [t.1])))
          have eDP : (L2.upd N1 D2 (.dK (kvB ((ts.take i).map (·.1) ++ [t.1])))) D = some (.dK (kvB ws)) := by rw [upd_ne n12]; exact eN'
          generalize L2.upd N1 D2 (.dK (kvB ((ts.take i).map (·.1) ++ [t.1]))) = N2 at sP eP eDP ⊢
          obtain ⟨q1, e1, a1⟩ := sa
          obtain ⟨q2, e2, a2⟩ := sc
          have lp := lps t (List.mem_of_getElem? ht)
          refine ⟨_, rfl, _, rfl, _, rfl, a, c, _, _, rfl, rfl, sP _ _ e1, sP _ _ e2, by rw [List.length_map, List.length_map, a1.1, a2.1, sizeLine_eq]; omega, fun p hp => ?_⟩
          have sp := same_new hp (.lst (q1.map V.ref ++ q2.map V.ref))
          have sPp := sP.trans sp
          have aa : AllAt (PtAt (L2.upd N2 p (.lst (q1.map V.ref ++ q2.map V.ref)))) (q1 ++ q2) (t.2.1 ++ t.2.2) := (a1.imp fun _ _ e => sPp _ _ e).app (a2.imp fun _ _ e => sPp _ _ e)
          refine ⟨D, p, ws, t.2.1 ++ t.2.2, rfl, sp _ _ eDP, ⟨q1 ++ q2, by rw [upd_same, List.map_append], aa⟩, by rw [List.length_append]; omega, fun r N3 s3 imp => ⟨_, rfl, ?_⟩⟩
          have sF := sPp.trans s3
          cases r with
          | false =>
            refine iteT ?_
            exact ⟨_, rfl, (by show 3 ≤ sizeLine; decide), fun p hp => kN p _ _ (sF.trans (same_new hp _)) upd_same⟩
          | true =>
            refine iteF ?_
            refine ⟨_, _, _, _, _, rfl, sF, s3 _ _ (sp _ _ eDP), ?_, ?_, fun t' ht' => ?_⟩
            · rw [s3 _ _ (sp _ _ eP), ← take_snoc ht, List.map_append]; rfl
            · rw [← take_snoc ht, List.map_append, List.nodup_append]
              exact ⟨nd2, by simp, fun a ha b hb e => h2 (by
                have : b = t.1 := by simpa using hb
                rw [← this, ← e]; exact ha)⟩
            · rw [← take_snoc ht] at ht'
              rcases List.mem_append.mp ht' with h | h
              · exact al t' h
              · rw [List.mem_singleton.mp h]; exact imp rfl
    · obtain ⟨v3, v4, v6, v7, v8, rfl, sN, eN, eN2, nd2, al⟩ := z
      rw [List.length_map, aq.1, List.take_length] at nd2 al
      exact kY N sN ⟨nd, nd2, al⟩
end
end My

namespace My
open PySem PySem.Spec PyProof.Rows L2
/-! ### the row of a told barter -/
theorem get_idx {xs : List Str} {x : Str} : ∀ {i : Nat} {f : Nat → V}, xs.Nodup → xs[i]? = some x → valV (xs.mapIdx fun i x => ((Sum.inr x : Key), f i)) (Sum.inr x) = some (f i) := by
  induction xs with
  | nil => intro i f _ h; cases i <;> cases h
  | cons a r ih =>
    intro i f nd h
    rw [List.mapIdx_cons]
    cases i with
    | zero =>
      cases h
      exact valV_pos rfl
    | succ i =>
      have h' : r[i]? = some x := h
      have na : ¬ a = x := fun e => (List.nodup_cons.mp nd).1 (e ▸ List.mem_of_getElem? h')
      rw [valV_neg (fun z => na (Sum.inr.inj z))]
      exact ih (f := fun i => f (i + 1)) (List.nodup_cons.mp nd).2 h'
theorem get_kvN {xs : List Str} {x : Str} {i : Nat} (nd : xs.Nodup) (h : xs[i]? = some x) : valV (kvN xs) (Sum.inr x) = some (.int (i : Nat)) := get_idx (f := fun i => .int (i : Nat)) nd h
theorem getD_out {r : List Int} {i : Nat} (h : ¬ i < r.length) : r.getD i 0 = 0 := by
  rw [List.getD_eq_getElem?_getD, List.getElem?_eq_none (by omega)]; rfl
theorem getD_set {r : List Int} {j i : Nat} {m : Int} (h : j < r.length) : (r.set j m).getD i 0 = if j = i then m else r.getD i 0 := by
  rw [List.getD_eq_getElem?_getD, List.getD_eq_getElem?_getD, List.getElem?_set]
  by_cases e : j = i
  · subst e
    rw [if_pos rfl, if_pos rfl, if_pos h]; rfl
  · rw [if_neg e, if_neg e]
theorem getD_zero {n i : Nat} : (List.replicate n (0 : Int)).getD i 0 = 0 := by
  rw [List.getD_eq_getElem?_getD, List.getElem?_replicate]
  split <;> rfl
theorem mem_getD {r : List Int} {i : Nat} (h : i < r.length) : r.getD i 0 ∈ r := by
  rw [List.getD_eq_getElem?_getD, List.getElem?_eq_getElem h]
  exact List.getElem_mem h
theorem mixed_at20 {r : List Int} {i j : Nat} (hi : r.getD i 0 < 0) (hj : 0 < r.getD j 0) : mixedB r = true := by
  have li : i < r.length := by
    apply Classical.byContradiction
    intro z; rw [getD_out z] at hi; omega
  have lj : j < r.length := by
    apply Classical.byContradiction
    intro z; rw [getD_out z] at hj; omega
  unfold mixedB
  rw [Bool.and_eq_true, List.any_eq_true, List.any_eq_true]
  exact ⟨⟨_, mem_getD li, decide_eq_true hi⟩, _, mem_getD lj, decide_eq_true hj⟩
theorem flat_rep (n : Nat) : (List.replicate n [V.int 0]).flatten = rowV (List.replicate n 0) := by
  induction n with
  | zero => rfl
  | succ n ih => rw [List.replicate_succ, List.flatten_cons, ih, List.replicate_succ]; rfl
theorem rowV_set (r : List Int) (i : Nat) (m : Int) : rowV (r.set i m) = (rowV r).set i (.int m) := List.map_set
theorem ixN_nat {n i : Nat} (h : i < n) : ixN n (i : Int) = some i := by
  unfold ixN
  rw [if_pos (Int.natCast_nonneg i), if_pos (by omega)]
  rfl
structure RowSt (ws : List Str) (r : List Int) (ng ps : List Pt) : Prop where
  ln : r.length = ws.length
  ng : ∀ p ∈ ng, r.getD (ws.idxOf p.2) 0 < 0
  ps : ∀ p ∈ ps, 0 < r.getD (ws.idxOf p.2) 0
theorem idx_ne8 {ws : List Str} {a b : Str} (ha : a ∈ ws) (hb : b ∈ ws) (n : a ≠ b) : ws.idxOf a ≠ ws.idxOf b := fun e => n (by
  have h1 := List.getElem_idxOf (List.idxOf_lt_length_of_mem ha)
  have h2 := List.getElem_idxOf (List.idxOf_lt_length_of_mem hb)
  rw [← h1, ← h2]
  congr 1)
theorem RowSt.put {ws : List Str} {r : List Int} {ng ps : List Pt} {p : Pt} {m : Int} (h : RowSt ws r ng ps) (mp : p.2 ∈ ws) (df : ∀ q ∈ ng ++ ps, q.2 ∈ ws ∧ q.2 ≠ p.2) :
    (m < 0 → RowSt ws (r.set (ws.idxOf p.2) m) (ng ++ [p]) ps) ∧ (0 < m → RowSt ws (r.set (ws.idxOf p.2) m) ng (ps ++ [p])) := by
  have lj : ws.idxOf p.2 < r.length := by rw [h.ln]; exact List.idxOf_lt_length_of_mem mp
  have old : ∀ q ∈ ng ++ ps, (r.set (ws.idxOf p.2) m).getD (ws.idxOf q.2) 0 = r.getD (ws.idxOf q.2) 0 := fun q hq => by
    obtain ⟨a, b⟩ := df q hq
    rw [getD_set lj, if_neg (idx_ne8 mp a b.symm)]
  have new : (r.set (ws.idxOf p.2) m).getD (ws.idxOf p.2) 0 = m := by rw [getD_set lj, if_pos rfl]
  refine ⟨fun m0 => ⟨by rw [List.length_set]; exact h.ln, fun q hq => ?_, fun q hq => ?_⟩, fun m0 => ⟨by rw [List.length_set]; exact h.ln, fun q hq => ?_, fun q hq => ?_⟩⟩
  · rcases List.mem_append.mp hq with z | z
    · rw [old q (List.mem_append.mpr (.inl z))]; exact h.ng q z
    · rw [List.mem_singleton.mp z, new]; exact m0
  · rw [old q (List.mem_append.mpr (.inr hq))]; exact h.ps q hq
  · rw [old q (List.mem_append.mpr (.inl hq))]; exact h.ng q hq
  · rcases List.mem_append.mp hq with z | z
    · rw [old q (List.mem_append.mpr (.inr z))]; exact h.ps q z
    · rw [List.mem_singleton.mp z, new]; exact m0
theorem prts_take {ws : List Str} {L : List Pt} (h : PrtsOk ws L) {k : Nat} {p : Pt} (e : L[k]? = some p) : p.2 ∈ ws ∧ ∀ q ∈ L.take k, q.2 ∈ ws ∧ q.2 ≠ p.2 := by
  obtain ⟨al, nd⟩ := h
  refine ⟨(al p (List.mem_of_getElem? e)).2, fun q hq => ⟨(al q (List.mem_of_mem_take hq)).2, fun z => ?_⟩⟩
  have n2 := nodup_take nd (show (L.map (·.2))[k]? = some p.2 by rw [List.getElem?_map, e]; rfl)
  rw [← List.map_take] at n2
  exact n2 (List.mem_map.mpr ⟨q, hq, z⟩)
def spRow8 : Sp := fun vs H Q _ => ∃ (nd a c : Addr) (z : List Nat) (ws : List Str) (ps rs : List Pt), vs = [.ref nd, .ref a, .ref c] ∧ H nd = some (.dK (kvN ws)) ∧ SideAt H a ps ∧ SideAt H c rs ∧ ws.Nodup ∧ ws.length ≤ 1000 ∧ PrtsOk ws (ps ++ rs) ∧ (∀ p ∈ ps ++ rs, PtOk z p) ∧ z.countP (inS DIG) ≤ 640 ∧ ps ≠ [] ∧ rs ≠ [] ∧
  ∀ (p : Addr) (r : List Int) (H' : Hp), Same H H' → H' p = some (.tup (rowV r)) → r.length = ws.length → mixedB r = true → Q (.ref p) H'
section
variable {P : Program} {w : World} {K : PySem.W.Frag} {mg : Str → Option Value} {base : Heap}
theorem ok_told_row (T : Tx K mg) : FnOk P w K mg base CX0 1 T.a_told_row T.fd_told_row ["numbers", "taken", "given"] spRow8 := by
  refine T.F_told_row.ok sc_told_row (fun vs H Q E h => ?_) (fun cdv A outer st H vs Q E hr h => ?_)
  · obtain ⟨nd, a, c, z, ws, ps, rs, rfl, _⟩ := h
    rfl
  obtain ⟨nd, a, c, z, ws, ps, rs, rfl, hN, ⟨qs, ha, aa⟩, ⟨us, hc, ac⟩, wn, lw, po, pk, cz, ne1, ne2, k⟩ := h
  have hu := hu_of hr
  have lkv : (kvN ws).length = ws.length := by unfold kvN; rw [List.length_mapIdx]
  refine ⟨_, ((pss_cons (ps_set (i := 3) sc_told_row.nd rfl (Or.inl rfl) (pe_op op_rep (pe_lst (pa_cons pe_int pa_nil)) (pe_callB call_lenD (by rfl) T.n_len (by decide +kernel) (pa_cons (pv 0) pa_nil))))
      (pss_cons (ps_for PassesOwn.never rfl (pi_list (pv 1)) (pg_tup rfl (pgs_cons (pg_name (i := 4) sc_told_row.nd rfl (Or.inl rfl)) (pgs_cons (pg_name (i := 5) sc_told_row.nd rfl (Or.inl rfl)) pgs_nil)))
        (pss_one (ps_asg (pe_un un_neg (pe_callTy call_int_str (by rfl) T.n_int (by decide +kernel) (pa_cons (pv 4) pa_nil))) (pg_sub (pv 3) (pe_dget hu (pv 0) (pv 5) (fun _ _ => rfl)) set_list))))
      (pss_cons (ps_for PassesOwn.never rfl (pi_list (pv 2)) (pg_tup rfl (pgs_cons (pg_name (i := 4) sc_told_row.nd rfl (Or.inl rfl)) (pgs_cons (pg_name (i := 5) sc_told_row.nd rfl (Or.inl rfl)) pgs_nil)))
        (pss_one (ps_asg (pe_callTy call_int_str (by rfl) T.n_int (by decide +kernel) (pa_cons (pv 4) pa_nil)) (pg_sub (pv 3) (pe_dget hu (pv 0) (pv 5) (fun _ _ => rfl)) set_list))))
      (pss_one (ps_ret (pe_callTy (show CallR _ (.type "tuple") (rTupOf K) from call_tupK) (by rfl) T.n_tuple (by decide +kernel) (pa_cons (pv 3) pa_nil)))))))), ?_⟩
  refine ⟨(by show 1 ≤ sizeLine; decide), fun q hq => ?_⟩
  have s1 := same_new hq (.lst [.int 0])
  have e1 := upd_same (H := H) (a := q) (o := HO.lst [.int 0])
  generalize L2.upd H q (.lst [.int 0]) = M1 at s1 e1 ⊢
  refine ⟨_, rfl, nd, _, rfl, s1 _ _ hN, ?_⟩
  rw [lkv]
  refine ⟨q, _, _, rfl, rfl, e1, by omega, by omega, by rw [Int.toNat_natCast]; show 1 * ws.length ≤ sizeLine; rw [sizeLine_eq]; omega, fun R hR => ?_⟩
  rw [Int.toNat_natCast, flat_rep]
  have hR0 := s1.free hR
  have s2 := s1.trans (same_new hR (.lst (rowV (List.replicate ws.length 0))))
  have eR := upd_same (H := M1) (a := R) (o := HO.lst (rowV (List.replicate ws.length 0)))
  generalize L2.upd M1 R (.lst (rowV (List.replicate ws.length 0))) = M2 at s2 eR ⊢
  have gN : ∀ {N : Hp} {x : Str}, Same H N → x ∈ ws → DGet N nd (.str x) (some (.int (ws.idxOf x : Nat))) := fun {N x} s m => by
    rw [← get_kvN wn (show ws[ws.idxOf x]? = some x by rw [List.getElem?_eq_getElem (List.idxOf_lt_length_of_mem m), List.getElem_idxOf])]
    exact DGet.k (k := Sum.inr x) (s _ _ hN)
  refine ⟨_, rfl, a, rfl, ⟨_, SqL.of (s2 _ _ ha)⟩, for_list (K := K) (a := a) (xs := qs.map V.ref) (fun i σ N => ∃ (v4 v5 : Option V) (r : List Int), σ = [some (.ref nd), some (.ref a), some (.ref c), some (.ref R), v4, v5] ∧ Same H N ∧ N R = some (.lst (rowV r)) ∧ RowSt ws r (ps.take i) [])
    ⟨none, none, _, rfl, s2, eR, List.length_replicate, (fun _ h => nomatch h), (fun _ h => nomatch h)⟩ (fun i σ N _ ⟨_, _, _, _, z, _⟩ => SqL.of (z _ _ ha)) (fun i y σ N hy zz => ?_) (fun σ N zz => ?_)⟩
  · obtain ⟨v4, v5, r, rfl, sN, eN, rs0⟩ := zz
    obtain ⟨u, hu', rfl⟩ := getM hy
    obtain ⟨p, hp, ep⟩ := aa.get hu'
    have ep : H u = some (.tup [.str p.1, .str p.2]) := ep
    have hp2 : (ps ++ rs)[i]? = some p := by rw [List.getElem?_append_left (List.getElem?_eq_some_iff.mp hp).1]; exact hp
    obtain ⟨mp, df⟩ := prts_take po hp2
    have mem := List.mem_of_getElem? hp2
    obtain ⟨n, hn, hl, n0⟩ := num_val (pk p mem).1 (po.1 p mem).1 cz
    have tk : (ps ++ rs).take i = ps.take i := by
      rw [List.take_append_of_le_length (Nat.le_of_lt (List.getElem?_eq_some_iff.mp hp).1)]
    rw [tk] at df
    refine ⟨u, _, rfl, SqT.of (sN _ _ ep), rfl, _, _, rfl, _, _, rfl, rfl, ?_⟩
    have lj : ws.idxOf p.2 < ws.length := List.idxOf_lt_length_of_mem mp
    refine ⟨_, rfl, _, n, rfl, hn, hl, _, rfl, _, rfl, _, rfl, _, rfl, nd, _, rfl, gN sN mp, R, _, _, ws.idxOf p.2, rfl, rfl, eN, by rw [List.length_map, rs0.ln]; exact ixN_nat lj, ?_⟩
    have er : (rowV r).set (ws.idxOf p.2) (.int (-n)) = rowV (r.set (ws.idxOf p.2) (-n)) := (rowV_set r _ _).symm
    rw [er]
    refine ⟨_, _, _, rfl, fun b u' e => by rw [upd_ne (ne_of_none e hR0)]; exact sN _ _ e, upd_same, ?_⟩
    rw [← take_snoc hp]
    exact (rs0.put mp (by rw [List.append_nil]; exact df)).1 (by omega)
  · obtain ⟨v4, v5, r, rfl, sN, eN, rs0⟩ := zz
    rw [List.length_map, aa.1, List.take_length] at rs0
    refine ⟨_, rfl, c, rfl, ⟨_, SqL.of (sN _ _ hc)⟩, for_list (K := K) (a := c) (xs := us.map V.ref) (fun i σ O => ∃ (v4 v5 : Option V) (r : List Int), σ = [some (.ref nd), some (.ref a), some (.ref c), some (.ref R), v4, v5] ∧ Same H O ∧ O R = some (.lst (rowV r)) ∧ RowSt ws r ps (rs.take i))
      ⟨_, _, _, rfl, sN, eN, rs0⟩ (fun i σ O _ ⟨_, _, _, _, z, _⟩ => SqL.of (z _ _ hc)) (fun i y σ O hy zz => ?_) (fun σ O zz => ?_)⟩
    · obtain ⟨v4, v5, r, rfl, sO, eO, rs1⟩ := zz
      obtain ⟨u, hu', rfl⟩ := getM hy
      obtain ⟨p, hp, ep⟩ := ac.get hu'
      have ep : H u = some (.tup [.str p.1, .str p.2]) := ep
      have hp2 : (ps ++ rs)[ps.length + i]? = some p := by rw [List.getElem?_append_right (by omega), Nat.add_sub_cancel_left]; exact hp
      obtain ⟨mp, df⟩ := prts_take po hp2
      have mem := List.mem_of_getElem? hp2
      obtain ⟨n, hn, hl, n0⟩ := num_val (pk p mem).1 (po.1 p mem).1 cz
      have tk : (ps ++ rs).take (ps.length + i) = ps ++ rs.take i := List.take_length_add_append i
      rw [tk] at df
      refine ⟨u, _, rfl, SqT.of (sO _ _ ep), rfl, _, _, rfl, _, _, rfl, rfl, ?_⟩
      have lj : ws.idxOf p.2 < ws.length := List.idxOf_lt_length_of_mem mp
      refine ⟨_, rfl, _, n, rfl, hn, hl, _, rfl, _, rfl, _, rfl, nd, _, rfl, gN sO mp, R, _, _, ws.idxOf p.2, rfl, rfl, eO, by rw [List.length_map, rs1.ln]; exact ixN_nat lj, ?_⟩
      have er : (rowV r).set (ws.idxOf p.2) (.int n) = rowV (r.set (ws.idxOf p.2) n) := (rowV_set r _ _).symm
      rw [er]
      refine ⟨_, _, _, rfl, fun b u' e => by rw [upd_ne (ne_of_none e hR0)]; exact sO _ _ e, upd_same, ?_⟩
      rw [← take_snoc hp]
      exact (rs1.put mp df).2 n0
    · obtain ⟨v4, v5, r, rfl, sO, eO, rs1⟩ := zz
      rw [List.length_map, ac.1, List.take_length] at rs1
      refine ⟨_, rfl, R, _, rfl, .inl ⟨SqL.of eO, fun t ht => ?_⟩⟩
      obtain ⟨p1, r1, rfl⟩ := List.exists_cons_of_ne_nil ne1
      obtain ⟨p2, r2, rfl⟩ := List.exists_cons_of_ne_nil ne2
      exact k t r _ (sO.trans (same_new ht _)) upd_same rs1.ln (mixed_at20 (rs1.ng p1 List.mem_cons_self) (rs1.ps p2 List.mem_cons_self))
end
end My

namespace My
open PySem PySem.Spec PyProof.Rows L2
/-! ### a book from a text -/
theorem mk_same20 {N : Hp} {x dx C : Addr} (hx : N x = none) (hdx : N dx = none) (n : dx ≠ x) : Same N (L2.upd (L2.upd N dx (.own x)) x (.ins C dx [])) :=
  (same_new hdx (.own x)).trans (same_new (H := L2.upd N dx (.own x)) (p := x) (by rw [upd_ne n.symm]; exact hx) (.ins C dx []))
def spInitT (K : PySem.W.Frag) (C : Addr) : Sp := fun vs H Q _ => ∃ (a b : Addr) (xs : List V), vs = [.ref a, .ref b] ∧ H a = some (exo a C none) ∧ SqT K H b xs ∧
  ∀ dx, H dx = none → dx ≠ a → Q .non (upd (upd H dx (exd dx [("path", .ref b)])) a (exo a C (some dx)))
def spReadBook (Ct Cb : Addr) : Sp := fun vs H Q E => ∃ (z : Str), vs = [.str z] ∧ z.length ≤ 10000 ∧ z.cps.toList.countP (inS DIG) ≤ 640 ∧ cbF "," z.cps.toList (tks z.cps.toList).length ≤ 90 ∧ cbF ";" z.cps.toList (tks z.cps.toList).length ≤ 90 ∧
  (∀ j, AuBad z.cps.toList ["BOOK"] 0 j → ∀ (dx : Addr) (H' : Hp), Same H H' → H' dx = some (.xd [("place", .int (placeF z.cps.toList j : Nat))]) → E (.ref Ct) (some dx) H') ∧
  (∀ j, AuOk z.cps.toList ["BOOK"] 0 j → (∀ (dx : Addr) (H' : Hp), Same H H' → E (.ref Cb) (some dx) H') ∧ ∀ (y : Addr) (H' : Hp), Same H H' → Q (.ref y) H')
section
variable {P : Program} {w : World} {K : PySem.W.Frag} {mg : Str → Option Value} {base : Heap}
theorem ok_badBook (T : Tx K mg) : FnOk P w K mg base CX0 1 T.e_BadBook.fI T.e_BadBook.fd ["self", "path"] (spInitT K T.e_BadBook.C) := by
  refine T.e_BadBook.F.ok sc_BadBook (fun vs H Q E h => ?_) (fun cdv A outer st H vs Q E hr h => ?_)
  · obtain ⟨a, b, xs, rfl, _⟩ := h
    rfl
  obtain ⟨a, b, xs, rfl, ha, hb, k⟩ := h
  refine ⟨_, pss_one (ps_ost (pv 0) (pe_callTy call_tuple_of (by rfl) T.n_tuple (by decide +kernel) (pa_cons (pv 1) pa_nil))), ?_⟩
  exact ⟨_, rfl, b, xs, rfl, .inr ⟨hb, _, rfl, a, _, rfl, T.e_BadBook.oex, T.e_BadBook.noF, .inl ⟨ha, fun dx h1 h2 => k dx h1 h2⟩⟩⟩
theorem ok_read_book (T : Tx K mg) : FnOk P w K mg base (L2.CX P w) 7 T.a_read_book T.fd_read_book ["text"] (spReadBook T.e_BadText.C T.e_BadBook.C) := by
  refine T.F_read_book.okX sc_read_book (fun vs H Q E h => ?_) (fun cdv A outer st H vs Q E hr h => ?_)
  · obtain ⟨z, rfl, _⟩ := h
    rfl
  obtain ⟨z, rfl, zl, zd, zc, zs, kT, kO⟩ := h
  have hu := hu_of hr
  have G_Reader_init : FnOk P w K mg base CX0 4 T.a_Reader_init T.fd_Reader_init ["self", "text"] (spReader T.C_Reader) := ok_Reader_init T
  have hr_Reader_init : Room 5 _ := hr.mono (by decide)
  have G_read_parts : FnOk P w K mg base (L2.CX P w) 6 T.a_read_parts T.fd_read_parts ["reader"] (spParts T.C_Reader T.e_BadText.C) := ok_read_parts T
  have hr_read_parts : Room 6 _ := hr
  have G_wrong_told : FnOk P w K mg base CX0 2 T.a_wrong_told T.fd_wrong_told ["goods", "told"] spWrongT := ok_wrong_told T
  have hr_wrong_told : Room 2 _ := hr.mono (by decide)
  have G_told_row : FnOk P w K mg base CX0 1 T.a_told_row T.fd_told_row ["numbers", "taken", "given"] spRow8 := ok_told_row T
  have hr_told_row : Room 1 _ := hr.mono (by decide)
  have G_Book_init : FnOk P w K mg base CX0 5 T.a_Book_init T.fd_Book_init ["self", "goods", "barters"] (spInit34 T.C_Book) := ok_Book_init T
  have hr_Book_init : Room 6 _ := hr
  have hr2 : Room 2 _ := hr.mono (by decide)
  refine ⟨_, ((pss_cons (ps_asg (pe_call G_read_parts hr_read_parts rfl T.m_read_parts T.F_read_parts.kp T.b_read_parts .nil (passes_call (takes_of rfl rfl rfl rfl) (fun _ _ _ _ z => z)) (pa_cons (pe_make T.M_Reader G_Reader_init hr_Reader_init rfl T.m_Reader T.b_Reader_init .nil pass0 (pa_cons (pv 0) pa_nil)) pa_nil)) (pg_tup rfl (pgs_cons (pg_name (i := 1) sc_read_book.nd rfl (Or.inl rfl)) (pgs_cons (pg_name (i := 2) sc_read_book.nd rfl (Or.inl rfl)) pgs_nil))))
      (pss_cons (ps_set (i := 3) sc_read_book.nd rfl (Or.inl rfl) (pe_call G_wrong_told hr_wrong_told rfl T.m_wrong_told T.F_wrong_told.kp T.b_wrong_told .nil pass0 (pa_cons (pv 1) (pa_cons (pv 2) pa_nil))))
      (pss_cons (ps_if (pt_cmpR op_notN (pv 3) pe_non (nomark _))
        (pss_one (ps_raise rfl (takes_of rfl rfl rfl rfl) (pmk_oex T.e_BadBook.oex T.e_BadBook.iC T.e_BadBook.tI (ok_badBook T) hr2 T.e_BadBook.b .nil pass0 rfl T.e_BadBook.m (pa_cons (pv 3) pa_nil))))
        pss_nil)
      (pss_cons (ps_setDc (i := 4) (own := [("j", 9), ("good", 10)]) (by rfl) sc_read_book.nd rfl rfl (sw_trueD rfl rfl rfl (by decide +kernel)) (pi_enumM (by rfl) T.n_enumerate (pa_cons (pv 1) pa_nil)) (blkOk_by (own := [("j", 9), ("good", 10)]) (N := ["text", "goods", "told", "path", "numbers", "barters", "name", "taken", "given", "j", "good"]) (sc := defScope s_read_book) (by decide +kernel)) (fun _ _ _ _ _ => show PG _ _ (gTup K 2 (gCons (gName 9) (gCons (gName 10) gNil))) from (pg_tup rfl (pgs_cons (pg_name (i := 9) sc_read_book.nd rfl (Or.inl rfl)) (pgs_cons (pg_name (i := 10) sc_read_book.nd rfl (Or.inl rfl)) pgs_nil)))) (fun _ _ _ _ _ => pts_nil) (fun _ _ _ _ _ => (pv 10)) (fun _ _ _ _ _ => (pv 9)))
      (pss_cons (ps_set (i := 5) sc_read_book.nd rfl (Or.inl rfl) (pe_lst pa_nil))
      (pss_cons (ps_for (passes_of rfl) rfl (pi_list (pv 2)) (pg_tup rfl (pgs_cons (pg_name (i := 6) sc_read_book.nd rfl (Or.inl rfl)) (pgs_cons (pg_name (i := 7) sc_read_book.nd rfl (Or.inl rfl)) (pgs_cons (pg_name (i := 8) sc_read_book.nd rfl (Or.inl rfl)) pgs_nil))))
        (pss_one (ps_expr (pe_bm PySem.F.plainAttrs_list PySem.F.slot_list_append PySem.F.type_list_append mt_append (pv 5) (pa_cons (pe_tup (pa_cons (pv 6) (pa_cons (pe_call G_told_row hr_told_row rfl T.m_told_row T.F_told_row.kp T.b_told_row .nil pass0 (pa_cons (pv 4) (pa_cons (pv 7) (pa_cons (pv 8) pa_nil)))) pa_nil))) pa_nil)))))
      (pss_one (ps_ret (pe_make T.M_Book G_Book_init hr_Book_init rfl T.m_Book T.b_Book_init .nil pass0 (pa_cons (pv 1) (pa_cons (pv 5) pa_nil)))))))))))), ?_⟩
  refine ⟨_, rfl, fun x dx hx hdx ndx => ?_⟩
  have s1 := mk_same20 (C := T.C_Reader) hx hdx ndx
  have ex : (L2.upd (L2.upd H dx (.own x)) x (.ins T.C_Reader dx [])) x = some (.ins T.C_Reader dx []) := upd_same
  generalize L2.upd (L2.upd H dx (.own x)) x (.ins T.C_Reader dx []) = M1 at s1 ex ⊢
  have keep : ∀ {N : Hp}, But x M1 N → Same H N := fun {N} b c u e => b _ _ (ne_of_none e hx) (s1 _ _ e)
  refine ⟨x, dx, z, rfl, ex, by omega, fun b M2 hb b2 R => ⟨rfl, ?_⟩⟩
  refine ⟨x, b, z.cps.toList, 0, rfl, R, fun p g t ws trs M3 b3 ep eg tol okj wo lw to_ lt => ?_, fun j bad dx2 H' bb e => kT j bad dx2 H' (keep (b2.trans bb)) e⟩
  obtain ⟨j, okj⟩ := okj
  obtain ⟨kB, kQ⟩ := kO j okj
  have s3 := keep (b2.trans b3)
  refine ⟨p, _, rfl, SqT.of ep, rfl, _, _, rfl, _, _, rfl, rfl, ?_⟩
  have lz : z.cps.toList.length = z.length := str_len z
  refine ⟨_, rfl, _, rfl, g, t, ws, trs, rfl, eg, tol, by omega, by omega, fun t ht => ⟨by have := (to_ t ht).2.2.2.2.2.1; omega, by have := (to_ t ht).2.2.2.2.2.2; omega⟩, fun M4 s4 ok => ?_, fun pp ys M4 s4 epp => ?_⟩
  · refine ⟨_, rfl, rfl, _, rfl, ?_⟩
    rw [show (!decide (V.non = V.non)) = false by rw [decide_eq_true rfl]; rfl]
    refine iteF ?_
    have eg4 := s4 _ _ eg
    obtain ⟨qs, ht, aq⟩ := tol
    have ht4 := s4 _ _ ht
    have aq4 := aq.imp fun q t e => e.same s4
    refine ⟨_, rfl, false, g, ws.map V.str, rfl, SqL.of eg4, fun dg hdg => ?_⟩
    refine dc_it walk_enumM (fun i M => Same M4 M ∧ M dg = some (.dK (kvN (ws.take i)))) ⟨same_new hdg _, upd_same⟩ (fun i M _ zz => SqL.of (zz.1 _ _ eg4)) (fun i y M M' hi zz y' => ?_) (fun MC zz => ?_)
    · obtain ⟨C, u, v, rfl, nC, rfl, eu, ev⟩ := y'
      obtain ⟨good, hx', rfl⟩ := getM ev
      cases eu
      obtain ⟨sM', eM'⟩ := zz
      have sC := same_new nC (.tup [.int (i : Nat), .str good])
      refine ⟨C, _, rfl, SqT.of upd_same, rfl, _, _, rfl, _, _, rfl, rfl, rfl, ?_⟩
      refine ⟨_, rfl, _, rfl, _, Sum.inr good, rfl, sC _ _ eM', ?_, same_put hdg (sM'.trans sC), ?_⟩
      · rw [kvN_len, List.length_take]; exact small_big (by omega)
      · rw [upd_same, kvN_take ok.gn hx']
    · obtain ⟨sC, eC⟩ := zz
      rw [List.length_map, List.take_length] at eC
      have s4C := (s3.trans s4).trans sC
      refine ⟨Nat.zero_le _, fun L hL => ?_⟩
      have ntL : t ≠ L := ne_of_none (sC _ _ ht4) hL
      have ngL : g ≠ L := ne_of_none (sC _ _ eg4) hL
      have ndL : dg ≠ L := ne_of_none eC hL
      have s5 := same_new hL (.lst [])
      have eL := upd_same (H := MC) (a := L) (o := HO.lst [])
      have hL0 := s4C.free hL
      have sF := s4C.trans s5
      have et5 := s5 _ _ (sC _ _ ht4)
      have eg5 := s5 _ _ (sC _ _ eg4)
      have ed5 := s5 _ _ eC
      have aqC := aq4.imp fun q t e => e.same sC
      generalize L2.upd MC L (.lst []) = M5 at s5 eL sF et5 eg5 ed5 ⊢
      refine ⟨_, rfl, t, rfl, ⟨_, SqL.of et5⟩, for_list (K := K) (a := t) (xs := qs.map V.ref) (fun i σ N => ∃ (v6 v7 v8 : Option V) (ps : List Addr) (bs : List Br), σ = [some (.str z), some (.ref g), some (.ref t), some .non, some (.ref dg), some (.ref L), v6, v7, v8, none, none] ∧ (∀ c u, c ≠ L → M5 c = some u → N c = some u) ∧ N L = some (.lst (ps.map V.ref)) ∧ BrsAt N ps bs ∧ bs.map (·.1) = (trs.take i).map (·.1) ∧ ∀ b ∈ bs, wordD (.str b.1) = true ∧ b.2.length = ws.length ∧ mixedB b.2 = true)
        ⟨none, none, none, [], [], rfl, fun _ _ _ e => e, eL, BrsAt.nil, rfl, (fun _ h => nomatch h)⟩ (fun i σ N _ ⟨_, _, _, _, _, _, zz, _⟩ => SqL.of (zz _ _ ntL et5)) (fun i y σ N hy zz => ?_) (fun σ N zz => ?_)⟩
      · obtain ⟨v6, v7, v8, ps, bs, rfl, kp, eN, aN, bn, bo⟩ := zz
        obtain ⟨q, hq, rfl⟩ := getM hy
        have sN : Same MC N := fun c u e => kp _ _ (ne_of_none e hL) (s5 _ _ e)
        obtain ⟨tt, ht', a, c, et, sa, sc⟩ := aqC.get hq
        obtain ⟨wt, ne1, ne2, pk1, pk2, _, _⟩ := to_ tt (List.mem_of_getElem? ht')
        have aln := aN.1
        have bln : bs.length ≤ trs.length := by
          have := congrArg List.length bn
          rw [List.length_map, List.length_map, List.length_take] at this
          omega
        refine ⟨q, _, rfl, SqT.of (sN _ _ et), rfl, _, _, rfl, _, _, rfl, _, _, rfl, rfl, ?_⟩
        refine ⟨_, rfl, .inl ⟨rfl, _, SqL.of eN⟩, _, rfl, _, rfl, _, rfl, _, rfl, dg, a, c, z.cps.toList, ws, tt.2.1, tt.2.2, rfl, sN _ _ eC, sa.same sN, sc.same sN, ok.gn, by omega, ok.al tt (List.mem_of_getElem? ht'), fun p hp => (List.mem_append.mp hp).elim (pk1 p) (pk2 p), zd, ne1, ne2, fun pr r N2 s2 epr lr mr => ⟨(by show 2 ≤ sizeLine; decide), fun q2 hq2 => ?_⟩⟩
        have s3' := same_new hq2 (.tup [.str tt.1, .ref pr])
        have eq2 := upd_same (H := N2) (a := q2) (o := HO.tup [.str tt.1, .ref pr])
        generalize L2.upd N2 q2 (.tup [.str tt.1, .ref pr]) = N3 at s3' eq2 ⊢
        have sNN := s2.trans s3'
        have eL3 := sNN _ _ eN
        have kt : KT N3 (L2.upd N3 L (.lst (ps.map V.ref ++ [V.ref q2]))) := KT.upd eL3
        refine ⟨L, _, _, rfl, rfl, eL3, by rw [List.length_map]; exact small_big (by omega), ⟨_, _, _, ps ++ [q2], bs ++ [(tt.1, r)], rfl, fun c' u nc e => ?_, by rw [upd_same, List.map_append]; rfl, ?_, ?_, fun b hb => ?_⟩⟩
        · rw [upd_ne nc]
          exact sNN _ _ (kp _ _ nc e)
        · exact ((aN.same sNN).kt kt).snoc ⟨pr, kt _ _ eq2, kt _ _ (s3' _ _ epr)⟩
        · rw [List.map_append, bn, ← take_snoc ht', List.map_append]; rfl
        · rcases List.mem_append.mp hb with h | h
          · exact bo b h
          · rw [List.mem_singleton.mp h]; exact ⟨wt, lr, mr⟩
      · obtain ⟨v6, v7, v8, ps, bs, rfl, kp, eN, aN, bn, bo⟩ := zz
        rw [List.length_map, aq.1, List.take_length] at bn
        have sN : Same MC N := fun c u e => kp _ _ (ne_of_none e hL) (s5 _ _ e)
        have bln : bs.length = trs.length := by
          have := congrArg List.length bn
          rwa [List.length_map, List.length_map] at this
        refine ⟨_, rfl, _, rfl, fun y dy hy hdy ndy => ?_⟩
        have s6 := mk_same20 (C := T.C_Book) hy hdy ndy
        have ey : (L2.upd (L2.upd N dy (.own y)) y (.ins T.C_Book dy [])) y = some (.ins T.C_Book dy []) := upd_same
        generalize L2.upd (L2.upd N dy (.own y)) y (.ins T.C_Book dy []) = R2 at s6 ey ⊢
        refine ⟨y, g, L, dy, ps, ws, bs, rfl, ey, s6 _ _ (sN _ _ (sC _ _ eg4)), s6 _ _ eN, aN.same s6, ⟨wo, ok.gn, by omega, bo, by rw [bn]; exact ok.nn, by omega⟩, fun R3 kp3 bf => ⟨rfl, ?_⟩⟩
        exact kQ y R3 fun c u e => kp3 c u (ne_of_none (sN _ _ (s4C _ _ e)) hy) (s6 _ _ (sN _ _ (s4C _ _ e)))
  · refine ⟨_, rfl, rfl, _, rfl, ?_⟩
    rw [show (!decide (V.ref pp = V.non)) = true by rw [decide_eq_false (fun z => nomatch z)]; rfl]
    refine iteT ⟨_, rfl, (by show 1 ≤ 1000; decide), fun e he => ?_⟩
    refine ⟨e, pp, ys, rfl, upd_same, SqT.of (by rw [upd_ne (ne_of_none epp he)]; exact epp), fun dx2 h1 h2 => ⟨rfl, dx2, [("path", .ref pp)], upd_same, ?_, ?_, ?_⟩⟩
    · rw [upd_ne h2]; exact upd_same
    · rw [upd_ne h2] at h1; exact h1
    · refine kB dx2 _ ?_
      intro y u hy
      have hy := (s3.trans s4) _ _ hy
      have n1 : y ≠ e := ne_of_none hy he
      have n2 : y ≠ dx2 := by
        rw [upd_ne h2] at h1
        exact ne_of_none hy h1
      rw [upd_ne n2, del_ne n1, upd_ne n1, upd_ne n2, upd_ne n1]
      exact hy
end
end My

namespace My
open PySem PySem.Spec PyProof.Rows L2
/-! ### what the law is told of a text -/
def outV : Option Nat → List V
  | none => []
  | some p => [.int (p : Nat)]
theorem Au.uniq {z : List Nat} {n : Nat} {s : List Str} {i : Nat} {o : Option Nat} (h : Au z n s i o) : ∀ {m : Nat} {o' : Option Nat}, Au z m s i o' → o = o' := by
  induction h with
  | nil i => intro m o' g; cases g; rfl
  | ex t _ ih =>
    intro m o' g
    cases g with
    | ex _ g => exact ih g
    | eat t' _ _ => rw [t] at t'; cases t'
    | bad t' _ => rw [t] at t'; cases t'
  | eat t f _ ih =>
    intro m o' g
    cases g with
    | ex t' _ => rw [t] at t'; cases t'
    | eat _ _ g => exact ih g
    | bad _ f' => rw [f] at f'; cases f'
  | bad t f =>
    intro m o' g
    cases g with
    | ex t' _ => rw [t] at t'; cases t'
    | eat _ f' _ => rw [f] at f'; cases f'
    | bad _ _ => rfl
/-- a text that is short enough -/
structure Shrt (z : Str) : Prop where
  l : z.length ≤ 10000
  d : z.cps.toList.countP (inS DIG) ≤ 640
  c : cbF "," z.cps.toList (tks z.cps.toList).length ≤ 90
  s : cbF ";" z.cps.toList (tks z.cps.toList).length ≤ 90
def spTold8 : Sp := fun vs H Q _ => ∃ (z : Str), vs = [.str z] ∧ Shrt z ∧ ∀ (out : Option Nat) (n : Nat) (a : Addr) (H' : Hp), Au z.cps.toList n ["BOOK"] 0 out → Same H H' → H a = none → H' a = some (.lst (outV out)) → Q (.ref a) H'
section
variable {P : Program} {w : World} {K : PySem.W.Frag} {mg : Str → Option Value} {base : Heap}
theorem ok_told8 (T : Tx K mg) : FnOk P w K mg base CX0 8 T.a_law_told T.fd_law_told ["_law_text"] spTold8 := by
  refine T.F_law_told.ok sc_law_told (fun vs H Q E h => ?_) (fun cdv A outer st H vs Q E hr h => ?_)
  · obtain ⟨z, rfl, _⟩ := h
    rfl
  obtain ⟨z, rfl, S, k⟩ := h
  have G_read_book : FnOk P w K mg base (L2.CX P w) 7 T.a_read_book T.fd_read_book ["text"] (spReadBook T.e_BadText.C T.e_BadBook.C) := ok_read_book T
  have hr_read_book : Room 7 _ := hr
  refine ⟨_, ((pss_cons (ps_try_mix
          (tb := fun W => tDrop (tCallS (spReadBook T.e_BadText.C T.e_BadBook.C) (WE W) (tCons (tVar 0) tNil)))
          (l := [(.ref T.e_BadText.C, some 1, fun a cls d => tRet (tLst (tCons (tXf a cls d T.e_BadText.C "place" (tVar 1)) tNil))), (.ref T.e_BadBook.C, none, fun a cls d => tRet (tLst tNil))]) (Wout := fun _ _ _ _ => False)
          rfl rfl sc_law_told.nd L2.takes0 (fun W pn xe tk _ => pss_one (ps_expr (pe_callS G_read_book hr_read_book rfl T.m_read_book T.F_read_book.kp T.b_read_book (fun σ => passAt tk σ) (pa_cons (pv 0) pa_nil))))
          (.cons rfl rfl ⟨rfl, by decide, Or.inl T.e_BadText.m⟩ (fun a oe cls d pn hz hf => pss_one (ps_ret (pe_lst (pa_cons (pe_xf T.e_BadText.xf T.e_BadText.noF hz hf (pv 1)) pa_nil))))
            (.consN ⟨rfl, by decide, Or.inl T.e_BadBook.m⟩ (fun a oe cls d pn hz hf => pss_one (ps_ret (pe_lst pa_nil))) .nil)))
      (pss_one (ps_ret (pe_lst pa_nil))))), ?_⟩
  refine ⟨_, rfl, z, rfl, S.l, S.d, S.c, S.s, fun j bad dx H1 s1 ed => ?_, fun j ok => ⟨fun dx H1 s1 => ?_, fun y H1 s1 => ?_⟩⟩
  · obtain ⟨n, hn⟩ := bad []
    refine ⟨true, T.e_BadText.te, fun _ x hx => ?_, fun q => Bool.noConfusion q⟩
    refine ⟨_, rfl, rfl, rfl, dx, _, _, rfl, ed, by simp [List.lookup]; rfl, (by show 1 ≤ sizeLine; decide), fun a ha => ?_⟩
    exact k (some (placeF z.cps.toList j)) n a _ hn (s1.trans (same_new ha _)) (s1.free ha) upd_same
  · obtain ⟨n, hn⟩ := ok [] none 0 (.nil j)
    refine ⟨false, T.xm_BadBook_BadText, fun z => Bool.noConfusion z, fun _ => ?_⟩
    refine ⟨true, T.e_BadBook.te, fun _ x hx => ?_, fun q => Bool.noConfusion q⟩
    refine ⟨Nat.zero_le _, fun a ha => ?_⟩
    exact k none n a _ hn (s1.trans (same_new ha _)) (s1.free ha) upd_same
  · obtain ⟨n, hn⟩ := ok [] none 0 (.nil j)
    refine ⟨Nat.zero_le _, fun a ha => ?_⟩
    exact k none n a _ hn (s1.trans (same_new ha _)) (s1.free ha) upd_same
end
end My

namespace My
open PySem PySem.Spec PyProof.Rows L2
/-! ### the law's own going through the table -/
def PosAt (z : List Nat) (p i : Nat) : Prop := scan (z.drop p) p = ((tks z).drop i, (scan z 0).2)
theorem pos_zero (z : List Nat) : PosAt z 0 0 := rfl
structure HdAt (z : List Nat) (i : Nat) (tag tx : Str) (q : Nat) : Prop where
  etag : tag = hTag z i
  etx : tx = hText z i
  pl : q = placeF z i
  nx : (tag ≠ "none") → PosAt z (q + tx.length) (i + 1)
theorem drop_cons {α : Type} {xs : List α} {i : Nat} {y : α} {ys : List α} (h : xs.drop i = y :: ys) : xs[i]? = some y ∧ xs.drop (i + 1) = ys := by
  have lt : i < xs.length := by
    apply Classical.byContradiction
    intro n
    rw [List.drop_of_length_le (by omega)] at h; cases h
  rw [List.drop_eq_getElem_cons lt] at h
  cases h
  exact ⟨List.getElem?_eq_getElem lt, rfl⟩
theorem drop_none {α : Type} {xs : List α} {i : Nat} (h : xs.drop i = []) : xs[i]? = none ∧ xs.drop (i + 1) = [] := by
  have le : xs.length ≤ i := by
    apply Classical.byContradiction
    intro n
    rw [List.drop_eq_getElem_cons (by omega)] at h; cases h
  exact ⟨List.getElem?_eq_none_iff.mpr le, List.drop_of_length_le (by omega)⟩
theorem lex_head {z : Str} {p i : Nat} {tag tx : Str} (h : PosAt z.cps.toList p i) (st : LexSt z (p + runL (inS BLK) (z.cps.toList.drop p)) tag tx) :
    HdAt z.cps.toList i tag tx (p + runL (inS BLK) (z.cps.toList.drop p)) := by
  have sk := scan_skip (z.cps.toList.drop p) p
  rw [List.drop_drop] at sk
  unfold PosAt at h
  rw [sk] at h
  generalize p + runL (inS BLK) (z.cps.toList.drop p) = q at st h
  rcases st.cases_ with ⟨eq, rfl, rfl⟩ | ⟨c, lt, ed, hb, ⟨ln, rfl, rfl⟩ | ⟨k, n, ln, t1, t2, t3, rfl, t4⟩⟩
  · have e0 : z.cps.toList.drop q = [] := List.drop_of_length_le (by rw [str_len]; omega)
    rw [e0, scan_nil] at h
    obtain ⟨h1, h2⟩ := Prod.mk.inj h
    obtain ⟨d1, d2⟩ := drop_none h1.symm
    refine ⟨?_, ?_, ?_, fun _ => ?_⟩
    · unfold hTag; rw [d1, ← h2]; rfl
    · unfold hText; rw [d1]
    · unfold placeF; rw [d1, ← h2]; show q = z.cps.toList.length; rw [str_len]; exact eq
    · unfold PosAt
      rw [show q + ("" : Str).length = q from rfl, e0, scan_nil, ← h2, d2]
  · rw [ed] at h ln
    rw [scan_none hb ln] at h
    obtain ⟨h1, h2⟩ := Prod.mk.inj h
    obtain ⟨d1, d2⟩ := drop_none h1.symm
    refine ⟨?_, ?_, ?_, fun n => absurd rfl n⟩
    · unfold hTag; rw [d1, ← h2]; rfl
    · unfold hText; rw [d1]
    · unfold placeF; rw [d1, ← h2]; rfl
  · have ln' := ln
    rw [ed] at ln'
    have lp := lexL_pos ln'
    rw [← ed] at lp
    have ss := scan_some (p := q) hb ln'
    rw [← ed] at ss
    rw [ss] at h
    obtain ⟨h1, h2⟩ := Prod.mk.inj h
    obtain ⟨d1, d2⟩ := drop_cons h1.symm
    have tk := scan_ok _ (List.mem_of_getElem? d1)
    refine ⟨?_, ?_, ?_, fun _ => ?_⟩
    · unfold hTag
      rw [d1]
      show tag = tagF (k, (z.cps.toList.drop q).take n, q)
      unfold sortOf at t3
      rcases tk with ⟨e, _⟩ | ⟨e, _⟩ | ⟨e, _⟩
      · have e : k = "sign" := e
        rw [tag_sign e]
        exact t4 e
      · have e : k = "word" := e
        rw [tag_word e]
        rw [e] at t3
        split at t3
        · assumption
        · split at t3
          · exact absurd t3 (by decide)
          · exact absurd t3 (by decide)
      · have e : k = "number" := e
        rw [tag_num e]
        rw [e] at t3
        split at t3
        · exact absurd t3 (by decide)
        · split at t3
          · assumption
          · exact absurd t3 (by decide)
    · unfold hText; rw [d1]
    · unfold placeF; rw [d1]
    · unfold PosAt
      rw [txt_len, List.length_take, Nat.min_eq_left lp.2, d2, ← h2, List.drop_drop]
/-! the table in the heap -/
abbrev Rw := Option (List Str) × List Str
def tabF : List (Str × List Rw) :=
  [("BOOK", [(none, ["book", "LIST", "{", "BARTERS", "}", "END"])]), ("LIST", [(none, ["(", "WORDS", ")"])]), ("WORDS", [(some [")"], []), (none, ["W", "MORE"])]), ("MORE", [(some [","], [",", "W", "MORE"]), (none, [])]),
   ("BARTERS", [(some ["}"], []), (none, ["W", "SIDE", "to", "SIDE", ";", "BARTERS"])]), ("SIDE", [(none, ["(", "N", "W", "PARTS", ")"])]), ("PARTS", [(some [","], [",", "N", "W", "PARTS"]), (none, [])])]
def GdAt (H : Hp) (v : V) (g : Option (List Str)) : Prop := match g with
  | none => v = .non
  | some l => ∃ p, v = .ref p ∧ H p = some (.lst (l.map V.str))
def RwAt (H : Hp) (a : Addr) (r : Rw) : Prop := ∃ (v : V) (q : Addr), H a = some (.lst [v, .ref q]) ∧ GdAt H v r.1 ∧ H q = some (.lst (r.2.map V.str))
def RwsAt (H : Hp) (l : Addr) (rs : List Rw) : Prop := ∃ qs : List Addr, H l = some (.lst (qs.map V.ref)) ∧ AllAt (RwAt H) qs rs
def tabK (ls : List Addr) : List (Key × V) := List.zipWith (fun e l => ((Sum.inr e.1 : Key), V.ref l)) tabF ls
def RulesAt (H : Hp) (d : Addr) : Prop := ∃ ls : List Addr, H d = some (.dK (tabK ls)) ∧ AllAt (fun l e => RwsAt H l e.2) ls tabF
theorem RwAt.same {H H' : Hp} {a : Addr} {r : Rw} (h : RwAt H a r) (e : Same H H') : RwAt H' a r := by
  obtain ⟨v, q, h1, h2, h3⟩ := h
  refine ⟨v, q, e _ _ h1, ?_, e _ _ h3⟩
  unfold GdAt at h2 ⊢
  split at h2
  · exact h2
  · obtain ⟨p, a, b⟩ := h2
    exact ⟨p, a, e _ _ b⟩
theorem RwsAt.same {H H' : Hp} {l : Addr} {rs : List Rw} (h : RwsAt H l rs) (e : Same H H') : RwsAt H' l rs := let ⟨qs, a, b⟩ := h; ⟨qs, e _ _ a, b.imp fun _ _ q => q.same e⟩
theorem RulesAt.same {H H' : Hp} {d : Addr} (h : RulesAt H d) (e : Same H H') : RulesAt H' d := let ⟨ls, a, b⟩ := h; ⟨ls, e _ _ a, b.imp fun _ _ q => q.same e⟩
def fitR (tx : Str) (r : Rw) : Bool := match r.1 with
  | none => true
  | some l => decide (tx ∈ l)
theorem tab_find : ∀ {es : List (Str × List Rw)} {ls : List Addr} {R : Addr → (Str × List Rw) → Prop} {top : Str}, AllAt R ls es →
    (∃ l e, e ∈ es ∧ e.1 = top ∧ R l e ∧ valV (List.zipWith (fun e l => ((Sum.inr e.1 : Key), V.ref l)) es ls) (Sum.inr top) = some (.ref l)) ∨ (top ∉ es.map (·.1) ∧ valV (List.zipWith (fun e l => ((Sum.inr e.1 : Key), V.ref l)) es ls) (Sum.inr top) = none)
  | [], ls, R, top, h => .inr ⟨List.not_mem_nil, by rw [List.zipWith_nil_left]; exact valV_nil⟩
  | e :: es, [], R, top, h => nomatch h.1
  | e :: es, l :: ls, R, top, h => by
    have h2 : AllAt R ls es := ⟨Nat.succ.inj h.1, fun i p x a b => h.2 (i + 1) p x a b⟩
    by_cases q : e.1 = top
    · exact .inl ⟨l, e, List.mem_cons_self, q, h.2 0 l e rfl rfl, by rw [List.zipWith_cons_cons]; exact valV_pos (by rw [q])⟩
    · have nv : ∀ r, valV (((Sum.inr e.1 : Key), V.ref l) :: r) (Sum.inr top) = valV r (Sum.inr top) := fun r => valV_neg (fun z => q (Sum.inr.inj z))
      rcases tab_find (top := top) h2 with ⟨l', e', m, a, b, c⟩ | ⟨m, c⟩
      · exact .inl ⟨l', e', List.mem_cons_of_mem _ m, a, b, by rw [List.zipWith_cons_cons, nv]; exact c⟩
      · exact .inr ⟨fun z => (List.mem_cons.mp z).elim (fun y => q y.symm) m, by rw [List.zipWith_cons_cons, nv]; exact c⟩
theorem tab_rule (tx : Str) : ∀ e ∈ tabF, isNT e.1 = true ∧ ∃ r, (e.2.filter (fitR tx))[0]? = some r ∧ r.2 = ruleF e.1 tx := by
  intro e he
  unfold tabF at he
  simp only [List.mem_cons, List.not_mem_nil, or_false] at he
  have two : ∀ (l : Str) (a b : List Str), ∃ r, ([((some [l], a) : Rw), (none, b)].filter (fitR tx))[0]? = some r ∧ r.2 = if tx = l then a else b := fun l a b => by
    by_cases q : tx = l
    · refine ⟨(some [l], a), ?_, by rw [if_pos q]⟩
      rw [List.filter_cons_of_pos (by show decide (tx ∈ [l]) = true; rw [q]; exact decide_eq_true List.mem_cons_self)]; rfl
    · refine ⟨(none, b), ?_, by rw [if_neg q]⟩
      rw [List.filter_cons_of_neg (by show ¬ decide (tx ∈ [l]) = true; simpa using q), List.filter_cons_of_pos rfl]; rfl
  rcases he with rfl | rfl | rfl | rfl | rfl | rfl | rfl
  · exact ⟨rfl, _, rfl, rfl⟩
  · exact ⟨rfl, _, rfl, rfl⟩
  · exact ⟨rfl, two ")" [] ["W", "MORE"]⟩
  · exact ⟨rfl, two "," [",", "W", "MORE"] []⟩
  · exact ⟨rfl, two "}" [] ["W", "SIDE", "to", "SIDE", ";", "BARTERS"]⟩
  · exact ⟨rfl, _, rfl, rfl⟩
  · exact ⟨rfl, two "," [",", "N", "W", "PARTS"] []⟩
theorem tab_nt {top : Str} (h : top ∉ tabF.map (·.1)) : isNT top = false := by
  unfold isNT
  exact decide_eq_false h
end My

namespace L2
open PySem PySem.Spec PyProof.Rows PyProof
/-! ### a list of anything against an empty list -/
def rNeE (K : PySem.W.Frag) : R2 := fun x y H Q => ∃ (a b : Addr) (xs : List V), x = .ref a ∧ y = .ref b ∧ SqL K H a xs ∧ SqL K H b [] ∧ Q (.bl (!xs.isEmpty)) H
def rEqE (K : PySem.W.Frag) : R2 := fun x y H Q => ∃ (a b : Addr) (xs : List V), x = .ref a ∧ y = .ref b ∧ SqL K H a xs ∧ SqL K H b [] ∧ Q (.bl xs.isEmpty) H
section
variable {X : Cx}
theorem op_neE (hu : X.A.units + 64 < cLine) : OpR X (compareOp .NotEq) (rNeE X.K) := by
  intro pins s σ H x y v u Q I rx ry h
  obtain ⟨a, b, xs, rfl, rfl, ha, hb, q⟩ := h
  obtain ⟨its, r1, p1, _⟩ := I.list ha
  obtain ⟨jts, r2, p2, _⟩ := I.list hb
  cases (show v = Value.ref a from rx)
  cases (show u = Value.ref b from ry)
  cases r2
  have hc : X.A.units < cLine := by omega
  cases r1 with
  | nil => exact PySem.SeqAt.RcNeAt.lists (e := fun _ => true) p1.isList p2.isList rfl hc (fun j h1 _ => absurd h1 (Nat.not_lt_zero j)) _ _ _ _ ⟨.bl false, H, I, rfl, q⟩
  | cons _ _ => exact PySem.SeqAt.RcNeAt.lists_lengths p1.isList p2.isList (by simp) hc _ _ _ _ ⟨.bl true, H, I, rfl, q⟩
theorem op_eqE (hu : X.A.units + 64 < cLine) : OpR X (compareOp .Eq) (rEqE X.K) := by
  intro pins s σ H x y v u Q I rx ry h
  obtain ⟨a, b, xs, rfl, rfl, ha, hb, q⟩ := h
  obtain ⟨its, r1, p1, _⟩ := I.list ha
  obtain ⟨jts, r2, p2, _⟩ := I.list hb
  cases (show v = Value.ref a from rx)
  cases (show u = Value.ref b from ry)
  cases r2
  have hc : X.A.units < cLine := by omega
  cases r1 with
  | nil => exact PySem.SeqAt.RcAt.lists (e := fun _ => true) p1.isList p2.isList rfl hc (fun j h1 _ => absurd h1 (Nat.not_lt_zero j)) _ _ _ _ ⟨.bl true, H, I, rfl, q⟩
  | cons _ _ => exact PySem.SeqAt.RcAt.lists_lengths p1.isList p2.isList (by simp) hc _ _ _ _ ⟨.bl false, H, I, rfl, q⟩
end
end L2
namespace My
open PySem PySem.Spec PyProof.Rows L2 LamX
/-- a list that is filled with what breaks a rule -/
def Fz {α : Type} (H : Hp) (D : Addr) (p : α → Bool) (ds : List α) (i : Nat) (M : Hp) : Prop := Same H M ∧ ∃ ys : List V, M D = some (.lst ys) ∧ ys.length ≤ i ∧ ys.isEmpty = (ds.take i).all p
theorem Fz.zero {α : Type} {H : Hp} {D : Addr} {p : α → Bool} {ds : List α} (h : H D = none) : Fz H D p ds 0 (L2.upd H D (.lst [])) := ⟨same_new h _, [], upd_same, Nat.le_refl _, rfl⟩
theorem Fz.skip {α : Type} {H M M' : Hp} {D : Addr} {p : α → Bool} {ds : List α} {i : Nat} {d : α} (h : Fz H D p ds i M) (e : Same M M') (hd : ds[i]? = some d) (t : p d = true) : Fz H D p ds (i + 1) M' := by
  obtain ⟨s, ys, e1, l, q⟩ := h
  refine ⟨s.trans e, ys, e _ _ e1, by omega, ?_⟩
  rw [← take_snoc hd, List.all_append, q, List.all_cons, t]
  simp
theorem Fz.lay {α : Type} {H M M' : Hp} {D : Addr} {p : α → Bool} {ds : List α} {i : Nat} {d : α} {y : V} (hD : H D = none) (h : Fz H D p ds i M) (e : Same M M') (hd : ds[i]? = some d) (t : p d = false) (lz : i < 1000) :
    ∃ acc, M' D = some (.lst acc) ∧ acc.length < sizeLine ∧ Fz H D p ds (i + 1) (L2.upd M' D (.lst (acc ++ [y]))) := by
  obtain ⟨s, ys, e1, l, q⟩ := h
  refine ⟨ys, e _ _ e1, small1000 (by omega), same_put hD (s.trans e), ys ++ [y], upd_same, by rw [List.length_append]; show ys.length + 1 ≤ _; omega, ?_⟩
  rw [← take_snoc hd, List.all_append, List.all_cons, t]
  simp
end My

namespace My
open PySem PySem.Spec PyProof.Rows L2
/-! ### the law's wrong place -/
/-- all stacks that there are -/
def sufs : List Str → List (List Str)
  | [] => [[]]
  | a :: r => (a :: r) :: sufs r
def STK : List (List Str) := ([["BOOK"]] : List (List Str)) ++ sufs (["book", "LIST", "{", "BARTERS", "}", "END"] : List Str) ++ sufs (["(", "WORDS", ")", "{", "BARTERS", "}", "END"] : List Str) ++ sufs ([",", "W", "MORE", ")", "{", "BARTERS", "}", "END"] : List Str) ++
  sufs (["W", "SIDE", "to", "SIDE", ";", "BARTERS", "}", "END"] : List Str) ++ sufs (["(", "N", "W", "PARTS", ")", "to", "SIDE", ";", "BARTERS", "}", "END"] : List Str) ++ sufs ([",", "N", "W", "PARTS", ")", "to", "SIDE", ";", "BARTERS", "}", "END"] : List Str) ++
  sufs (["(", "N", "W", "PARTS", ")", ";", "BARTERS", "}", "END"] : List Str) ++ sufs ([",", "N", "W", "PARTS", ")", ";", "BARTERS", "}", "END"] : List Str)
def rhsF (top : Str) : List (List Str) := tabF.flatMap fun e => if e.1 = top then e.2.map (·.2) else []
theorem stk_cl : (STK.all fun s => match s with
    | [] => true
    | top :: r => if isNT top = true then (rhsF top).all (fun rhs => decide (rhs ++ r ∈ STK)) else decide (r ∈ STK)) = true := by decide +kernel
theorem stk_len : ∀ s ∈ STK, s.length ≤ 11 := by decide +kernel
theorem stk_no : ∀ s ∈ STK, ("none" : Str) ∉ s := by decide +kernel
theorem stk_pop {top : Str} {r : List Str} (h : top :: r ∈ STK) (n : isNT top = false) : r ∈ STK := by
  have := List.all_eq_true.mp stk_cl _ h
  have this : (if isNT top = true then (rhsF top).all (fun rhs => decide (rhs ++ r ∈ STK)) else decide (r ∈ STK)) = true := this
  rw [if_neg (by rw [n]; exact Bool.false_ne_true)] at this
  exact of_decide_eq_true this
theorem stk_put {top : Str} {r rhs : List Str} (h : top :: r ∈ STK) (n : isNT top = true) (m : rhs ∈ rhsF top) : rhs ++ r ∈ STK := by
  have := List.all_eq_true.mp stk_cl _ h
  have this : (if isNT top = true then (rhsF top).all (fun rhs => decide (rhs ++ r ∈ STK)) else decide (r ∈ STK)) = true := this
  rw [if_pos n] at this
  exact of_decide_eq_true (List.all_eq_true.mp this rhs m)
theorem rhs_in {e : Str × List Rw} {r : Rw} (he : e ∈ tabF) (hr : r ∈ e.2) : r.2 ∈ rhsF e.1 := List.mem_flatMap.mpr ⟨e, he, by rw [if_pos rfl]; exact List.mem_map.mpr ⟨r, hr, rfl⟩⟩
theorem in_strs8 (x : Str) (ws : List Str) : inV (.str x) (ws.map V.str) = decide (x ∈ ws) := by
  induction ws with
  | nil => rfl
  | cons w ws ih =>
    show ((w == x) || inV (.str x) (ws.map V.str)) = _
    rw [ih, Bool.eq_iff_iff, Bool.or_eq_true, beq_iff_eq, decide_eq_true_iff, decide_eq_true_iff, List.mem_cons]
    exact ⟨fun h => h.elim (fun z => .inl z.symm) .inr, fun h => h.elim (fun z => .inl z.symm) .inr⟩
def spWrongPl : Sp := fun vs H Q _ => ∃ (rd : Addr) (z : Str) (n : Nat) (out : Option Nat), vs = [.ref rd, .str z, .str "BOOK"] ∧ RulesAt H rd ∧ z.length ≤ 100000 ∧ Au z.cps.toList n ["BOOK"] 0 out ∧
  ∀ (a : Addr) (H' : Hp), Same H H' → H a = none → H' a = some (.lst (outV out)) → Q (.ref a) H'
section
variable {P : Program} {w : World} {K : PySem.W.Frag} {mg : Str → Option Value} {base : Heap}
theorem ok_wrong_place8 (T : Tx K mg) : FnOk P w K mg base CX0 3 T.a_law_wrong_place T.fd_law_wrong_place ["_law_rules_here", "_law_text", "_law_form"] spWrongPl := by
  refine T.F_law_wrong_place.ok sc_law_wrong_place (fun vs H Q E h => ?_) (fun cdv A outer st H vs Q E hr h => ?_)
  · obtain ⟨rd, z, n, out, rfl, _⟩ := h
    rfl
  obtain ⟨rd, z, n, out, rfl, RU, zl, au, k⟩ := h
  have hu := hu_of hr
  have G_law_lexeme : FnOk P w K mg base CX0 2 T.a_law_lexeme T.fd_law_lexeme ["_law_text", "_law_place"] spLexeme := ok_lexeme T
  have hr_law_lexeme : Room 2 _ := hr
  refine ⟨_, ((pss_cons (ps_asg (pe_tup (pa_cons (pe_lst (pa_cons (pv 2) pa_nil)) (pa_cons (pe_call G_law_lexeme hr_law_lexeme rfl T.m_law_lexeme T.F_law_lexeme.kp T.b_law_lexeme .nil pass0 (pa_cons (pv 1) (pa_cons pe_int pa_nil))) pa_nil))) (pg_tup rfl (pgs_cons (pg_name (i := 3) sc_law_wrong_place.nd rfl (Or.inl rfl)) (pgs_cons (pg_name (i := 4) sc_law_wrong_place.nd rfl (Or.inr rfl)) pgs_nil))))
      (pss_cons (ps_while PassesOwn.never (pt_cmpR (op_neE hr.units) (pv 3) (pe_lst pa_nil) (nomark _))
        (pss_cons (ps_set (i := 5) sc_law_wrong_place.nd rfl (Or.inl rfl) (pe_bm0 PySem.F.plainAttrs_list PySem.F.slot_list_pop PySem.F.type_list_pop mt_pop (pv 3)))
      (pss_one (ps_if (pt_cmp (pc_din hu (pv 5) (pv 0)) rfl)
        (pss_cons (ps_setLc (i := 6) (own := [("_law_row", 7)]) (by rfl) sc_law_wrong_place.nd rfl rfl (sw_true rfl rfl rfl (by decide +kernel)) (pi_list (pe_dget hu (pv 0) (pv 5) (fun _ _ => rfl))) (blkOk_by (own := [("_law_row", 7)]) (N := ["_law_rules_here", "_law_text", "_law_form", "_law_stack", "_law_lexeme_here", "_law_top", "_law_fits", "_law_row"]) (sc := defScope s_law_wrong_place) (by decide +kernel)) (fun _ _ _ _ _ => pg_name (i := 7) sc_law_wrong_place.nd rfl (Or.inl rfl)) (fun _ _ _ _ _ => (pts_one (PW.pt (pw_or (pt_cmpR op_isN (pe_ix (show IxR _ (rIxL K) from ix_list) (pv 7) pe_int (fun _ _ => rfl)) pe_non (nomark _)) (pw_or1 (pt_cmpR (show OpR _ _ (rIn K false) from op_in_seq) (pe_ix (show IxR _ (rIxL K) from ix_list) (pv 4) pe_int (fun _ _ => rfl)) (pe_ix (show IxR _ (rIxL K) from ix_list) (pv 7) pe_int (fun _ _ => rfl)) (by rfl))))))) (fun _ _ _ _ _ => (pe_ix (show IxR _ (rIxL K) from ix_list) (pv 7) pe_int (fun _ _ => rfl))))
      (pss_one (ps_set (i := 3) sc_law_wrong_place.nd rfl (Or.inl rfl) (pe_op op_cat (pv 3) (pe_revL (pe_ix (show IxR _ (rIxL K) from ix_list) (pv 6) pe_int (fun _ _ => rfl)))))))
        (pss_one (ps_if (PW.pt (pw_or (pt_cmpR op_eq (pe_ix (show IxR _ (rIxL K) from ix_list) (pv 4) pe_int (fun _ _ => rfl)) (pv 5) (nomark _)) (pw_or1 (PW.pt (pw_and (pt_cmpR op_eq (pe_ix (show IxR _ (rIxL K) from ix_list) (pv 4) pe_int (fun _ _ => rfl)) pe_str (nomark _)) (pw_and1 (pt_cmpR op_eq (pe_ix (show IxR _ (rIxL K) from ix_list) (pv 4) pe_int (fun _ _ => rfl)) (pv 5) (nomark _))))))))
        (pss_one (ps_set (i := 4) sc_law_wrong_place.nd rfl (Or.inr rfl) (pe_call G_law_lexeme hr_law_lexeme rfl T.m_law_lexeme T.F_law_lexeme.kp T.b_law_lexeme .nil pass0 (pa_cons (pv 1) (pa_cons (pe_op op_add (pe_ix (show IxR _ (rIxL K) from ix_list) (pv 4) pe_int (fun _ _ => rfl)) (pe_callB call_len_str (by rfl) T.n_len (by decide +kernel) (pa_cons (pe_ix (show IxR _ (rIxL K) from ix_list) (pv 4) pe_int (fun _ _ => rfl)) pa_nil))) pa_nil)))))
        (pss_one (ps_ret (pe_lst (pa_cons (pe_ix (show IxR _ (rIxL K) from ix_list) (pv 4) pe_int (fun _ _ => rfl)) pa_nil))))))))))
      (pss_one (ps_ret (pe_lst pa_nil)))))), ?_⟩
  refine ⟨_, rfl, (by show 1 ≤ sizeLine; decide), fun S0 hS0 => ?_⟩
  have s0 := same_new hS0 (.lst [.str "BOOK"])
  have e0 := upd_same (H := H) (a := S0) (o := HO.lst [.str "BOOK"])
  generalize L2.upd H S0 (.lst [.str "BOOK"]) = M0 at s0 e0 ⊢
  refine ⟨_, rfl, z, 0, rfl, zl, Nat.zero_le _, fun lx M1 tag tx s1 hlx ls elx => ?_⟩
  have hd0 := lex_head (pos_zero _) ls
  generalize 0 + runL (inS BLK) (z.cps.toList.drop 0) = q0 at ls elx hd0
  refine ⟨(by show 2 ≤ sizeLine; decide), fun tp htp => ?_⟩
  have s2 := same_new htp (.tup [.ref S0, .ref lx])
  refine ⟨tp, _, rfl, SqT.of upd_same, rfl, _, _, rfl, _, _, rfl, rfl, ?_⟩
  obtain ⟨W, hW⟩ : ∃ W : Nat → L2.St → Hp → Prop, W = fun m σ N => ∃ (st lx : Addr) (S : List Str) (tag tx : Str) (q i : Nat) (v5 v6 : Option V), σ = [some (.ref rd), some (.str z), some (.str "BOOK"), some (.ref st), some (.ref lx), v5, v6, none] ∧ Same H N ∧ H st = none ∧ lx ≠ st ∧ N st = some (.lst (S.reverse.map V.str)) ∧ N lx = some (.lst [.str tag, .str tx, .int (q : Nat)]) ∧ q + tx.length ≤ z.length ∧ HdAt z.cps.toList i tag tx q ∧ S ∈ STK ∧ Au z.cps.toList m S i out := ⟨_, rfl⟩
  have lexL' : ∀ {q : Nat} {tag tx : Str}, LexSt z q tag tx → q + tx.length ≤ z.length := fun {q tag tx} st => by
    rcases st.cases_ with ⟨eq, rfl, rfl⟩ | ⟨c, lt, ed, hb, ⟨ln, rfl, rfl⟩ | ⟨k, n, ln, t1, t2, t3, rfl, t4⟩⟩
    · exact st.le
    · exact st.le
    · have ln' := ln
      rw [ed] at ln'
      have lp := lexL_pos ln'
      rw [← ed, List.length_drop, str_len] at lp
      rw [txt_len, List.length_take, List.length_drop, str_len]
      omega
  refine ⟨W, ⟨n, by rw [hW]; exact ⟨S0, lx, ["BOOK"], tag, tx, q0, 0, none, none, rfl, (s0.trans s1).trans s2, hS0, (ne_of_none e0 hlx).symm, s2 _ _ (s1 _ _ e0), s2 _ _ elx, lexL' ls, hd0, by decide +kernel, au⟩⟩, ?_⟩
  intro m σ N ww
  rw [hW] at ww
  obtain ⟨st, lx, S, tag, tx, q, i, v5, v6, rfl, sN, hst, nls, eS, eL, qxl, hd, sy, au⟩ := ww
  refine ⟨_, rfl, Nat.zero_le _, fun e he => ?_⟩
  have s3 := same_new he (.lst [])
  refine ⟨st, e, _, rfl, rfl, SqL.of (s3 _ _ eS), SqL.of upd_same, _, rfl, ?_⟩
  have sN1 := sN.trans s3
  have eS1 := s3 _ _ eS
  have eL1 := s3 _ _ eL
  generalize L2.upd N e (.lst []) = N1 at s3 sN1 eS1 eL1 ⊢
  cases S with
  | nil =>
    cases au
    refine iteF ⟨Nat.zero_le _, fun a ha => ?_⟩
    exact k a _ (sN1.trans (same_new ha _)) (sN1.free ha) upd_same
  | cons top S =>
    have en : (!((top :: S).reverse.map V.str).isEmpty) = true := by
      rw [List.reverse_cons, List.map_append]
      cases (S.reverse.map V.str) <;> rfl
    rw [en]
    refine iteT ⟨fun σ' H' => ∃ m', m' < m ∧ W m' σ' H', fun _ _ h => h, ?_⟩
    have eS2 : N1 st = some (.lst (S.reverse.map V.str ++ [V.str top])) := by rw [eS1, List.reverse_cons, List.map_append]; rfl
    refine ⟨_, rfl, .inl ⟨rfl, _, SqL.of eS2⟩, st, _, _, rfl, rfl, eS2, by rw [List.length_append, List.length_singleton, Nat.add_sub_cancel, List.getElem?_append_right (Nat.le_refl _), Nat.sub_self]; rfl, ?_⟩
    rw [List.dropLast_concat]
    have sN2 : Same H (L2.upd N1 st (.lst (S.reverse.map V.str))) := fun b u e => by rw [upd_ne (ne_of_none e hst)]; exact sN1 _ _ e
    have eS3 := upd_same (H := N1) (a := st) (o := HO.lst (S.reverse.map V.str))
    have eL3 : (L2.upd N1 st (.lst (S.reverse.map V.str))) lx = some (.lst [.str tag, .str tx, .int (q : Nat)]) := by rw [upd_ne nls]; exact eL1
    generalize L2.upd N1 st (.lst (S.reverse.map V.str)) = N2 at sN2 eS3 eL3 ⊢
    obtain ⟨ls0, hrd, als⟩ := RU
    rcases tab_find (top := top) als with ⟨l, ent, me, rfl, rows, vv⟩ | ⟨nt, vv⟩
    · obtain ⟨isn, r0, er0, eru⟩ := tab_rule tx ent me
      have g1 : DGet N2 rd (.str ent.1) (some (.ref l)) := by rw [← vv]; exact DGet.k (k := Sum.inr ent.1) (sN2 _ _ hrd)
      refine ⟨_, rfl, _, rfl, rd, _, rfl, g1, _, rfl, iteT ?_⟩
      obtain ⟨n', rfl, au'⟩ : ∃ n', m = n' + 1 ∧ Au z.cps.toList n' (ruleF ent.1 (hText z.cps.toList i) ++ S) i out := by
        cases au with
        | ex _ g => exact ⟨_, rfl, g⟩
        | eat t' _ _ => rw [isn] at t'; cases t'
        | bad t' _ => rw [isn] at t'; cases t'
      obtain ⟨qs, hl, arw⟩ := rows
      have htx := hd.etx
      refine ⟨_, rfl, _, rfl, rd, _, rfl, g1, l, rfl, ⟨_, SqL.of (sN2 _ _ hl)⟩, fun D hD => ?_⟩
      refine lc_list (xs := qs.map V.ref) (fun j R => ∃ fs : List Addr, Same N2 R ∧ R D = some (.lst (fs.map V.ref)) ∧ AllAt (fun a (r : Rw) => H a = some (.lst (r.2.map V.str))) fs ((ent.2.take j).filter (fitR tx))) ⟨[], same_new hD _, upd_same, AllAt.nil⟩ (fun j R _ ⟨_, zz, _⟩ => SqL.of (zz _ _ (sN2 _ _ hl))) (fun j y R hy zz => ?_) (fun R zz => ?_)
      · obtain ⟨fs, sR, eD, af⟩ := zz
        obtain ⟨a, ha, rfl⟩ := getM hy
        obtain ⟨r, hr', v, qa, h1, h2, h3⟩ := arw.get ha
        have sHR := sN2.trans sR
        have lf : fs.length ≤ 1000 := by
          have h1 := af.1
          have h2 : ((ent.2.take j).filter (fitR tx)).length ≤ (ent.2.take j).length := List.length_filter_le _ _
          have h3 : (ent.2.take j).length ≤ ent.2.length := by rw [List.length_take]; omega
          have h4 : ent.2.length ≤ 2 := by
            have : ∀ e ∈ tabF, e.2.length ≤ 2 := by decide
            exact this ent me
          omega
        have tk : (ent.2.take (j + 1)).filter (fitR tx) = (ent.2.take j).filter (fitR tx) ++ if fitR tx r = true then [r] else [] := by
          rw [← take_snoc hr', List.filter_append]
          congr 1
          by_cases q : fitR tx r = true
          · rw [if_pos q, List.filter_cons_of_pos q]; rfl
          · rw [if_neg q, List.filter_cons_of_neg q]; rfl
        have yes : fitR tx r = true → ∃ acc, R D = some (.lst acc) ∧ acc.length < sizeLine ∧ (∃ fs : List Addr, Same N2 (L2.upd R D (.lst (acc ++ [.ref qa]))) ∧ (L2.upd R D (.lst (acc ++ [.ref qa]))) D = some (.lst (fs.map V.ref)) ∧ AllAt (fun a (r : Rw) => H a = some (.lst (r.2.map V.str))) fs ((ent.2.take (j + 1)).filter (fitR tx))) := fun q =>
          ⟨_, eD, by rw [List.length_map]; exact small_big (by omega), fs ++ [qa], same_put hD sR, by rw [upd_same, List.map_append]; rfl, by rw [tk, if_pos q]; exact af.snoc h3⟩
        refine ⟨rfl, _, rfl, a, _, _, _, rfl, rfl, SqL.of (sHR _ _ h1), rfl, rfl, _, rfl, ?_⟩
        unfold GdAt at h2
        split at h2
        · rename_i eg
          subst h2
          have q : fitR tx r = true := by unfold fitR; rw [eg]
          rw [show decide (V.non = V.non) = true from decide_eq_true rfl]
          refine iteT ?_
          exact iteT ⟨_, rfl, a, _, _, _, rfl, rfl, SqL.of (sHR _ _ h1), rfl, yes q⟩
        · rename_i lst eg
          obtain ⟨p, rfl, ep⟩ := h2
          rw [show decide (V.ref p = V.non) = false from decide_eq_false (fun z => nomatch z)]
          refine iteF ?_
          have q : fitR tx r = decide (tx ∈ lst) := by unfold fitR; rw [eg]
          refine ⟨_, rfl, lx, _, _, _, rfl, rfl, SqL.of (sR _ _ eL3), rfl, _, rfl, a, _, _, _, rfl, rfl, SqL.of (sHR _ _ h1), rfl, p, _, rfl, .inl (SqL.of (sHR _ _ ep)), rfl, ?_, _, rfl, ?_⟩
          · exact List.all_eq_true.mpr fun v hv => by
              obtain ⟨u, _, rfl⟩ := List.mem_map.mp hv
              rfl
          · show if (inV (.str tx) (lst.map V.str)) = true then _ else _
            rw [in_strs8]
            by_cases c : tx ∈ lst
            · rw [decide_eq_true c]
              exact iteT ⟨_, rfl, a, _, _, _, rfl, rfl, SqL.of (sHR _ _ h1), rfl, yes (by rw [q]; exact decide_eq_true c)⟩
            · rw [decide_eq_false c]
              refine iteF ⟨fs, sR, eD, ?_⟩
              rw [tk, if_neg (by rw [q, decide_eq_false c]; exact Bool.false_ne_true), List.append_nil]
              exact af
      · obtain ⟨fs, sR, eD, af⟩ := zz
        rw [List.length_map, arw.1, List.take_length] at af
        have lfs : 0 < fs.length := by
          rw [af.1]
          exact (List.getElem?_eq_some_iff.mp er0).1
        have ef := List.getElem?_eq_getElem lfs
        generalize fs[0] = a0 at ef
        have ha0 : H a0 = some (.lst (r0.2.map V.str)) := af.2 0 a0 r0 ef er0
        have sHR := sN2.trans sR
        refine ⟨_, rfl, _, rfl, D, _, _, _, rfl, rfl, SqL.of eD, atI_nat (j := 0) (mapM ef), a0, _, rfl, SqL.of (sHR _ _ ha0), fun rv hrv => ?_⟩
        have s4 := same_new hrv (.lst (r0.2.map V.str).reverse)
        refine ⟨st, rv, _, _, rfl, rfl, s4 _ _ (sR _ _ eS3), upd_same, ?_, fun st2 hst2 => ?_⟩
        · have l1 := stk_len _ (stk_put sy isn (rhs_in me (List.mem_filter.mp (List.mem_of_getElem? er0)).1))
          rw [List.length_append] at l1
          rw [List.length_map, List.length_reverse, List.length_reverse, List.length_map, sizeLine_eq]
          omega
        · have s5 := same_new hst2 (.lst (S.reverse.map V.str ++ (r0.2.map V.str).reverse))
          have sF := (sHR.trans s4).trans s5
          refine ⟨n', by omega, ?_⟩
          rw [hW]
          refine ⟨st2, lx, ruleF ent.1 tx ++ S, tag, tx, q, i, _, _, rfl, sF, (sHR.trans s4).free hst2, ne_of_none (s4 _ _ (sR _ _ eL3)) hst2, ?_, s5 _ _ (s4 _ _ (sR _ _ eL3)), qxl, hd, by rw [← eru]; exact stk_put sy isn (rhs_in me (List.mem_filter.mp (List.mem_of_getElem? er0)).1), by rw [htx]; exact au'⟩
          rw [upd_same, List.reverse_append, List.map_append, eru, List.map_reverse, List.map_reverse]
    · have g1 : DGet N2 rd (.str top) none := by rw [← vv]; exact DGet.k (k := Sum.inr top) (sN2 _ _ hrd)
      have isn := tab_nt nt
      refine ⟨_, rfl, _, rfl, rd, _, rfl, g1, _, rfl, iteF ?_⟩
      have ff0 : fitsF z.cps.toList i top = (decide (tag = top) || (decide (tag = "W") && decide (tx = top))) := by rw [hd.etag, hd.etx]; rfl
      have nn : top ≠ "none" := fun e => stk_no _ sy (by rw [e]; exact List.mem_cons_self)
      refine ⟨_, rfl, lx, _, _, _, rfl, rfl, SqL.of eL3, rfl, _, rfl, rfl, _, rfl, ?_⟩
      rw [dec_str8]
      by_cases c1 : tag = top
      · rw [decide_eq_true c1]
        refine iteT (iteT ?_)
        have ff : fitsF z.cps.toList i top = true := by rw [ff0, decide_eq_true c1]; rfl
        obtain ⟨n', rfl, au'⟩ : ∃ n', m = n' + 1 ∧ Au z.cps.toList n' S (i + 1) out := by
          cases au with
          | ex t' _ => rw [isn] at t'; cases t'
          | eat _ _ g => exact ⟨_, rfl, g⟩
          | bad _ f' => rw [ff] at f'; cases f'
        have ntag : tag ≠ "none" := by rw [c1]; exact nn
        have ltx : tx.length ≤ 100000 := by omega
        refine ⟨_, rfl, _, rfl, lx, _, _, _, rfl, rfl, SqL.of eL3, rfl, _, rfl, lx, _, _, _, rfl, rfl, SqL.of eL3, rfl, tx, rfl, sz6 ltx, _, _, rfl, rfl, z, q + tx.length, rfl, zl, qxl, fun lx2 N3 tag2 tx2 s4 hlx2 ls2 elx2 => ?_⟩
        have hd2 := lex_head (hd.nx ntag) ls2
        refine ⟨n', by omega, ?_⟩
        rw [hW]
        exact ⟨st, lx2, S, tag2, tx2, _, i + 1, _, _, rfl, sN2.trans s4, hst, (ne_of_none eS3 hlx2).symm, s4 _ _ eS3, elx2, lexL' ls2, hd2, stk_pop sy isn, au'⟩
      · rw [decide_eq_false c1]
        refine iteF ?_
        refine ⟨_, rfl, lx, _, _, _, rfl, rfl, SqL.of eL3, rfl, rfl, _, rfl, ?_⟩
        rw [dec_str8]
        by_cases c2 : tag = "W"
        · rw [decide_eq_true c2]
          refine iteT ?_
          refine ⟨_, rfl, lx, _, _, _, rfl, rfl, SqL.of eL3, rfl, _, rfl, rfl, _, rfl, ?_⟩
          rw [dec_str8]
          by_cases c3 : tx = top
          · rw [decide_eq_true c3]
            refine iteT ?_
            have ff : fitsF z.cps.toList i top = true := by rw [ff0, decide_eq_true c2, decide_eq_true c3, Bool.and_self, Bool.or_true]
            obtain ⟨n', rfl, au'⟩ : ∃ n', m = n' + 1 ∧ Au z.cps.toList n' S (i + 1) out := by
              cases au with
              | ex t' _ => rw [isn] at t'; cases t'
              | eat _ _ g => exact ⟨_, rfl, g⟩
              | bad _ f' => rw [ff] at f'; cases f'
            have ntag : tag ≠ "none" := by rw [c2]; decide
            have ltx : tx.length ≤ 100000 := by omega
            refine ⟨_, rfl, _, rfl, lx, _, _, _, rfl, rfl, SqL.of eL3, rfl, _, rfl, lx, _, _, _, rfl, rfl, SqL.of eL3, rfl, tx, rfl, sz6 ltx, _, _, rfl, rfl, z, q + tx.length, rfl, zl, qxl, fun lx2 N3 tag2 tx2 s4 hlx2 ls2 elx2 => ?_⟩
            have hd2 := lex_head (hd.nx ntag) ls2
            refine ⟨n', by omega, ?_⟩
            rw [hW]
            exact ⟨st, lx2, S, tag2, tx2, _, i + 1, _, _, rfl, sN2.trans s4, hst, (ne_of_none eS3 hlx2).symm, s4 _ _ eS3, elx2, lexL' ls2, hd2, stk_pop sy isn, au'⟩
          · rw [decide_eq_false c3]
            refine iteF ?_
            have ff : fitsF z.cps.toList i top = false := by rw [ff0, decide_eq_false c1, decide_eq_false c3, Bool.and_false]; rfl
            have eo : out = some (placeF z.cps.toList i) := by
              cases au with
              | ex t' _ => rw [isn] at t'; cases t'
              | eat _ f' _ => rw [ff] at f'; cases f'
              | bad _ _ => rfl
            refine ⟨_, rfl, lx, _, _, _, rfl, rfl, SqL.of eL3, rfl, (by show 1 ≤ sizeLine; decide), fun a ha => ?_⟩
            refine k a _ (sN2.trans (same_new ha _)) (sN2.free ha) ?_
            rw [upd_same, eo, ← hd.pl]; rfl
        · rw [decide_eq_false c2]
          refine iteF (iteF ?_)
          have ff : fitsF z.cps.toList i top = false := by rw [ff0, decide_eq_false c1, decide_eq_false c2]; rfl
          have eo : out = some (placeF z.cps.toList i) := by
            cases au with
            | ex t' _ => rw [isn] at t'; cases t'
            | eat _ f' _ => rw [ff] at f'; cases f'
            | bad _ _ => rfl
          refine ⟨_, rfl, lx, _, _, _, rfl, rfl, SqL.of eL3, rfl, (by show 1 ≤ sizeLine; decide), fun a ha => ?_⟩
          refine k a _ (sN2.trans (same_new ha _)) (sN2.free ha) ?_
          rw [upd_same, eo, ← hd.pl]; rfl
end
end My

namespace My
open PySem PySem.Spec PyProof.Rows L2
/-! ### the law's table -/
theorem AllAt.cons8 {α : Type} {R : Addr → α → Prop} {ps : List Addr} {xs : List α} {p : Addr} {x : α} (hb : R p x) (h : AllAt R ps xs) : AllAt R (p :: ps) (x :: xs) := by
  refine ⟨congrArg Nat.succ h.1, fun i q y a b => ?_⟩
  cases i with
  | zero => cases a; cases b; exact hb
  | succ i => exact h.2 i q y a b
theorem tC_run {v : V} {σ : L2.St} {H : Hp} {Q : VK} (h : Q v H) : tC v σ H Q := h
def tWs (ws : List Str) : TA := ws.foldr (fun w t => tCons (tC (V.str w)) t) tNil
def tRow (r : Rw) : TE := match r.1 with
  | none => tLst (tCons (tC V.non) (tCons (tLst (tWs r.2)) tNil))
  | some l => tLst (tCons (tLst (tWs l)) (tCons (tLst (tWs r.2)) tNil))
def tRs (rs : List Rw) : TA := rs.foldr (fun r t => tCons (tRow r) t) tNil
def RwSm (r : Rw) : Prop := r.2.length ≤ 10 ∧ ∀ l, r.1 = some l → l.length ≤ 10
/-- what is new behind a heap B -/
def nwH (B M : Hp) : Hp := fun a => if B a = none then M a else none
theorem nw_at {B M : Hp} {a : Addr} {o : HO} (b : B a = none) (e : M a = some o) : nwH B M a = some o := by unfold nwH; rw [if_pos b]; exact e
theorem nw_un {B M : Hp} {a : Addr} {o : HO} (e : nwH B M a = some o) : B a = none ∧ M a = some o := by
  unfold nwH at e
  split at e
  · rename_i b; exact ⟨b, e⟩
  · cases e
theorem nw_same {B M M' : Hp} (s : Same M M') : Same (nwH B M) (nwH B M') := fun a o e => nw_at (nw_un e).1 (s _ _ (nw_un e).2)
theorem tWs_run : ∀ {ws : List Str} {σ : L2.St} {H : Hp} {Q : List V → Hp → Prop}, Q (ws.map V.str) H → tWs ws σ H Q
  | [], _, _, _, h => h
  | _ :: ws, _, _, _, h => tWs_run (ws := ws) h
theorem tRow_run {B : Hp} {r : Rw} (hl : RwSm r) {σ : L2.St} {H : Hp} (sb : Same B H) {Q : VK} (k : ∀ a M, Same H M → H a = none → RwAt (nwH B M) a r → Q (.ref a) M) : tRow r σ H Q := by
  obtain ⟨g, ws⟩ := r
  cases g with
  | none =>
    show tWs ws σ H _
    refine tWs_run ⟨by rw [List.length_map]; exact sz6 (by have : ws.length ≤ 10 := hl.1; omega), fun q hq => ⟨by show 2 ≤ sizeLine; decide, fun a ha => ?_⟩⟩
    have s1 := same_new hq (.lst (ws.map V.str))
    have s2 := same_new ha (.lst [.non, .ref q])
    exact k a _ (s1.trans s2) (s1.free ha) ⟨_, q, nw_at ((sb.trans s1).free ha) upd_same, rfl, nw_at (sb.free hq) (s2 _ _ upd_same)⟩
  | some l =>
    show tWs l σ H _
    refine tWs_run ⟨by rw [List.length_map]; exact sz6 (by have : l.length ≤ 10 := hl.2 l rfl; omega), fun p hp => ?_⟩
    show tWs ws σ _ _
    refine tWs_run ⟨by rw [List.length_map]; exact sz6 (by have : ws.length ≤ 10 := hl.1; omega), fun q hq => ⟨by show 2 ≤ sizeLine; decide, fun a ha => ?_⟩⟩
    have s0 := same_new hp (.lst (l.map V.str))
    have s1 := same_new hq (.lst (ws.map V.str))
    have s2 := same_new ha (.lst [.ref p, .ref q])
    exact k a _ ((s0.trans s1).trans s2) ((s0.trans s1).free ha) ⟨_, q, nw_at (((sb.trans s0).trans s1).free ha) upd_same, ⟨p, rfl, nw_at (sb.free hp) (s2 _ _ (s1 _ _ upd_same))⟩, nw_at ((sb.trans s0).free hq) (s2 _ _ upd_same)⟩
theorem tRs_run {B : Hp} : ∀ {rs : List Rw}, (∀ r ∈ rs, RwSm r) → ∀ {σ : L2.St} {H : Hp}, Same B H → ∀ {Q : List V → Hp → Prop}, (∀ (qs : List Addr) M, Same H M → AllAt (RwAt (nwH B M)) qs rs → Q (qs.map V.ref) M) → tRs rs σ H Q
  | [], _, _, _, _, _, k => k [] _ (Same.refl _) AllAt.nil
  | r :: rs, hs, σ, H, sb, Q, k => by
    show tRow r σ H _
    refine tRow_run (hs r List.mem_cons_self) sb fun a M s ha ra => ?_
    show tRs rs σ M _
    exact tRs_run (fun r hr => hs r (List.mem_cons_of_mem _ hr)) (sb.trans s) fun qs M2 s2 al => k (a :: qs) M2 (s.trans s2) (AllAt.cons8 (ra.same (nw_same s2)) al)
theorem tRows_run {B : Hp} {rs : List Rw} (hs : ∀ r ∈ rs, RwSm r) (hl : rs.length ≤ 10) {σ : L2.St} {H : Hp} (sb : Same B H) {Q : VK} (k : ∀ l M, Same H M → H l = none → RwsAt (nwH B M) l rs → Q (.ref l) M) : tLst (tRs rs) σ H Q := by
  show tRs rs σ H _
  refine tRs_run hs sb fun qs M s al => ⟨by rw [List.length_map, al.1]; exact sz6 (by omega), fun l hl2 => ?_⟩
  exact k l _ (s.trans (same_new hl2 _)) (s.free hl2) ⟨qs, nw_at ((sb.trans s).free hl2) upd_same, al.imp fun _ _ h => h.same (nw_same (same_new hl2 _))⟩
theorem RwAt.put {B M : Hp} {d a : Addr} {kvs : List (Key × V)} {r : Rw} {o : HO} (hd : M d = some (.dK kvs)) (h : RwAt (nwH B M) a r) : RwAt (nwH B (L2.upd M d o)) a r := by
  have ne : ∀ {b : Addr} {xs : List V}, nwH B M b = some (.lst xs) → nwH B (L2.upd M d o) b = some (.lst xs) := fun {b xs} e => by
    have e' := (nw_un e).2
    refine nw_at (nw_un e).1 ?_
    rw [upd_ne (fun z => by rw [z, hd] at e'; cases e')]; exact e'
  obtain ⟨v, q, h1, h2, h3⟩ := h
  refine ⟨v, q, ne h1, ?_, ne h3⟩
  unfold GdAt at h2 ⊢
  split at h2
  · exact h2
  · obtain ⟨p, a, b⟩ := h2
    exact ⟨p, a, ne b⟩
theorem RwsAt.put {B M : Hp} {d l : Addr} {kvs : List (Key × V)} {rs : List Rw} {o : HO} (hd : M d = some (.dK kvs)) (h : RwsAt (nwH B M) l rs) : RwsAt (nwH B (L2.upd M d o)) l rs := by
  obtain ⟨qs, a, b⟩ := h
  have e' := (nw_un a).2
  exact ⟨qs, nw_at (nw_un a).1 (by rw [upd_ne (fun z => by rw [z, hd] at e'; cases e')]; exact e'), b.imp fun _ _ q => q.put hd⟩
def PartD (B M : Hp) (d : Addr) (es : List (Str × List Rw)) : Prop := ∃ ls : List Addr, M d = some (.dK (List.zipWith (fun e l => ((Sum.inr e.1 : Key), V.ref l)) es ls)) ∧ AllAt (fun l e => RwsAt (nwH B M) l e.2) ls es
theorem part_put {B M : Hp} {d l : Addr} {es : List (Str × List Rw)} {e : Str × List Rw} (hn : e.1 ∉ es.map (·.1)) (hl : es.length ≤ 100) (h : PartD B M d es) (hr : RwsAt (nwH B M) l e.2) :
    ∃ M', DPut M d (.str e.1) (.ref l) M' ∧ (∀ b u, b ≠ d → M b = some u → M' b = some u) ∧ PartD B M' d (es ++ [e]) := by
  obtain ⟨ls, hd, al⟩ := h
  have no : valV (List.zipWith (fun e l => ((Sum.inr e.1 : Key), V.ref l)) es ls) (Sum.inr e.1) = none := by
    rcases tab_find (top := e.1) al with ⟨_, e', m, q, _⟩ | ⟨_, q⟩
    · exact absurd (List.mem_map.mpr ⟨e', m, q⟩) hn
    · exact q
  refine ⟨_, DPut.k (k := Sum.inr e.1) hd (by rw [List.length_zipWith]; exact small_big (by omega)), fun b u nb eb => by rw [upd_ne nb]; exact eb, ls ++ [l], ?_, ?_⟩
  · rw [upd_same, putK_new _ no, List.zipWith_append al.1.symm]; rfl
  · exact (al.imp fun _ _ q => q.put hd).snoc (hr.put hd)
theorem put_step {H0 H : Hp} {d : Addr} {es : List (Str × List Rw)} {e : Str × List Rw} {D : Ends} (hn : e.1 ∉ es.map (·.1)) (hl : es.length ≤ 100) (hs : ∀ r ∈ e.2, RwSm r) (h2 : e.2.length ≤ 10) (s0 : Same H0 H) (h0 : H0 d = none) (h : PartD H0 H d es)
    (k : ∀ M, Same H0 M → PartD H0 M d (es ++ [e]) → D.nx [some (.ref d)] M) : sDPut (tVar 0) (tC (V.str e.1)) (tLst (tRs e.2)) D [some (.ref d)] H := by
  show tLst (tRs e.2) _ _ _
  refine tRows_run hs h2 s0 fun l M s hl2 R => ?_
  obtain ⟨ls, hd, al⟩ := h
  obtain ⟨M', p, o, P⟩ := part_put hn hl ⟨ls, s _ _ hd, al.imp fun _ _ q => q.same (nw_same s)⟩ R
  exact ⟨_, rfl, d, M', rfl, p, k M' (fun b u eb => o b u (fun z => by rw [z, h0] at eb; cases eb) (s _ _ (s0 _ _ eb))) P⟩
theorem rwSm_all {rs : List Rw} (h : (rs.all fun r => decide (r.2.length ≤ 10) && (match r.1 with
    | none => true
    | some l => decide (l.length ≤ 10))) = true) : ∀ r ∈ rs, RwSm r := fun r hr => by
  have := List.all_eq_true.mp h r hr
  rw [Bool.and_eq_true, decide_eq_true_iff] at this
  refine ⟨this.1, fun l e => ?_⟩
  have z := this.2
  rw [e] at z
  exact of_decide_eq_true z
def spRules : Sp := fun vs H Q _ => vs = [] ∧ ∀ (d : Addr) (H' : Hp), Same H H' → H d = none → RulesAt (nwH H H') d → Q (.ref d) H'
section
variable {P : Program} {w : World} {K : PySem.W.Frag} {mg : Str → Option Value} {base : Heap}
theorem ok_rules (T : Tx K mg) : FnOk P w K mg base CX0 1 T.a_law_rules T.fd_law_rules [] spRules := by
  refine T.F_law_rules.ok sc_law_rules (fun vs H Q E h => ?_) (fun cdv A outer st H vs Q E hr h => ?_)
  · obtain ⟨rfl, _⟩ := h
    rfl
  obtain ⟨rfl, k⟩ := h
  have hu := hu_of hr
  refine ⟨_, ((pss_cons (ps_set (i := 0) sc_law_rules.nd rfl (Or.inl rfl) (pe_disp (pps_cons pe_str (pe_lst (pa_cons (pe_lst (pa_cons pe_non (pa_cons (pe_lst (pa_cons pe_str (pa_cons pe_str (pa_cons pe_str (pa_cons pe_str (pa_cons pe_str (pa_cons pe_str pa_nil))))))) pa_nil))) pa_nil)) pps_nil) (by rfl) (by rfl) (fun z => by cases z) (by decide)))
      (pss_cons (ps_dput hu (pv 0) pe_str (pe_lst (pa_cons (pe_lst (pa_cons pe_non (pa_cons (pe_lst (pa_cons pe_str (pa_cons pe_str (pa_cons pe_str pa_nil)))) pa_nil))) pa_nil)) rfl)
      (pss_cons (ps_dput hu (pv 0) pe_str (pe_lst (pa_cons (pe_lst (pa_cons (pe_lst (pa_cons pe_str pa_nil)) (pa_cons (pe_lst pa_nil) pa_nil))) (pa_cons (pe_lst (pa_cons pe_non (pa_cons (pe_lst (pa_cons pe_str (pa_cons pe_str pa_nil))) pa_nil))) pa_nil))) rfl)
      (pss_cons (ps_dput hu (pv 0) pe_str (pe_lst (pa_cons (pe_lst (pa_cons (pe_lst (pa_cons pe_str pa_nil)) (pa_cons (pe_lst (pa_cons pe_str (pa_cons pe_str (pa_cons pe_str pa_nil)))) pa_nil))) (pa_cons (pe_lst (pa_cons pe_non (pa_cons (pe_lst pa_nil) pa_nil))) pa_nil))) rfl)
      (pss_cons (ps_dput hu (pv 0) pe_str (pe_lst (pa_cons (pe_lst (pa_cons (pe_lst (pa_cons pe_str pa_nil)) (pa_cons (pe_lst pa_nil) pa_nil))) (pa_cons (pe_lst (pa_cons pe_non (pa_cons (pe_lst (pa_cons pe_str (pa_cons pe_str (pa_cons pe_str (pa_cons pe_str (pa_cons pe_str (pa_cons pe_str pa_nil))))))) pa_nil))) pa_nil))) rfl)
      (pss_cons (ps_dput hu (pv 0) pe_str (pe_lst (pa_cons (pe_lst (pa_cons pe_non (pa_cons (pe_lst (pa_cons pe_str (pa_cons pe_str (pa_cons pe_str (pa_cons pe_str (pa_cons pe_str pa_nil)))))) pa_nil))) pa_nil)) rfl)
      (pss_cons (ps_dput hu (pv 0) pe_str (pe_lst (pa_cons (pe_lst (pa_cons (pe_lst (pa_cons pe_str pa_nil)) (pa_cons (pe_lst (pa_cons pe_str (pa_cons pe_str (pa_cons pe_str (pa_cons pe_str pa_nil))))) pa_nil))) (pa_cons (pe_lst (pa_cons pe_non (pa_cons (pe_lst pa_nil) pa_nil))) pa_nil))) rfl)
      (pss_one (ps_ret (pv 0))))))))))), ?_⟩
  refine fun d hd => ?_
  rw [tPairs]
  refine tC_run ?_
  show tLst (tRs [(none, ["book", "LIST", "{", "BARTERS", "}", "END"])]) _ _ _
  refine tRows_run (B := H) (rwSm_all (by decide)) (by decide) (same_new hd _) fun l M s hl R => ?_
  have s0 := (same_new hd (.dK [])).trans s
  have ed : M d = some (.dK []) := s _ _ upd_same
  refine ⟨ed, [(Sum.inr "BOOK", .ref l)], rfl, (by show 1 ≤ 15; decide), ?_⟩
  have P0 : PartD H (L2.upd M d (.dK (mergeK [] [((Sum.inr "BOOK" : Key), V.ref l)]))) d [("BOOK", [(none, ["book", "LIST", "{", "BARTERS", "}", "END"])])] := ⟨[l], upd_same, AllAt.snoc AllAt.nil (R.put ed)⟩
  have s1 : Same H (L2.upd M d (.dK (mergeK [] [((Sum.inr "BOOK" : Key), V.ref l)]))) := fun b u e => by rw [upd_ne (ne_of_none e hd)]; exact s0 _ _ e
  generalize L2.upd M d (.dK (mergeK [] [((Sum.inr "BOOK" : Key), V.ref l)])) = M0 at P0 s1 ⊢
  show sDPut (tVar 0) (tC (V.str "LIST")) (tLst (tRs [(none, ["(", "WORDS", ")"])])) _ _ _
  refine put_step (H0 := H) (e := (("LIST", [(none, ["(", "WORDS", ")"])]) : Str × List Rw)) (by decide) (by decide) (rwSm_all (by decide)) (by decide) s1 hd P0 fun M1 s1 P0 => ?_
  show sDPut (tVar 0) (tC (V.str "WORDS")) (tLst (tRs [(some [")"], []), (none, ["W", "MORE"])])) _ _ _
  refine put_step (H0 := H) (e := (("WORDS", [(some [")"], []), (none, ["W", "MORE"])]) : Str × List Rw)) (by decide) (by decide) (rwSm_all (by decide)) (by decide) s1 hd P0 fun M1 s1 P0 => ?_
  show sDPut (tVar 0) (tC (V.str "MORE")) (tLst (tRs [(some [","], [",", "W", "MORE"]), (none, [])])) _ _ _
  refine put_step (H0 := H) (e := (("MORE", [(some [","], [",", "W", "MORE"]), (none, [])]) : Str × List Rw)) (by decide) (by decide) (rwSm_all (by decide)) (by decide) s1 hd P0 fun M1 s1 P0 => ?_
  show sDPut (tVar 0) (tC (V.str "BARTERS")) (tLst (tRs [(some ["}"], []), (none, ["W", "SIDE", "to", "SIDE", ";", "BARTERS"])])) _ _ _
  refine put_step (H0 := H) (e := (("BARTERS", [(some ["}"], []), (none, ["W", "SIDE", "to", "SIDE", ";", "BARTERS"])]) : Str × List Rw)) (by decide) (by decide) (rwSm_all (by decide)) (by decide) s1 hd P0 fun M1 s1 P0 => ?_
  show sDPut (tVar 0) (tC (V.str "SIDE")) (tLst (tRs [(none, ["(", "N", "W", "PARTS", ")"])])) _ _ _
  refine put_step (H0 := H) (e := (("SIDE", [(none, ["(", "N", "W", "PARTS", ")"])]) : Str × List Rw)) (by decide) (by decide) (rwSm_all (by decide)) (by decide) s1 hd P0 fun M1 s1 P0 => ?_
  show sDPut (tVar 0) (tC (V.str "PARTS")) (tLst (tRs [(some [","], [",", "N", "W", "PARTS"]), (none, [])])) _ _ _
  refine put_step (H0 := H) (e := (("PARTS", [(some [","], [",", "N", "W", "PARTS"]), (none, [])]) : Str × List Rw)) (by decide) (by decide) (rwSm_all (by decide)) (by decide) s1 hd P0 fun M1 s1 P0 => ?_
  obtain ⟨ls, h1, h2⟩ := P0
  exact ⟨_, rfl, k d _ s1 hd ⟨ls, nw_at hd h1, h2⟩⟩
end
end My

namespace My
open PySem PySem.Spec PyProof.Rows L2
/-! ### the law's drawn signs -/
/-- a sign that may be drawn -/
structure Sg (x : List Nat) : Prop extends OkW x where
  d3 : x.countP (inS DIG) ≤ 3
  c1 : x.countP (fun c => decide (c = 44)) ≤ 1
  s1 : x.countP (fun c => decide (c = 59)) ≤ 1
def sgB (x : List Nat) : Bool := (!decide (x = []) && decide (x.length ≤ 31) && x.all fun c => decide (c < 128) && !decide (c = 94)) && decide (x.countP (inS DIG) ≤ 3) && decide (x.countP (fun c => decide (c = 44)) ≤ 1) && decide (x.countP (fun c => decide (c = 59)) ≤ 1)
theorem Sg.of {x : List Nat} (h : sgB x = true) : Sg x := by
  unfold sgB at h
  rw [Bool.and_eq_true, Bool.and_eq_true, Bool.and_eq_true] at h
  exact ⟨OkW.of h.1.1.1, of_decide_eq_true h.1.1.2, of_decide_eq_true h.1.2, of_decide_eq_true h.2⟩
def wtS (t : Str) : Nat := if t = "BOOK" then 5 else if t = "LIST" then 2 else if t = "WORDS" then 0 else if t = "MORE" then 0 else if t = "BARTERS" then 0 else if t = "SIDE" then 4 else if t = "PARTS" then 0 else if t = "END" then 0 else 1
def wt (s : List Str) : Nat := (s.map wtS).sum
def tpC (s : List Str) : Nat := match s with
  | [] => 0
  | t :: _ => if isNT t = true then 2 else 1
def shF (top : Str) : List Str := if top = "BOOK" then ["book", "LIST", "{", "BARTERS", "}", "END"] else if top = "LIST" then ["(", "WORDS", ")"] else if top = "SIDE" then ["(", "N", "W", "PARTS", ")"] else []
theorem stk_wt : (STK.all fun s => decide (wt s ≤ 12) && match s with
    | [] => true
    | top :: r => if isNT top = true then (rhsF top).all (fun rhs => decide (tpC (rhs ++ r) ≤ 1)) && decide (wt (shF top ++ r) ≤ wt s) && decide (shF top ∈ rhsF top) && decide (tpC (shF top ++ r) ≤ 1)
      else if top = "END" then decide (r = []) else decide (wt s = wt r + 1)) = true := by decide +kernel
/-- the heap without the source of draws -/
def cut2 (s c : Addr) (M : Hp) : Hp := fun a => if a = s ∨ a = c then none else M a
theorem cut2_same {s c : Addr} {M : Hp} : Same (cut2 s c M) M := fun a o e => by
  unfold cut2 at e
  split at e
  · cases e
  · exact e
theorem cut2_go {s c : Addr} {M M' : Hp} (g : Go s c M M') : Same (cut2 s c M) (cut2 s c M') := fun a o e => by
  unfold cut2 at e ⊢
  split at e
  · cases e
  · rename_i n
    rw [if_neg n]
    exact g.keep a o (fun z => n (.inl z)) (fun z => n (.inr z)) e
theorem cut2_nw {s c : Addr} {B M : Hp} (hs : B s ≠ none) (hc : B c ≠ none) : Same (nwH B M) (cut2 s c M) := fun a o e => by
  obtain ⟨b, e⟩ := nw_un e
  unfold cut2
  rw [if_neg (fun z => z.elim (fun q => hs (by rw [← q]; exact b)) (fun q => hc (by rw [← q]; exact b)))]
  exact e
def SgS (x : Str) : Prop := Sg x.cps.toList
theorem stk_sg : (STK.all fun s => match s with
    | [] => true
    | top :: _ => if isNT top = true then true else if top = "END" then true else sgB top.cps.toList) = true := by decide +kernel
theorem src_upd8 {M : Hp} {s c D : Addr} {o : HO} (S : Src M s c) (n : D ≠ s ∧ D ≠ c) : Src (L2.upd M D o) s c := by
  obtain ⟨l, m, t, ns, h⟩ := S
  exact ⟨l, m, t, ns, by rw [upd_ne n.1.symm]; exact h.hs, by rw [upd_ne n.2.symm]; exact h.hc, h.l0, h.m0, h.m1, h.t0, h.n0, h.len⟩
theorem allAt_append8 {α : Type} {R : Addr → α → Prop} {zs : List α} {qs : List Addr} (h2 : AllAt R qs zs) : ∀ {ps : List Addr} {xs : List α}, AllAt R ps xs → AllAt R (ps ++ qs) (xs ++ zs)
  | [], [], _ => h2
  | [], _ :: _, h => nomatch h.1
  | _ :: _, [], h => nomatch h.1
  | p :: ps, x :: xs, h => AllAt.cons8 (h.2 0 p x rfl rfl) (allAt_append8 h2 ⟨Nat.succ.inj h.1, fun i q y a b => h.2 (i + 1) q y a b⟩)
theorem stk_w12 {s : List Str} (h : s ∈ STK) : wt s ≤ 12 := by
  have := List.all_eq_true.mp stk_wt _ h
  rw [Bool.and_eq_true, decide_eq_true_iff] at this
  exact this.1
theorem sg_of {ws : List Str} (h : (ws.all fun x => sgB x.cps.toList) = true) {i : Nat} {v : V} (hx : (ws.map V.str)[i]? = some v) : ∃ z, v = .str z ∧ SgS z := by
  rw [List.getElem?_map] at hx
  cases e : ws[i]? with
  | none => rw [e] at hx; cases hx
  | some z =>
    rw [e] at hx
    cases hx
    exact ⟨z, rfl, Sg.of (List.all_eq_true.mp h z (List.mem_of_getElem? e))⟩
theorem get_wn {x y top : Str} (hx : SgS x) (hy : SgS y) (ht : SgS top) : ∃ z, (valV (mergeK [] [((Sum.inr "W" : Key), V.str x), ((Sum.inr "N" : Key), V.str y)]) (Sum.inr top)).getD (.str top) = .str z ∧ SgS z := by
  have k1 : ¬ ((Sum.inr "W" : Key) = (Sum.inr "N" : Key)) := by decide +kernel
  have p1 : putK ([] : List (Key × V)) (Sum.inr "W" : Key) (V.str x) = [((Sum.inr "W" : Key), V.str x)] := by rw [putK_new _ valV_nil]; rfl
  have p2 : putK ([((Sum.inr "W" : Key), V.str x)] : List (Key × V)) (Sum.inr "N" : Key) (V.str y) = [((Sum.inr "W" : Key), V.str x), ((Sum.inr "N" : Key), V.str y)] := by
    rw [putK_new _ (by rw [valV_neg k1, valV_nil])]; rfl
  have e : mergeK [] [((Sum.inr "W" : Key), V.str x), ((Sum.inr "N" : Key), V.str y)] = [((Sum.inr "W" : Key), V.str x), ((Sum.inr "N" : Key), V.str y)] := by
    show putK (putK [] (Sum.inr "W" : Key) (V.str x)) (Sum.inr "N" : Key) (V.str y) = _
    rw [p1, p2]
  rw [e]
  by_cases c1 : ("W" : Str) = top
  · rw [valV_pos (by rw [c1])]
    exact ⟨x, rfl, hx⟩
  · rw [valV_neg (fun z => c1 (Sum.inr.inj z))]
    by_cases c2 : ("N" : Str) = top
    · rw [valV_pos (by rw [c2])]
      exact ⟨y, rfl, hy⟩
    · rw [valV_neg (fun z => c2 (Sum.inr.inj z)), valV_nil]
      exact ⟨top, rfl, ht⟩
theorem tpC_le (s : List Str) : tpC s ≤ 2 := by
  cases s with
  | nil => exact Nat.zero_le _
  | cons a r =>
    show (if isNT a = true then 2 else 1) ≤ 2
    split <;> decide
def rE (r : Rw) : Bool := r.2.isEmpty
theorem tab_short : ∀ e ∈ tabF, ((e.2.filter rE ++ e.2)[0]?).map (·.2) = some (shF e.1) := by decide +kernel
theorem tab_two : ∀ e ∈ tabF, 1 ≤ e.2.length ∧ e.2.length ≤ 2 := by decide
def spDrawn : Sp := fun vs H Q _ => ∃ (s c rd : Addr), vs = [.ref s, .ref rd, .str "BOOK"] ∧ Src H s c ∧ RulesAt (cut2 s c H) rd ∧
  ∀ (a : Addr) (xs : List Str) (H' : Hp), Go s c H H' → H a = none → H' a = some (.lst (xs.map V.str)) → xs.length ≤ 60 → (∀ x ∈ xs, SgS x) → Q (.ref a) H'
section
variable {P : Program} {w : World} {K : PySem.W.Frag} {mg : Str → Option Value} {base : Heap}
theorem ok_drawn_signs (T : Tx K mg) : FnOk P w K mg base CX0 3 T.a_law_drawn_signs T.fd_law_drawn_signs ["_law_source_here", "_law_rules_here", "_law_form"] spDrawn := by
  refine T.F_law_drawn_signs.ok sc_law_drawn_signs (fun vs H Q E h => ?_) (fun cdv A outer st H vs Q E hr h => ?_)
  · obtain ⟨s, c, rd, rfl, _⟩ := h
    rfl
  obtain ⟨s, c, rd, rfl, hS, RU, k⟩ := h
  have hu := hu_of hr
  have G_law_of : FnOk P w K mg base CX0 2 T.a_law_of T.fd_law_of ["_law_source_here", "_law_some"] (spOf K) := ok_of T
  have hr_law_of : Room 2 _ := hr
  refine ⟨_, ((pss_cons (ps_par3 (i := 3) (j := 4) (l := 5) (by rfl) sc_law_drawn_signs.nd rfl rfl rfl (by decide) (by decide) (by decide) rfl rfl rfl (pa_cons (pe_lst (pa_cons (pv 2) pa_nil)) (pa_cons (pe_lst pa_nil) (pa_cons (pe_lst (pa_cons pe_str (pa_cons pe_str (pa_cons pe_str (pa_cons pe_str (pa_cons pe_str (pa_cons pe_str (pa_cons pe_str pa_nil)))))))) pa_nil))) (by rfl))
      (pss_cons (ps_while PassesOwn.never (pt_cmpR (op_neE hr.units) (pv 3) (pe_lst pa_nil) (nomark _))
        (pss_cons (ps_set (i := 6) sc_law_drawn_signs.nd rfl (Or.inl rfl) (pe_bm0 PySem.F.plainAttrs_list PySem.F.slot_list_pop PySem.F.type_list_pop mt_pop (pv 3)))
      (pss_one (ps_if (pt_cmp (pc_din hu (pv 6) (pv 1)) rfl)
        (pss_cons (ps_setLc (i := 7) (own := [("_law_row", 10)]) (by rfl) sc_law_drawn_signs.nd rfl rfl (sw_true rfl rfl rfl (by decide +kernel)) (pi_list (pe_dget hu (pv 1) (pv 6) (fun _ _ => rfl))) (blkOk_by (own := [("_law_row", 10)]) (N := ["_law_source_here", "_law_rules_here", "_law_form", "_law_stack", "_law_found", "_law_words", "_law_top", "_law_rows", "_law_short", "_law_some", "_law_row"]) (sc := defScope s_law_drawn_signs) (by decide +kernel)) (fun _ _ _ _ _ => pg_name (i := 10) sc_law_drawn_signs.nd rfl (Or.inl rfl)) (fun _ _ _ _ _ => pts_nil) (fun _ _ _ _ _ => (pe_ix (show IxR _ (rIxL K) from ix_list) (pv 10) pe_int (fun _ _ => rfl))))
      (pss_cons (ps_set (i := 8) sc_law_drawn_signs.nd rfl (Or.inl rfl) (pe_op op_cat (pe_lc (own := [("_law_row", 10)]) (by rfl) sc_law_drawn_signs.nd (pi_list (pv 7)) (blkOk_by (own := [("_law_row", 10)]) (N := ["_law_source_here", "_law_rules_here", "_law_form", "_law_stack", "_law_found", "_law_words", "_law_top", "_law_rows", "_law_short", "_law_some", "_law_row"]) (sc := defScope s_law_drawn_signs) (by decide +kernel)) (fun _ _ _ _ _ => pg_name (i := 10) sc_law_drawn_signs.nd rfl (Or.inl rfl)) (fun _ _ _ _ _ => (pts_one (pt_cmpR (show OpR _ _ (rEqE K) from op_eqE hr.units) (pv 10) (pe_lst pa_nil) (nomark _)))) (fun _ _ _ _ _ => (pv 10))) (pv 7)))
      (pss_one (ps_set (i := 3) sc_law_drawn_signs.nd rfl (Or.inl rfl) (pe_op op_cat (pv 3) (pe_revL (pe_ifExp (pt_cmpR op_lt (pe_callB call_len_seq (by rfl) T.n_len (by decide +kernel) (pa_cons (pv 4) pa_nil)) pe_int (nomark _)) (pe_call G_law_of hr_law_of rfl T.m_law_of T.F_law_of.kp T.b_law_of .nil pass0 (pa_cons (pv 0) (pa_cons (pv 7) pa_nil))) (pe_ix (show IxR _ (rIxL K) from ix_list) (pv 8) pe_int (fun _ _ => rfl)))))))))
        (pss_one (ps_if (pt_cmpR op_ne (pv 6) pe_str (nomark _))
        (pss_cons (ps_set (i := 9) sc_law_drawn_signs.nd rfl (Or.inl rfl) (pe_disp (pps_cons pe_str (pe_call G_law_of hr_law_of rfl T.m_law_of T.F_law_of.kp T.b_law_of .nil pass0 (pa_cons (pv 0) (pa_cons (pv 5) pa_nil))) (pps_cons pe_str (pe_call G_law_of hr_law_of rfl T.m_law_of T.F_law_of.kp T.b_law_of .nil pass0 (pa_cons (pv 0) (pa_cons (pe_lst (pa_cons pe_str (pa_cons pe_str (pa_cons pe_str (pa_cons pe_str (pa_cons pe_str pa_nil)))))) pa_nil))) pps_nil)) (by rfl) (by rfl) (fun z => by cases z) (by decide)))
      (pss_one (ps_expr (pe_bm PySem.F.plainAttrs_list PySem.F.slot_list_append PySem.F.type_list_append mt_append (pv 4) (pa_cons (pe_dget2 hu (m := ⟨rfl, rfl, rfl, rfl⟩) (pv 9) (pv 6) (pv 6)) pa_nil)))))
        pss_nil))))))
      (pss_one (ps_ret (pv 4)))))), ?_⟩
  refine ⟨_, rfl, (by show 1 ≤ sizeLine; decide), fun S0 hS0 => ⟨Nat.zero_le _, fun F0 hF0 => ⟨(by show 7 ≤ sizeLine; decide), fun W0 hW0 => ?_⟩⟩⟩
  have n1 := hS.ne_none hS0
  have s1 := same_new hS0 (.lst [.str "BOOK"])
  have e1 := upd_same (H := H) (a := S0) (o := HO.lst [.str "BOOK"])
  generalize L2.upd H S0 (.lst [.str "BOOK"]) = M0 at s1 e1 hF0 hW0 ⊢
  have s2 := same_new hF0 (.lst [])
  have e2 := upd_same (H := M0) (a := F0) (o := HO.lst [])
  have hF1 := s1.free hF0
  have nF0 := ne_of_none e1 hF0
  generalize L2.upd M0 F0 (.lst []) = M1 at s2 e2 hW0 ⊢
  have s3 := same_new hW0 (.lst [.str "a", .str "b", .str "x1", .str "book", .str "to", .str "abcdefghijkl", .str "z"])
  have e3 := upd_same (H := M1) (a := W0) (o := HO.lst [.str "a", .str "b", .str "x1", .str "book", .str "to", .str "abcdefghijkl", .str "z"])
  have hW1 := (s1.trans s2).free hW0
  have nW0 := ne_of_none (s2 _ _ e1) hW0
  have nW1 := ne_of_none e2 hW0
  generalize L2.upd M1 W0 _ = M2 at s3 e3 ⊢
  have atC : ∀ {N : Hp}, Go s c H N → Same (cut2 s c H) N := fun g => (cut2_go g).trans cut2_same
  obtain ⟨W, hW⟩ : ∃ W : Nat → L2.St → Hp → Prop, W = fun m σ N => ∃ (st fa wa : Addr) (S F : List Str) (v6 v7 v8 v9 : Option V), σ = [some (.ref s), some (.ref rd), some (.str "BOOK"), some (.ref st), some (.ref fa), some (.ref wa), v6, v7, v8, v9, none] ∧ Go s c H N ∧ H st = none ∧ H fa = none ∧ H wa = none ∧
      st ≠ fa ∧ st ≠ wa ∧ fa ≠ wa ∧ N st = some (.lst (S.reverse.map V.str)) ∧ N fa = some (.lst (F.map V.str)) ∧ N wa = some (.lst ((["a", "b", "x1", "book", "to", "abcdefghijkl", "z"] : List Str).map V.str)) ∧ S ∈ STK ∧ F.length + wt S ≤ 51 ∧ (∀ x ∈ F, SgS x) ∧ m = 3 * (60 - F.length) + tpC S := ⟨_, rfl⟩
  refine ⟨_, _, _, rfl, ?_⟩
  refine ⟨W, ⟨_, by rw [hW]; exact ⟨S0, F0, W0, ["BOOK"], [], none, none, none, none, rfl, Go.of hS ((s1.trans s2).trans s3), hS0, hF1, hW1, nF0, nW0, nW1, s3 _ _ (s2 _ _ e1), s3 _ _ e2, e3, by decide +kernel, by decide +kernel, fun x h => (by cases h), rfl⟩⟩, ?_⟩
  intro m σ N ww
  rw [hW] at ww
  obtain ⟨st, fa, wa, S, F, v6, v7, v8, v9, rfl, g, hst, hfa, hwa, n1, n2, n3, eS, eF, eW, sy, wb, sg, rfl⟩ := ww
  refine ⟨_, rfl, Nat.zero_le _, fun e he => ?_⟩
  have s4 := same_new he (.lst [])
  refine ⟨st, e, _, rfl, rfl, SqL.of (s4 _ _ eS), SqL.of upd_same, _, rfl, ?_⟩
  have g1 := g.then s4
  have eS1 := s4 _ _ eS
  have eF1 := s4 _ _ eF
  have eW1 := s4 _ _ eW
  generalize L2.upd N e (.lst []) = N1 at s4 g1 eS1 eF1 eW1 ⊢
  cases S with
  | nil =>
    refine iteF ⟨_, rfl, ?_⟩
    exact k fa F N1 g1 hfa eF1 (by omega) sg
  | cons top S =>
    have en : (!((top :: S).reverse.map V.str).isEmpty) = true := by
      rw [List.reverse_cons, List.map_append]
      cases (S.reverse.map V.str) <;> rfl
    rw [en]
    refine iteT ⟨fun σ' H' => ∃ m', m' < 3 * (60 - F.length) + tpC (top :: S) ∧ W m' σ' H', fun _ _ h => h, ?_⟩
    have eS2 : N1 st = some (.lst (S.reverse.map V.str ++ [V.str top])) := by rw [eS1, List.reverse_cons, List.map_append]; rfl
    refine ⟨_, rfl, .inl ⟨rfl, _, SqL.of eS2⟩, st, _, _, rfl, rfl, eS2, by rw [List.length_append, List.length_singleton, Nat.add_sub_cancel, List.getElem?_append_right (Nat.le_refl _), Nat.sub_self]; rfl, ?_⟩
    rw [List.dropLast_concat]
    have g2 : Go s c H (L2.upd N1 st (.lst (S.reverse.map V.str))) := ⟨fun b u h1 h2 e => by rw [upd_ne (ne_of_none e hst)]; exact g1.keep b u h1 h2 e, src_upd8 g1.src (hS.ne_none hst)⟩
    have eS3 := upd_same (H := N1) (a := st) (o := HO.lst (S.reverse.map V.str))
    have eF3 : (L2.upd N1 st (.lst (S.reverse.map V.str))) fa = some (.lst (F.map V.str)) := by rw [upd_ne n1.symm]; exact eF1
    have eW3 : (L2.upd N1 st (.lst (S.reverse.map V.str))) wa = some (.lst ((["a", "b", "x1", "book", "to", "abcdefghijkl", "z"] : List Str).map V.str)) := by rw [upd_ne n2.symm]; exact eW1
    generalize L2.upd N1 st (.lst (S.reverse.map V.str)) = N2 at g2 eS3 eF3 eW3 ⊢
    obtain ⟨ls0, hrd, als⟩ := RU
    have sy' := List.all_eq_true.mp stk_wt _ sy
    have sg' := List.all_eq_true.mp stk_sg _ sy
    rw [Bool.and_eq_true, decide_eq_true_iff] at sy'
    obtain ⟨w12, sy'⟩ := sy'
    have sy' : (if isNT top = true then (rhsF top).all (fun rhs => decide (tpC (rhs ++ S) ≤ 1)) && decide (wt (shF top ++ S) ≤ wt (top :: S)) && decide (shF top ∈ rhsF top) && decide (tpC (shF top ++ S) ≤ 1)
      else if top = "END" then decide (S = []) else decide (wt (top :: S) = wt S + 1)) = true := sy'
    have sg' : (if isNT top = true then true else if top = "END" then true else sgB top.cps.toList) = true := sg'
    rcases tab_find (top := top) als with ⟨l, ent, me, rfl, rows, vv⟩ | ⟨nt, vv⟩
    · obtain ⟨isn, _⟩ := tab_rule "" ent me
      rw [if_pos isn] at sy'
      simp only [Bool.and_eq_true, decide_eq_true_iff] at sy'
      obtain ⟨⟨⟨y1, y2⟩, y3⟩, y4⟩ := sy'
      have y1 := List.all_eq_true.mp y1
      have gg : DGet N2 rd (.str ent.1) (some (.ref l)) := by rw [← vv]; exact DGet.k (k := Sum.inr ent.1) (atC g2 _ _ hrd)
      refine ⟨_, rfl, _, rfl, rd, _, rfl, gg, _, rfl, iteT ?_⟩
      obtain ⟨qs, hl, arw⟩ := rows
      refine ⟨_, rfl, _, rfl, rd, _, rfl, gg, l, rfl, ⟨_, SqL.of (atC g2 _ _ hl)⟩, fun D hD => ?_⟩
      refine lc_list (xs := qs.map V.ref) (fun j R => ∃ fs : List Addr, Same N2 R ∧ R D = some (.lst (fs.map V.ref)) ∧ AllAt (fun a (r : Rw) => cut2 s c H a = some (.lst (r.2.map V.str))) fs (ent.2.take j)) ⟨[], same_new hD _, upd_same, AllAt.nil⟩ (fun j R _ ⟨_, zz, _⟩ => SqL.of (zz _ _ (atC g2 _ _ hl))) (fun j y R hy zz => ?_) (fun R zz => ?_)
      · obtain ⟨fs, sR, eD, af⟩ := zz
        obtain ⟨a, ha, rfl⟩ := getM hy
        obtain ⟨r, hr', v, qa, h1, h2, h3⟩ := arw.get ha
        have lf : fs.length ≤ 1000 := by
          have h1 := af.1
          have h3 : (ent.2.take j).length ≤ ent.2.length := by rw [List.length_take]; omega
          have h4 := (tab_two ent me).2
          omega
        have eb := sR _ _ (atC g2 _ _ h1)
        refine ⟨rfl, _, rfl, a, _, _, _, rfl, rfl, SqL.of eb, rfl, ?_⟩
        refine ⟨_, eD, by rw [List.length_map]; exact small_big (by omega), fs ++ [qa], same_put hD sR, by rw [upd_same, List.map_append]; rfl, ?_⟩
        rw [← take_snoc hr']
        exact af.snoc h3
      · obtain ⟨fs, sR, eD, af⟩ := zz
        rw [List.length_map, arw.1, List.take_length] at af
        have h4 := tab_two ent me
        have lfs := af.1
        have g3 := g2.then sR
        have hHD : H D = none := g2.free hD
        have nD := g2.src.ne_none hD
        refine ⟨_, rfl, D, rfl, ⟨_, SqL.of eD⟩, fun D2 hD2 => ?_⟩
        refine lc_list (xs := fs.map V.ref) (fun j R2 => ∃ f2 : List Addr, Same R R2 ∧ R2 D2 = some (.lst (f2.map V.ref)) ∧ AllAt (fun a (r : Rw) => cut2 s c H a = some (.lst (r.2.map V.str))) f2 ((ent.2.take j).filter rE)) ⟨[], same_new hD2 _, upd_same, AllAt.nil⟩ (fun j R2 _ ⟨_, zz, _⟩ => SqL.of (zz _ _ eD)) (fun j y R2 hy zz => ?_) (fun R2 zz => ?_)
        · obtain ⟨f2, s2', eD2, af2⟩ := zz
          obtain ⟨a, ha, rfl⟩ := getM hy
          obtain ⟨r, hr', h1⟩ := af.get ha
          have lf : f2.length ≤ 1000 := by
            have h1 := af2.1
            have h2 : ((ent.2.take j).filter rE).length ≤ (ent.2.take j).length := List.length_filter_le _ _
            have h3 : (ent.2.take j).length ≤ ent.2.length := by rw [List.length_take]; omega
            omega
          refine ⟨rfl, _, rfl, Nat.zero_le _, fun e he => ?_⟩
          have s5 := same_new he (.lst [])
          refine ⟨a, e, _, rfl, rfl, SqL.of (s5 _ _ (s2' _ _ (sR _ _ (atC g2 _ _ h1)))), SqL.of upd_same, _, rfl, ?_⟩
          have s6 := s2'.trans s5
          have eD3 := s5 _ _ eD2
          generalize L2.upd R2 e (.lst []) = R3 at s5 s6 eD3 ⊢
          have em : (r.2.map V.str).isEmpty = rE r := by unfold rE; cases r.2 <;> rfl
          rw [em]
          have tk : (ent.2.take (j + 1)).filter rE = (ent.2.take j).filter rE ++ if rE r = true then [r] else [] := by
            rw [← take_snoc hr', List.filter_append]
            congr 1
            by_cases q : rE r = true
            · rw [if_pos q, List.filter_cons_of_pos q]; rfl
            · rw [if_neg q, List.filter_cons_of_neg q]; rfl
          by_cases q : rE r = true
          · rw [q]
            refine iteT ⟨_, rfl, _, eD3, by rw [List.length_map]; exact small_big (by omega), f2 ++ [a], same_put hD2 s6, by rw [upd_same, List.map_append]; rfl, ?_⟩
            rw [tk, if_pos q]
            exact af2.snoc h1
          · rw [Bool.not_eq_true] at q
            rw [q]
            refine iteF ⟨f2, s6, eD3, ?_⟩
            rw [tk, if_neg (by rw [q]; exact Bool.false_ne_true), List.append_nil]
            exact af2
        · obtain ⟨f2, s2', eD2, af2⟩ := zz
          rw [List.length_map, af.1, List.take_length] at af2
          have af3 := allAt_append8 af af2
          have sT := sR.trans s2'
          have eD' := s2' _ _ eD
          refine ⟨_, rfl, D2, D, _, _, rfl, rfl, eD2, eD', ?_, fun D3 hD3 => ?_⟩
          · rw [List.length_map, List.length_map]
            have l2 : (ent.2.filter rE).length ≤ ent.2.length := List.length_filter_le _ _
            have l3 := af2.1
            exact sz6 (by omega)
          have s7 := same_new hD3 (.lst (f2.map V.ref ++ fs.map V.ref))
          have eD3 : (L2.upd R2 D3 (.lst (f2.map V.ref ++ fs.map V.ref))) D3 = some (.lst ((f2 ++ fs).map V.ref)) := by rw [upd_same, List.map_append]
          have sU := sT.trans s7
          have eD'' := s7 _ _ eD'
          generalize L2.upd R2 D3 (.lst (f2.map V.ref ++ fs.map V.ref)) = R3 at s7 eD3 sU eD'' ⊢
          have g4 := g2.then sU
          have eS4 := sU _ _ eS3
          have eF4 := sU _ _ eF3
          have eW4 := sU _ _ eW3
          -- what is laid on the stack
          have fin : ∀ (R4 : Hp) (a : Addr) (rhs : List Str), Go s c R3 R4 → cut2 s c H a = some (.lst (rhs.map V.str)) → rhs ∈ rhsF ent.1 → F.length + wt (rhs ++ S) ≤ 51 → ∀ rv, R4 rv = none → ∀ (st2 : Addr) v7 v8,
              (L2.upd R4 rv (.lst (rhs.map V.str).reverse)) st2 = none → ∃ m', m' < 3 * (60 - F.length) + tpC (ent.1 :: S) ∧ W m' [some (V.ref s), some (V.ref rd), some (V.str "BOOK"), some (V.ref st2), some (V.ref fa), some (V.ref wa), some (V.str ent.1), v7, v8, v9, none] (L2.upd (L2.upd R4 rv (.lst (rhs.map V.str).reverse)) st2 (.lst (S.reverse.map V.str ++ (rhs.map V.str).reverse))) := by
            intro R4 a rhs g5 ha hin wb2 rv hrv st2 v7 v8 hst2
            have g6 := g4.trans g5
            have eF5 := g5.lst g4.src eF4 (hS.ne_none hfa).2
            have eW5 := g5.lst g4.src eW4 (hS.ne_none hwa).2
            have s8 := same_new hrv (.lst (rhs.map V.str).reverse)
            have g7 := g6.then s8
            have s9 := same_new hst2 (.lst (S.reverse.map V.str ++ (rhs.map V.str).reverse))
            have t2 : tpC (ent.1 :: S) = 2 := by
              show (if isNT ent.1 = true then 2 else 1) = 2
              rw [if_pos isn]
            have t1 := of_decide_eq_true (y1 rhs hin)
            refine ⟨3 * (60 - F.length) + tpC (rhs ++ S), by omega, ?_⟩
            rw [hW]
            refine ⟨st2, fa, wa, rhs ++ S, F, _, _, _, _, rfl, g7.then s9, g7.free hst2, hfa, hwa, (ne_of_none (s8 _ _ eF5) hst2).symm, (ne_of_none (s8 _ _ eW5) hst2).symm, n3, ?_, s9 _ _ (s8 _ _ eF5), s9 _ _ (s8 _ _ eW5), stk_put sy isn hin, wb2, sg, rfl⟩
            rw [upd_same, List.reverse_append, List.map_append, List.map_reverse, List.map_reverse]
          have lenOk : ∀ rhs ∈ rhsF ent.1, (S.reverse.map V.str).length + (rhs.map V.str).reverse.length ≤ sizeLine := fun rhs hin => by
            have l1 := stk_len _ (stk_put sy isn hin)
            rw [List.length_append] at l1
            rw [List.length_map, List.length_reverse, List.length_reverse, List.length_map]
            exact sz6 (by omega)
          refine ⟨_, rfl, _, rfl, fa, _, rfl, .inl (SqL.of eF4), _, _, rfl, rfl, _, rfl, iteD (fun lt => ?_) (fun _ => ?_)⟩
          · rw [List.length_map] at lt
            refine ⟨_, rfl, _, rfl, s, c, D, _, rfl, g4.src, eD'', nD.2, by rw [List.length_map]; omega, by rw [List.length_map]; omega, fun i x R4 hx g5 => ?_⟩
            obtain ⟨a, ha, rfl⟩ := getM hx
            obtain ⟨r, hr', h1⟩ := af.get ha
            have hin := rhs_in me (List.mem_of_getElem? hr')
            refine ⟨a, _, rfl, SqL.of (atC (g4.trans g5) _ _ h1), fun rv hrv => ?_⟩
            refine ⟨st, rv, _, _, rfl, rfl, same_new hrv _ _ _ (g5.lst g4.src eS4 (hS.ne_none hst).2), upd_same, lenOk _ hin, fun st2 hst2 => ?_⟩
            have w2 := stk_w12 (stk_put sy isn hin)
            exact fin R4 a _ g5 h1 hin (by omega) rv hrv st2 _ _ hst2
          · obtain ⟨r0, hr0, er0⟩ : ∃ r0, (ent.2.filter rE ++ ent.2)[0]? = some r0 ∧ r0.2 = shF ent.1 := by
              have := tab_short ent me
              cases e : (ent.2.filter rE ++ ent.2)[0]? with
              | none => rw [e] at this; cases this
              | some r0 => rw [e] at this; exact ⟨r0, rfl, Option.some.inj this⟩
            have lf3 : 0 < (f2 ++ fs).length := by rw [List.length_append]; omega
            have ea := List.getElem?_eq_getElem lf3
            generalize (f2 ++ fs)[0] = a at ea
            have h1 : cut2 s c H a = some (.lst (r0.2.map V.str)) := af3.2 0 a r0 ea hr0
            rw [er0] at h1
            refine ⟨_, rfl, D3, _, _, _, rfl, rfl, SqL.of eD3, atI_nat (j := 0) (mapM ea), ?_⟩
            refine ⟨a, _, rfl, SqL.of (atC g4 _ _ h1), fun rv hrv => ?_⟩
            refine ⟨st, rv, _, _, rfl, rfl, same_new hrv _ _ _ eS4, upd_same, lenOk _ y3, fun st2 hst2 => ?_⟩
            exact fin R3 a _ (Go.refl g4.src) h1 y3 (by omega) rv hrv st2 _ _ hst2
    · have gg : DGet N2 rd (.str top) none := by rw [← vv]; exact DGet.k (k := Sum.inr top) (atC g2 _ _ hrd)
      have isn := tab_nt nt
      refine ⟨_, rfl, _, rfl, rd, _, rfl, gg, _, rfl, iteF ?_⟩
      rw [if_neg (by rw [isn]; exact Bool.false_ne_true)] at sy' sg'
      have t1 : tpC (top :: S) = 1 := by
        show (if isNT top = true then 2 else 1) = 1
        rw [isn]; rfl
      refine ⟨_, rfl, rfl, _, rfl, ?_⟩
      by_cases qe : top = "END"
      · rw [if_pos qe, decide_eq_true_iff] at sy'
        rw [decide_eq_true (by rw [qe] : V.str top = V.str "END")]
        refine iteF ⟨3 * (60 - F.length) + tpC S, by rw [t1, sy']; exact Nat.lt_succ_self _, ?_⟩
        rw [hW]
        refine ⟨st, fa, wa, S, F, _, _, _, _, rfl, g2, hst, hfa, hwa, n1, n2, n3, eS3, eF3, eW3, stk_pop sy isn, ?_, sg, rfl⟩
        rw [sy']
        have : wt ([] : List Str) = 0 := rfl
        omega
      · rw [if_neg qe, decide_eq_true_iff] at sy'
        rw [if_neg qe] at sg'
        have sgt : SgS top := Sg.of sg'
        rw [decide_eq_false (fun z => qe (V.str.inj z) : ¬ V.str top = V.str "END")]
        refine iteT fun D hD => ?_
        have nD := g2.src.ne_none hD
        have s5 := same_new hD (.dK [])
        have g3 := Go.of g2.src s5
        have eD := upd_same (H := N2) (a := D) (o := HO.dK [])
        generalize L2.upd N2 D (.dK []) = N3 at s5 g3 eD ⊢
        refine ⟨_, rfl, _, rfl, s, c, wa, _, rfl, g3.src, s5 _ _ eW3, (hS.ne_none hwa).2, (by show 1 ≤ 7; decide), (by show 7 < 1000000; decide), fun i x N4 hx g4 => ?_⟩
        obtain ⟨x, rfl, sx⟩ := sg_of (ws := ["a", "b", "x1", "book", "to", "abcdefghijkl", "z"]) (by decide +kernel) hx
        have g5 := g3.trans g4
        refine ⟨_, rfl, (by show 5 ≤ sizeLine; decide), fun L5 h5 => ?_⟩
        have n5 := g5.src.ne_none h5
        have s6 := same_new h5 (.lst [.str "0", .str "1", .str "7", .str "10", .str "305"])
        have e5 := upd_same (H := N4) (a := L5) (o := HO.lst [.str "0", .str "1", .str "7", .str "10", .str "305"])
        have g6 := g5.then s6
        generalize L2.upd N4 L5 (.lst [.str "0", .str "1", .str "7", .str "10", .str "305"]) = N5 at s6 e5 g6 ⊢
        refine ⟨s, c, L5, _, rfl, g6.src, e5, n5.2, (by show 1 ≤ 5; decide), (by show 5 < 1000000; decide), fun i2 y N6 hy g7 => ?_⟩
        obtain ⟨y, rfl, sy2⟩ := sg_of (ws := ["0", "1", "7", "10", "305"]) (by decide +kernel) hy
        have g8 := g6.trans g7
        have eD6 : N6 D = some (.dK []) := (g4.trans ((Go.of g4.src s6).trans g7)).keep D _ nD.1 nD.2 eD
        refine ⟨eD6, [(Sum.inr "W", .str x), (Sum.inr "N", .str y)], rfl, (by show 2 ≤ 15; decide), ?_⟩
        obtain ⟨zz, hz, sz⟩ := get_wn sx sy2 sgt
        have eF6 : N6 fa = some (.lst (F.map V.str)) := g8.lst g2.src eF3 (hS.ne_none hfa).2
        have eS6 : N6 st = some (.lst (S.reverse.map V.str)) := g8.lst g2.src eS3 (hS.ne_none hst).2
        have eW6 := g8.lst g2.src eW3 (hS.ne_none hwa).2
        have nDf : D ≠ fa := (ne_of_none eF3 hD).symm
        have nDs : D ≠ st := (ne_of_none eS3 hD).symm
        have nDw : D ≠ wa := (ne_of_none eW3 hD).symm
        have g9 := g2.trans g8
        have hHD : H D = none := g2.free hD
        have ed := upd_same (H := N6) (a := D) (o := HO.dK (mergeK [] [((Sum.inr "W" : Key), V.str x), ((Sum.inr "N" : Key), V.str y)]))
        refine ⟨_, rfl, .inl ⟨rfl, _, SqL.of (by rw [upd_ne nDf.symm]; exact eF6)⟩, _, rfl, D, rfl, ?_, _, rfl, _, rfl, _, DGet.k (k := Sum.inr top) ed, ?_⟩
        · exact .inl ⟨_, .inl ed⟩
        · rw [hz]
          have eFd : (L2.upd N6 D (.dK (mergeK [] [((Sum.inr "W" : Key), V.str x), ((Sum.inr "N" : Key), V.str y)]))) fa = some (.lst (F.map V.str)) := by rw [upd_ne nDf.symm]; exact eF6
          have eSd : (L2.upd N6 D (.dK (mergeK [] [((Sum.inr "W" : Key), V.str x), ((Sum.inr "N" : Key), V.str y)]))) st = some (.lst (S.reverse.map V.str)) := by rw [upd_ne nDs.symm]; exact eS6
          have eWd : (L2.upd N6 D (.dK (mergeK [] [((Sum.inr "W" : Key), V.str x), ((Sum.inr "N" : Key), V.str y)]))) wa = some (.lst ((["a", "b", "x1", "book", "to", "abcdefghijkl", "z"] : List Str).map V.str)) := by rw [upd_ne nDw.symm]; exact eW6
          have gd : Go s c H (L2.upd N6 D (.dK (mergeK [] [((Sum.inr "W" : Key), V.str x), ((Sum.inr "N" : Key), V.str y)]))) := ⟨fun b u h1 h2 e => by rw [upd_ne (ne_of_none e hHD)]; exact g9.keep b u h1 h2 e, src_upd8 g9.src nD⟩
          generalize L2.upd N6 D (.dK (mergeK [] [((Sum.inr "W" : Key), V.str x), ((Sum.inr "N" : Key), V.str y)])) = N7 at eFd eSd eWd gd ⊢
          refine ⟨fa, _, _, rfl, rfl, eFd, by rw [List.length_map]; exact small_big (by omega), ?_⟩
          have lw : wt (top :: S) = wt S + 1 := sy'
          have tc := tpC_le S
          refine ⟨3 * (60 - (F ++ [zz]).length) + tpC S, by rw [t1, List.length_append, List.length_singleton]; omega, ?_⟩
          rw [hW]
          refine ⟨st, fa, wa, S, F ++ [zz], _, _, _, _, rfl, ⟨fun b u h1 h2 e => by rw [upd_ne (ne_of_none e hfa)]; exact gd.keep b u h1 h2 e, src_upd8 gd.src (hS.ne_none hfa)⟩, hst, hfa, hwa, n1, n2, n3, by rw [upd_ne n1]; exact eSd, ?_, by rw [upd_ne n3.symm]; exact eWd, stk_pop sy isn, by rw [List.length_append, List.length_singleton]; omega, ?_, rfl⟩
          · rw [upd_same, List.map_append]; rfl
          · intro z hz'
            rcases List.mem_append.mp hz' with h | h
            · exact sg z h
            · rw [List.mem_singleton.mp h]; exact sz
end
end My

namespace My
open PySem PySem.Spec PyProof.Rows L2
/-! ### the law's spoilt signs -/
def oddS : List Str := ((["a", "0", "12", "(", ")", "{", "}", ",", ";", "book", "to", "-", "-1", "A", "aB", "toA", "a1Z", "7aB", "+"] : List Str) ++ (["#", "_", "a_b", "abcdefghijklm", "abcdefghijkl0", "00", "7abcdefghijklm", "\t", "1\t", "'", ".", ":"] : List Str) ++ (["[", "]", "*", "/", "=", "<", "?", "~", "0x", "Z", "!", "|"] : List Str) ++ (["\"", "$", "&", ">", "@", "\\", "C", "Y", "}{"] : List Str))
theorem odd_sg : (oddS.all fun x => sgB x.cps.toList) = true := by decide +kernel
def spSpoilt : Sp := fun vs H Q _ => ∃ (s c a : Addr) (xs : List Str), vs = [.ref s, .ref a] ∧ Src H s c ∧ H a = some (.lst (xs.map V.str)) ∧ a ≠ c ∧ 1 ≤ xs.length ∧ xs.length ≤ 90 ∧ (∀ x ∈ xs, SgS x) ∧
  ∀ (b : Addr) (zs : List Str) (H' : Hp), Go s c H H' → H b = none → H' b = some (.lst (zs.map V.str)) → zs.length ≤ xs.length + 1 → (∀ x ∈ zs, SgS x) → Q (.ref b) H'
section
variable {P : Program} {w : World} {K : PySem.W.Frag} {mg : Str → Option Value} {base : Heap}
theorem ok_spoilt_signs (T : Tx K mg) : FnOk P w K mg base CX0 3 T.a_law_spoilt_signs T.fd_law_spoilt_signs ["_law_source_here", "_law_signs"] spSpoilt := by
  refine T.F_law_spoilt_signs.ok sc_law_spoilt_signs (fun vs H Q E h => ?_) (fun cdv A outer st H vs Q E hr h => ?_)
  · obtain ⟨s, c, a, xs, rfl, _⟩ := h
    rfl
  obtain ⟨s, c, a, xs, rfl, hS, ea, nac, l1, l2, sg, k⟩ := h
  have hu := hu_of hr
  have G_law_of : FnOk P w K mg base CX0 2 T.a_law_of T.fd_law_of ["_law_source_here", "_law_some"] (spOf K) := ok_of T
  have hr_law_of : Room 2 _ := hr
  have G_law_pick : FnOk P w K mg base CX0 1 T.a_law_pick T.fd_law_pick ["_law_source_here", "_law_many"] spPick := ok_pick T
  have hr_law_pick : Room 1 _ := hr.mono (by decide)
  refine ⟨_, ((pss_cons (ps_set (i := 2) sc_law_spoilt_signs.nd rfl (Or.inl rfl) (pe_lst (pa_cons pe_str (pa_cons pe_str (pa_cons pe_str (pa_cons pe_str (pa_cons pe_str (pa_cons pe_str (pa_cons pe_str (pa_cons pe_str (pa_cons pe_str (pa_cons pe_str (pa_cons pe_str (pa_cons pe_str (pa_cons pe_str (pa_cons pe_str (pa_cons pe_str (pa_cons pe_str (pa_cons pe_str (pa_cons pe_str (pa_cons pe_str pa_nil)))))))))))))))))))))
      (pss_cons (ps_set (i := 2) sc_law_spoilt_signs.nd rfl (Or.inl rfl) (pe_op op_cat (pv 2) (pe_lst (pa_cons pe_str (pa_cons pe_str (pa_cons pe_str (pa_cons pe_str (pa_cons pe_str (pa_cons pe_str (pa_cons pe_str (pa_cons pe_str (pa_cons pe_str (pa_cons pe_str (pa_cons pe_str (pa_cons pe_str pa_nil)))))))))))))))
      (pss_cons (ps_set (i := 2) sc_law_spoilt_signs.nd rfl (Or.inl rfl) (pe_op op_cat (pv 2) (pe_lst (pa_cons pe_str (pa_cons pe_str (pa_cons pe_str (pa_cons pe_str (pa_cons pe_str (pa_cons pe_str (pa_cons pe_str (pa_cons pe_str (pa_cons pe_str (pa_cons pe_str (pa_cons pe_str (pa_cons pe_str pa_nil)))))))))))))))
      (pss_cons (ps_set (i := 2) sc_law_spoilt_signs.nd rfl (Or.inl rfl) (pe_op op_cat (pv 2) (pe_lst (pa_cons pe_str (pa_cons pe_str (pa_cons pe_str (pa_cons pe_str (pa_cons pe_str (pa_cons pe_str (pa_cons pe_str (pa_cons pe_str (pa_cons pe_str pa_nil))))))))))))
      (pss_cons (ps_par (i := 3) (j := 4) (by rfl) sc_law_spoilt_signs.nd rfl rfl (by decide) rfl rfl (pa_cons (pe_call G_law_pick hr_law_pick rfl T.m_law_pick T.F_law_pick.kp T.b_law_pick .nil pass0 (pa_cons (pv 0) (pa_cons (pe_callB call_len_seq (by rfl) T.n_len (by decide +kernel) (pa_cons (pv 1) pa_nil)) pa_nil))) (pa_cons (pe_call G_law_of hr_law_of rfl T.m_law_of T.F_law_of.kp T.b_law_of .nil pass0 (pa_cons (pv 0) (pa_cons (pv 2) pa_nil))) pa_nil)) (by rfl))
      (pss_cons (ps_set (i := 5) sc_law_spoilt_signs.nd rfl (Or.inl rfl) (pe_call G_law_of hr_law_of rfl T.m_law_of T.F_law_of.kp T.b_law_of .nil pass0 (pa_cons (pv 0) (pa_cons (pe_lst (pa_cons (pe_lst pa_nil) (pa_cons (pe_op op_rep (pe_lst (pa_cons (pe_ix (show IxR _ (rIxL K) from ix_list) (pv 1) (pv 3) (fun _ _ => rfl)) pa_nil)) pe_int) (pa_cons (pe_lst (pa_cons (pv 4) pa_nil)) (pa_cons (pe_lst (pa_cons (pv 4) (pa_cons (pe_ix (show IxR _ (rIxL K) from ix_list) (pv 1) (pv 3) (fun _ _ => rfl)) pa_nil))) (pa_cons (pe_lst (pa_cons (pe_ix (show IxR _ (rIxL K) from ix_list) (pv 1) (pv 3) (fun _ _ => rfl)) (pa_cons (pv 4) pa_nil))) pa_nil)))))) pa_nil))))
      (pss_one (ps_ret (pe_op op_cat (pe_op op_cat (pe_slice sl_list (pv 1) po_none (po_some (pv 3))) (pv 5)) (pe_slice sl_list (pv 1) (po_some (pe_op op_add (pv 3) pe_int)) po_none))))))))))), ?_⟩
  refine ⟨by show 19 ≤ sizeLine; decide, fun o0 h0 => ?_⟩
  have s0 := same_new h0 (.lst [V.str "a", V.str "0", V.str "12", V.str "(", V.str ")", V.str "{", V.str "}", V.str ",", V.str ";", V.str "book", V.str "to", V.str "-", V.str "-1", V.str "A", V.str "aB", V.str "toA", V.str "a1Z", V.str "7aB", V.str "+"])
  have e0 := upd_same (H := H) (a := o0) (o := HO.lst [V.str "a", V.str "0", V.str "12", V.str "(", V.str ")", V.str "{", V.str "}", V.str ",", V.str ";", V.str "book", V.str "to", V.str "-", V.str "-1", V.str "A", V.str "aB", V.str "toA", V.str "a1Z", V.str "7aB", V.str "+"])
  generalize L2.upd H o0 _ = M0 at s0 e0 ⊢
  refine ⟨_, rfl, by show 12 ≤ sizeLine; decide, fun t1 h1 => ?_⟩
  have u1 := same_new h1 (.lst [V.str "#", V.str "_", V.str "a_b", V.str "abcdefghijklm", V.str "abcdefghijkl0", V.str "00", V.str "7abcdefghijklm", V.str "\t", V.str "1\t", V.str "'", V.str ".", V.str ":"])
  refine ⟨o0, t1, _, _, rfl, rfl, u1 _ _ e0, upd_same, by show 31 ≤ sizeLine; decide, fun o1 g1 => ?_⟩
  have s1 := (s0.trans u1).trans (same_new g1 (.lst ([V.str "a", V.str "0", V.str "12", V.str "(", V.str ")", V.str "{", V.str "}", V.str ",", V.str ";", V.str "book", V.str "to", V.str "-", V.str "-1", V.str "A", V.str "aB", V.str "toA", V.str "a1Z", V.str "7aB", V.str "+"] ++ [V.str "#", V.str "_", V.str "a_b", V.str "abcdefghijklm", V.str "abcdefghijkl0", V.str "00", V.str "7abcdefghijklm", V.str "\t", V.str "1\t", V.str "'", V.str ".", V.str ":"])))
  have e1 := upd_same (H := L2.upd M0 t1 (.lst [V.str "#", V.str "_", V.str "a_b", V.str "abcdefghijklm", V.str "abcdefghijkl0", V.str "00", V.str "7abcdefghijklm", V.str "\t", V.str "1\t", V.str "'", V.str ".", V.str ":"])) (a := o1) (o := HO.lst ([V.str "a", V.str "0", V.str "12", V.str "(", V.str ")", V.str "{", V.str "}", V.str ",", V.str ";", V.str "book", V.str "to", V.str "-", V.str "-1", V.str "A", V.str "aB", V.str "toA", V.str "a1Z", V.str "7aB", V.str "+"] ++ [V.str "#", V.str "_", V.str "a_b", V.str "abcdefghijklm", V.str "abcdefghijkl0", V.str "00", V.str "7abcdefghijklm", V.str "\t", V.str "1\t", V.str "'", V.str ".", V.str ":"]))
  generalize L2.upd (L2.upd M0 t1 (.lst [V.str "#", V.str "_", V.str "a_b", V.str "abcdefghijklm", V.str "abcdefghijkl0", V.str "00", V.str "7abcdefghijklm", V.str "\t", V.str "1\t", V.str "'", V.str ".", V.str ":"])) o1 (.lst ([V.str "a", V.str "0", V.str "12", V.str "(", V.str ")", V.str "{", V.str "}", V.str ",", V.str ";", V.str "book", V.str "to", V.str "-", V.str "-1", V.str "A", V.str "aB", V.str "toA", V.str "a1Z", V.str "7aB", V.str "+"] ++ [V.str "#", V.str "_", V.str "a_b", V.str "abcdefghijklm", V.str "abcdefghijkl0", V.str "00", V.str "7abcdefghijklm", V.str "\t", V.str "1\t", V.str "'", V.str ".", V.str ":"])) = M1 at s1 e1 ⊢
  refine ⟨_, rfl, by show 12 ≤ sizeLine; decide, fun t2 h2 => ?_⟩
  have u2 := same_new h2 (.lst [V.str "[", V.str "]", V.str "*", V.str "/", V.str "=", V.str "<", V.str "?", V.str "~", V.str "0x", V.str "Z", V.str "!", V.str "|"])
  refine ⟨o1, t2, _, _, rfl, rfl, u2 _ _ e1, upd_same, by show 43 ≤ sizeLine; decide, fun o2 g2 => ?_⟩
  have s2 := (s1.trans u2).trans (same_new g2 (.lst (([V.str "a", V.str "0", V.str "12", V.str "(", V.str ")", V.str "{", V.str "}", V.str ",", V.str ";", V.str "book", V.str "to", V.str "-", V.str "-1", V.str "A", V.str "aB", V.str "toA", V.str "a1Z", V.str "7aB", V.str "+"] ++ [V.str "#", V.str "_", V.str "a_b", V.str "abcdefghijklm", V.str "abcdefghijkl0", V.str "00", V.str "7abcdefghijklm", V.str "\t", V.str "1\t", V.str "'", V.str ".", V.str ":"]) ++ [V.str "[", V.str "]", V.str "*", V.str "/", V.str "=", V.str "<", V.str "?", V.str "~", V.str "0x", V.str "Z", V.str "!", V.str "|"])))
  have e2 := upd_same (H := L2.upd M1 t2 (.lst [V.str "[", V.str "]", V.str "*", V.str "/", V.str "=", V.str "<", V.str "?", V.str "~", V.str "0x", V.str "Z", V.str "!", V.str "|"])) (a := o2) (o := HO.lst (([V.str "a", V.str "0", V.str "12", V.str "(", V.str ")", V.str "{", V.str "}", V.str ",", V.str ";", V.str "book", V.str "to", V.str "-", V.str "-1", V.str "A", V.str "aB", V.str "toA", V.str "a1Z", V.str "7aB", V.str "+"] ++ [V.str "#", V.str "_", V.str "a_b", V.str "abcdefghijklm", V.str "abcdefghijkl0", V.str "00", V.str "7abcdefghijklm", V.str "\t", V.str "1\t", V.str "'", V.str ".", V.str ":"]) ++ [V.str "[", V.str "]", V.str "*", V.str "/", V.str "=", V.str "<", V.str "?", V.str "~", V.str "0x", V.str "Z", V.str "!", V.str "|"]))
  generalize L2.upd (L2.upd M1 t2 (.lst [V.str "[", V.str "]", V.str "*", V.str "/", V.str "=", V.str "<", V.str "?", V.str "~", V.str "0x", V.str "Z", V.str "!", V.str "|"])) o2 (.lst (([V.str "a", V.str "0", V.str "12", V.str "(", V.str ")", V.str "{", V.str "}", V.str ",", V.str ";", V.str "book", V.str "to", V.str "-", V.str "-1", V.str "A", V.str "aB", V.str "toA", V.str "a1Z", V.str "7aB", V.str "+"] ++ [V.str "#", V.str "_", V.str "a_b", V.str "abcdefghijklm", V.str "abcdefghijkl0", V.str "00", V.str "7abcdefghijklm", V.str "\t", V.str "1\t", V.str "'", V.str ".", V.str ":"]) ++ [V.str "[", V.str "]", V.str "*", V.str "/", V.str "=", V.str "<", V.str "?", V.str "~", V.str "0x", V.str "Z", V.str "!", V.str "|"])) = M2 at s2 e2 ⊢
  refine ⟨_, rfl, by show 9 ≤ sizeLine; decide, fun t3 h3 => ?_⟩
  have u3 := same_new h3 (.lst [V.str "\"", V.str "$", V.str "&", V.str ">", V.str "@", V.str "\\", V.str "C", V.str "Y", V.str "}{"])
  refine ⟨o2, t3, _, _, rfl, rfl, u3 _ _ e2, upd_same, by show 52 ≤ sizeLine; decide, fun o3 g3 => ?_⟩
  have s3 := (s2.trans u3).trans (same_new g3 (.lst ((([V.str "a", V.str "0", V.str "12", V.str "(", V.str ")", V.str "{", V.str "}", V.str ",", V.str ";", V.str "book", V.str "to", V.str "-", V.str "-1", V.str "A", V.str "aB", V.str "toA", V.str "a1Z", V.str "7aB", V.str "+"] ++ [V.str "#", V.str "_", V.str "a_b", V.str "abcdefghijklm", V.str "abcdefghijkl0", V.str "00", V.str "7abcdefghijklm", V.str "\t", V.str "1\t", V.str "'", V.str ".", V.str ":"]) ++ [V.str "[", V.str "]", V.str "*", V.str "/", V.str "=", V.str "<", V.str "?", V.str "~", V.str "0x", V.str "Z", V.str "!", V.str "|"]) ++ [V.str "\"", V.str "$", V.str "&", V.str ">", V.str "@", V.str "\\", V.str "C", V.str "Y", V.str "}{"])))
  have e3 := upd_same (H := L2.upd M2 t3 (.lst [V.str "\"", V.str "$", V.str "&", V.str ">", V.str "@", V.str "\\", V.str "C", V.str "Y", V.str "}{"])) (a := o3) (o := HO.lst ((([V.str "a", V.str "0", V.str "12", V.str "(", V.str ")", V.str "{", V.str "}", V.str ",", V.str ";", V.str "book", V.str "to", V.str "-", V.str "-1", V.str "A", V.str "aB", V.str "toA", V.str "a1Z", V.str "7aB", V.str "+"] ++ [V.str "#", V.str "_", V.str "a_b", V.str "abcdefghijklm", V.str "abcdefghijkl0", V.str "00", V.str "7abcdefghijklm", V.str "\t", V.str "1\t", V.str "'", V.str ".", V.str ":"]) ++ [V.str "[", V.str "]", V.str "*", V.str "/", V.str "=", V.str "<", V.str "?", V.str "~", V.str "0x", V.str "Z", V.str "!", V.str "|"]) ++ [V.str "\"", V.str "$", V.str "&", V.str ">", V.str "@", V.str "\\", V.str "C", V.str "Y", V.str "}{"]))
  generalize L2.upd (L2.upd M2 t3 (.lst [V.str "\"", V.str "$", V.str "&", V.str ">", V.str "@", V.str "\\", V.str "C", V.str "Y", V.str "}{"])) o3 (.lst ((([V.str "a", V.str "0", V.str "12", V.str "(", V.str ")", V.str "{", V.str "}", V.str ",", V.str ";", V.str "book", V.str "to", V.str "-", V.str "-1", V.str "A", V.str "aB", V.str "toA", V.str "a1Z", V.str "7aB", V.str "+"] ++ [V.str "#", V.str "_", V.str "a_b", V.str "abcdefghijklm", V.str "abcdefghijkl0", V.str "00", V.str "7abcdefghijklm", V.str "\t", V.str "1\t", V.str "'", V.str ".", V.str ":"]) ++ [V.str "[", V.str "]", V.str "*", V.str "/", V.str "=", V.str "<", V.str "?", V.str "~", V.str "0x", V.str "Z", V.str "!", V.str "|"]) ++ [V.str "\"", V.str "$", V.str "&", V.str ">", V.str "@", V.str "\\", V.str "C", V.str "Y", V.str "}{"])) = M3 at s3 e3 ⊢
  have g0 := Go.of hS s3
  have n3 := Src.ne_none hS (Go.free (Go.of hS ((s2.trans u3))) g3)
  have ea3 := s3 _ _ ea
  refine ⟨_, rfl, _, rfl, a, _, rfl, .inl (SqL.of ea3), s, c, _, rfl, g0.src, by rw [List.length_map]; omega, by rw [List.length_map]; omega, fun kk M4 k0 k1 g4 => ?_⟩
  have e4 := g4.lst g0.src e3 n3.2
  refine ⟨_, rfl, _, rfl, s, c, o3, _, rfl, g4.src, e4, n3.2, by decide, by decide, fun i x M5 hx g5 => ?_⟩
  obtain ⟨x, rfl, sx⟩ := sg_of (ws := oddS) odd_sg hx
  have gA := (g0.trans g4).trans g5
  have eaA := gA.lst hS ea nac
  refine ⟨_, _, rfl, ?_⟩
  rw [List.length_map] at k1
  obtain ⟨j, rfl⟩ : ∃ j : Nat, kk = (j : Int) := ⟨kk.toNat, by omega⟩
  have jl : j < xs.length := by omega
  have ej := List.getElem?_eq_getElem jl
  have sj : SgS xs[j] := sg _ (List.getElem_mem jl)
  generalize xs[j] = y at ej sj
  have ixj : atI (xs.map V.str) (j : Int) = some (V.str y) := atI_nat (by rw [List.getElem?_map, ej]; rfl)
  refine ⟨_, rfl, Nat.zero_le _, fun p1 h1 => ?_⟩
  have t1 := same_new h1 (.lst [])
  have f1 := upd_same (H := M5) (a := p1) (o := HO.lst [])
  generalize L2.upd M5 p1 (.lst []) = N1 at t1 f1 ⊢
  refine ⟨_, rfl, _, rfl, a, _, _, _, rfl, rfl, SqL.of (t1 _ _ eaA), ixj, (by show 1 ≤ sizeLine; decide), fun q2 h2 => ?_⟩
  have t2 := same_new h2 (.lst [.str y])
  refine ⟨q2, _, _, rfl, rfl, upd_same, by decide, by decide, by show 1 * 2 ≤ sizeLine; decide, fun p2 h2' => ?_⟩
  have t2' := same_new h2' (.lst (List.replicate (2 : Int).toNat [V.str y]).flatten)
  have f2 := upd_same (H := L2.upd N1 q2 (.lst [.str y])) (a := p2) (o := HO.lst (List.replicate (2 : Int).toNat [V.str y]).flatten)
  have t3 := (t1.trans t2).trans t2'
  generalize L2.upd (L2.upd N1 q2 (.lst [.str y])) p2 (.lst (List.replicate (2 : Int).toNat [V.str y]).flatten) = N2 at t2' f2 t3 ⊢
  have f1 := t2' _ _ (t2 _ _ f1)
  have ea2 := t3 _ _ eaA
  refine ⟨_, rfl, (by show 1 ≤ sizeLine; decide), fun p3 h3' => ?_⟩
  have t4 := same_new h3' (.lst [.str x])
  have f3 := upd_same (H := N2) (a := p3) (o := HO.lst [.str x])
  generalize L2.upd N2 p3 (.lst [.str x]) = N3 at t4 f3 ⊢
  refine ⟨_, rfl, _, rfl, _, rfl, a, _, _, _, rfl, rfl, SqL.of (t4 _ _ ea2), ixj, (by show 2 ≤ sizeLine; decide), fun p4 h4' => ?_⟩
  have t5 := same_new h4' (.lst [.str x, .str y])
  have f4 := upd_same (H := N3) (a := p4) (o := HO.lst [.str x, .str y])
  generalize L2.upd N3 p4 (.lst [.str x, .str y]) = N4 at t5 f4 ⊢
  refine ⟨_, rfl, _, rfl, a, _, _, _, rfl, rfl, SqL.of (t5 _ _ (t4 _ _ ea2)), ixj, _, rfl, (by show 2 ≤ sizeLine; decide), fun p5 h5' => ?_⟩
  have t6 := same_new h5' (.lst [.str y, .str x])
  have f5 := upd_same (H := N4) (a := p5) (o := HO.lst [.str y, .str x])
  generalize L2.upd N4 p5 (.lst [.str y, .str x]) = N5 at t6 f5 ⊢
  refine ⟨by show 5 ≤ sizeLine; decide, fun L hL => ?_⟩
  have t7 := same_new hL (.lst [.ref p1, .ref p2, .ref p3, .ref p4, .ref p5])
  have fL := upd_same (H := N5) (a := L) (o := HO.lst [.ref p1, .ref p2, .ref p3, .ref p4, .ref p5])
  have tA := (((t3.trans t4).trans t5).trans t6)
  have nL := gA.src.ne_none (tA.free hL)
  have tB := tA.trans t7
  have gB := gA.then tB
  have m1 := t7 _ _ (t6 _ _ (t5 _ _ (t4 _ _ f1)))
  have m2 := t7 _ _ (t6 _ _ (t5 _ _ (t4 _ _ f2)))
  have m3 := t7 _ _ (t6 _ _ (t5 _ _ f3))
  have m4 := t7 _ _ (t6 _ _ f4)
  have m5 := t7 _ _ f5
  have c1 := (gA.src.ne_none h1).2
  have c2 := (gA.src.ne_none ((t1.trans t2).free h2')).2
  have c3 := (gA.src.ne_none (t3.free h3')).2
  have c4 := (gA.src.ne_none ((t3.trans t4).free h4')).2
  have c5 := (gA.src.ne_none (((t3.trans t4).trans t5).free h5')).2
  generalize L2.upd N5 L (.lst [.ref p1, .ref p2, .ref p3, .ref p4, .ref p5]) = N6 at t7 fL tB gB m1 m2 m3 m4 m5 ⊢
  refine ⟨s, c, L, _, rfl, gB.src, fL, nL.2, (by show 1 ≤ 5; decide), (by show 5 < 1000000; decide), fun i2 v M7 hv g7 => ?_⟩
  obtain ⟨pp, ws, rfl, ep, lw, sw, cp⟩ : ∃ (pp : Addr) (ws : List Str), v = .ref pp ∧ N6 pp = some (.lst (ws.map V.str)) ∧ ws.length ≤ 2 ∧ (∀ z ∈ ws, SgS z) ∧ pp ≠ c := by
    have hm := List.mem_of_getElem? hv
    simp only [List.mem_cons, List.not_mem_nil, or_false] at hm
    rcases hm with rfl | rfl | rfl | rfl | rfl
    · exact ⟨p1, [], rfl, m1, by decide, fun z hz => (by cases hz), c1⟩
    · refine ⟨p2, [y, y], rfl, m2, (by show 2 ≤ 2; decide), fun z hz => ?_, c2⟩
      simp only [List.mem_cons, List.not_mem_nil, or_false, or_self] at hz
      rw [hz]; exact sj
    · refine ⟨p3, [x], rfl, m3, (by show 1 ≤ 2; decide), fun z hz => ?_, c3⟩
      rw [List.mem_singleton.mp hz]; exact sx
    · refine ⟨p4, [x, y], rfl, m4, (by show 2 ≤ 2; decide), fun z hz => ?_, c4⟩
      simp only [List.mem_cons, List.not_mem_nil, or_false] at hz
      rcases hz with rfl | rfl
      · exact sx
      · exact sj
    · refine ⟨p5, [y, x], rfl, m5, (by show 2 ≤ 2; decide), fun z hz => ?_, c5⟩
      simp only [List.mem_cons, List.not_mem_nil, or_false] at hz
      rcases hz with rfl | rfl
      · exact sj
      · exact sx
  have gC := gB.trans g7
  have ea7 := gC.lst hS ea nac
  have ep7 := g7.lst gB.src ep cp
  refine ⟨_, rfl, ?_⟩
  simp only [tNoPart]
  refine ⟨_, rfl, _, rfl, a, _, rfl, SqL.of ea7, fun r1 hr1 => ?_⟩
  have cl : cutV (xs.map V.str) none (some (j : Int)) = (xs.take j).map V.str := by
    show ((xs.map V.str).drop 0).take (HT.sIx (xs.map V.str).length (xs.map V.str).length (some (j : Int)) - 0) = _
    rw [HT.sIx_nat, List.length_map, Nat.min_eq_left (by omega), Nat.sub_zero, List.drop_zero, List.map_take]
  rw [cl]
  have v1 := same_new hr1 (.lst ((xs.take j).map V.str))
  have w1 := upd_same (H := M7) (a := r1) (o := HO.lst ((xs.take j).map V.str))
  generalize L2.upd M7 r1 (.lst ((xs.take j).map V.str)) = R1 at v1 w1 ⊢
  refine ⟨_, rfl, r1, pp, _, _, rfl, rfl, w1, v1 _ _ ep7, ?_, fun r2 hr2 => ?_⟩
  · rw [List.length_map, List.length_map, List.length_take]
    exact sz6 (by omega)
  have v2 := same_new hr2 (.lst ((xs.take j).map V.str ++ ws.map V.str))
  have w2 := upd_same (H := R1) (a := r2) (o := HO.lst ((xs.take j).map V.str ++ ws.map V.str))
  generalize L2.upd R1 r2 (.lst ((xs.take j).map V.str ++ ws.map V.str)) = R2 at v2 w2 ⊢
  refine ⟨_, rfl, _, rfl, _, _, rfl, rfl, _, rfl, a, _, rfl, SqL.of (v2 _ _ (v1 _ _ ea7)), fun r3 hr3 => ?_⟩
  have ch : cutV (xs.map V.str) (some ((j : Int) + 1)) none = (xs.drop (j + 1)).map V.str := by
    rw [show ((j : Int) + 1) = ((j + 1 : Nat) : Int) from by omega]
    show ((xs.map V.str).drop (HT.sIx (xs.map V.str).length 0 (some ((j + 1 : Nat) : Int)))).take ((xs.map V.str).length - HT.sIx (xs.map V.str).length 0 (some ((j + 1 : Nat) : Int))) = _
    rw [HT.sIx_nat, List.length_map, Nat.min_eq_left (by omega), List.map_drop, List.take_of_length_le]
    rw [List.length_drop, List.length_map]
    omega
  rw [ch]
  have v3 := same_new hr3 (.lst ((xs.drop (j + 1)).map V.str))
  have w3 := upd_same (H := R2) (a := r3) (o := HO.lst ((xs.drop (j + 1)).map V.str))
  generalize L2.upd R2 r3 (.lst ((xs.drop (j + 1)).map V.str)) = R3 at v3 w3 ⊢
  refine ⟨r2, r3, _, _, rfl, rfl, v3 _ _ w2, w3, ?_, fun r4 hr4 => ?_⟩
  · rw [List.length_append, List.length_map, List.length_map, List.length_map, List.length_take, List.length_drop]
    exact sz6 (by omega)
  have v4 := same_new hr4 (.lst ((xs.take j).map V.str ++ ws.map V.str ++ (xs.drop (j + 1)).map V.str))
  refine k r4 (xs.take j ++ ws ++ xs.drop (j + 1)) _ (gC.then (((v1.trans v2).trans v3).trans v4)) ((gC.then ((v1.trans v2).trans v3)).free hr4) ?_ ?_ ?_
  · rw [upd_same, List.map_append, List.map_append]
  · rw [List.length_append, List.length_append, List.length_take, List.length_drop]; omega
  · intro z hz
    rcases List.mem_append.mp hz with h | h
    · rcases List.mem_append.mp h with h | h
      · exact sg z (List.mem_of_mem_take h)
      · exact sw z h
    · exact sg z (List.mem_of_mem_drop h)
end
end My

namespace My
open PySem PySem.Spec PyProof.Rows L2
/-! ### short texts; every text has a going -/
theorem scanF_sg {l : Str} {d : Nat} (hl : l = txt [d]) : ∀ (f : Nat) (t : List Nat) (p : Nat), (scanF f t p).1.countP (isSg l) ≤ t.countP (fun c => decide (c = d))
  | 0, _, _ => Nat.zero_le _
  | _ + 1, [], _ => Nat.zero_le _
  | f + 1, c :: r, p => by
    unfold scanF
    by_cases hb : inS BLK c = true
    · rw [if_pos hb]
      exact Nat.le_trans (scanF_sg hl f r (p + 1)) (List.sublist_cons_self c r).countP_le
    · rw [if_neg hb]
      cases e : lexL (c :: r) with
      | none => exact Nat.zero_le _
      | some y =>
        obtain ⟨k', n⟩ := y
        show ((k', (c :: r).take n, p) :: (scanF f ((c :: r).drop n) (p + n)).1).countP (isSg l) ≤ _
        have ih := scanF_sg hl f ((c :: r).drop n) (p + n)
        have sp : (c :: r).countP (fun c => decide (c = d)) = ((c :: r).take n).countP (fun c => decide (c = d)) + ((c :: r).drop n).countP (fun c => decide (c = d)) := by
          rw [← List.countP_append, List.take_append_drop]
        rw [sp, List.countP_cons]
        by_cases q : isSg l (k', (c :: r).take n, p) = true
        · rw [if_pos q]
          have q : txt ((c :: r).take n) = l := of_decide_eq_true q
          rw [hl] at q
          rw [txt_inj q]
          have : ([d] : List Nat).countP (fun c => decide (c = d)) = 1 := by rw [List.countP_cons, List.countP_nil, if_pos (decide_eq_true rfl)]
          omega
        · rw [if_neg q]; omega
theorem cbF_le {l : Str} {d : Nat} (hl : l = txt [d]) (z : List Nat) (j : Nat) : cbF l z j ≤ z.countP (fun c => decide (c = d)) := by
  unfold cbF
  exact Nat.le_trans (List.take_sublist _ _).countP_le (scanF_sg hl _ z 0)
theorem shrt_of {t t' : List Nat} (sub : t'.Sublist t) (l : t.length ≤ 10000) (d : t.countP (inS DIG) ≤ 640) (c : t.countP (fun c => decide (c = 44)) ≤ 90) (s : t.countP (fun c => decide (c = 59)) ≤ 90) : Shrt (txt t') := by
  refine ⟨?_, ?_, ?_, ?_⟩
  · rw [txt_len]; exact Nat.le_trans sub.length_le l
  · show t'.countP (inS DIG) ≤ 640
    exact Nat.le_trans sub.countP_le d
  · exact Nat.le_trans (cbF_le (d := 44) (by decide +kernel) t' _) (Nat.le_trans sub.countP_le c)
  · exact Nat.le_trans (cbF_le (d := 59) (by decide +kernel) t' _) (Nat.le_trans sub.countP_le s)
/-- the law's going, reckoned -/
def runF : Nat → List Nat → List Str → Nat → Option (Option Nat)
  | 0, _, _, _ => none
  | _ + 1, _, [], _ => some none
  | f + 1, z, top :: r, i => if isNT top = true then runF f z (ruleF top (hText z i) ++ r) i else if fitsF z i top = true then runF f z r (i + 1) else some (some (placeF z i))
theorem run_sound : ∀ {f : Nat} {z : List Nat} {S : List Str} {i : Nat} {o : Option Nat}, runF f z S i = some o → ∃ n, Au z n S i o
  | 0, _, _, _, _, h => by cases h
  | _ + 1, _, [], _, _, h => by cases h; exact ⟨_, .nil _⟩
  | f + 1, z, top :: r, i, o, h => by
    unfold runF at h
    by_cases q : isNT top = true
    · rw [if_pos q] at h
      obtain ⟨n, g⟩ := run_sound h
      exact ⟨_, .ex q g⟩
    · rw [if_neg q] at h
      have q : isNT top = false := by simpa using q
      by_cases e : fitsF z i top = true
      · rw [if_pos e] at h
        obtain ⟨n, g⟩ := run_sound h
        exact ⟨_, .eat q e g⟩
      · rw [if_neg e] at h
        cases h
        exact ⟨_, .bad q (by simpa using e)⟩
theorem nt_tab {top : Str} (h : isNT top = true) : ∃ e ∈ tabF, e.1 = top := by
  unfold isNT at h
  have h : top ∈ tabF.map (·.1) := of_decide_eq_true h
  obtain ⟨e, m, q⟩ := List.mem_map.mp h
  exact ⟨e, m, q⟩
theorem au_ex (z : List Nat) : ∀ (m : Nat) (S : List Str) (i : Nat), S ∈ STK → i ≤ (tks z).length → 3 * ((tks z).length - i) + tpC S ≤ m → ∃ n out, Au z n S i out := by
  intro m
  induction m with
  | zero =>
    intro S i hS hi hm
    cases S with
    | nil => exact ⟨_, _, .nil i⟩
    | cons top r =>
      have : 1 ≤ tpC (top :: r) := by
        show 1 ≤ (if isNT top = true then 2 else 1)
        split <;> decide
      omega
  | succ m ih =>
    intro S i hS hi hm
    cases S with
    | nil => exact ⟨_, _, .nil i⟩
    | cons top r =>
      have sy' := List.all_eq_true.mp stk_wt _ hS
      rw [Bool.and_eq_true] at sy'
      have sy' : (if isNT top = true then (rhsF top).all (fun rhs => decide (tpC (rhs ++ r) ≤ 1)) && decide (wt (shF top ++ r) ≤ wt (top :: r)) && decide (shF top ∈ rhsF top) && decide (tpC (shF top ++ r) ≤ 1)
        else if top = "END" then decide (r = []) else decide (wt (top :: r) = wt r + 1)) = true := sy'.2
      by_cases q : isNT top = true
      · rw [if_pos q] at sy'
        simp only [Bool.and_eq_true, decide_eq_true_iff] at sy'
        obtain ⟨e, me, rfl⟩ := nt_tab q
        obtain ⟨_, r0, er0, eru⟩ := tab_rule (hText z i) e me
        have hin : ruleF e.1 (hText z i) ∈ rhsF e.1 := by
          rw [← eru]
          exact rhs_in me (List.mem_filter.mp (List.mem_of_getElem? er0)).1
        have t1 := of_decide_eq_true (List.all_eq_true.mp sy'.1.1.1 _ hin)
        have t2 : tpC (e.1 :: r) = 2 := by
          show (if isNT e.1 = true then 2 else 1) = 2
          rw [if_pos q]
        obtain ⟨n, out, g⟩ := ih (ruleF e.1 (hText z i) ++ r) i (stk_put hS q hin) hi (by omega)
        exact ⟨_, _, .ex q g⟩
      · rw [if_neg q] at sy'
        have q : isNT top = false := by simpa using q
        by_cases e : fitsF z i top = true
        · by_cases qe : top = "END"
          · rw [if_pos qe, decide_eq_true_iff] at sy'
            rw [sy']
            exact ⟨_, _, .eat q e (.nil _)⟩
          · have lt : i < (tks z).length := by
              apply Classical.byContradiction
              intro n
              have en : (tks z)[i]? = none := List.getElem?_eq_none_iff.mpr (by omega)
              have nn : top ≠ "none" := fun e => stk_no _ hS (by rw [e]; exact List.mem_cons_self)
              unfold fitsF hTag at e
              rw [en] at e
              have e : (decide ((if (scan z 0).2 = none then ("END" : Str) else "none") = top) || (decide ((if (scan z 0).2 = none then ("END" : Str) else "none") = "W") && decide (hText z i = top))) = true := e
              split at e
              · rw [decide_eq_false (fun h => qe h.symm), decide_eq_false (show ("END" : Str) ≠ "W" by decide)] at e
                cases e
              · rw [decide_eq_false (fun h => nn h.symm), decide_eq_false (show ("none" : Str) ≠ "W" by decide)] at e
                cases e
            have t1 : tpC (top :: r) = 1 := by
              show (if isNT top = true then 2 else 1) = 1
              rw [q]; rfl
            have t2 := tpC_le r
            obtain ⟨n, out, g⟩ := ih r (i + 1) (stk_pop hS q) lt (by omega)
            exact ⟨_, _, .eat q e g⟩
        · exact ⟨_, _, .bad q (by simpa using e)⟩
theorem au_all (z : List Nat) : ∃ n out, Au z n ["BOOK"] 0 out := au_ex z _ ["BOOK"] 0 (by decide +kernel) (Nat.zero_le _) (Nat.le_refl _)
theorem run_try : runF 200 (("book () {p (1 a) to (1 b)" : Str).cps.toList) ["BOOK"] 0 = some (some 25) := by decide +kernel
end My

namespace My
open PySem PySem.Spec PyProof.Rows L2
/-! ### the law's texts by hand -/
abbrev Pr8 := Str × Nat
def tTs (es : List Pr8) : TA := es.foldr (fun e t => tCons (tTup (tCons (tC (V.str e.1)) (tCons (tC (V.int (e.2 : Nat))) tNil))) t) tNil
def PrAt (M : Hp) (q : Addr) (e : Pr8) : Prop := M q = some (.tup [.str e.1, .int (e.2 : Nat)])
def PrsAt (M : Hp) (l : Addr) (es : List Pr8) : Prop := ∃ qs : List Addr, M l = some (.lst (qs.map V.ref)) ∧ AllAt (PrAt M) qs es
theorem PrsAt.same {M M' : Hp} {l : Addr} {es : List Pr8} (h : PrsAt M l es) (s : Same M M') : PrsAt M' l es := let ⟨qs, a, b⟩ := h; ⟨qs, s _ _ a, b.imp fun _ _ e => s _ _ e⟩
theorem PrsAt.app {M : Hp} {l p : Addr} {es : List Pr8} {e : Pr8} {qs : List Addr} (h : M l = some (.lst (qs.map V.ref))) (al : AllAt (PrAt M) qs es) (hp : PrAt M p e) : PrsAt (L2.upd M l (.lst (qs.map V.ref ++ [.ref p]))) l (es ++ [e]) := by
  have ne : ∀ {q : Addr} {e : Pr8}, PrAt M q e → PrAt (L2.upd M l (.lst (qs.map V.ref ++ [.ref p]))) q e := fun {q e} z => by
    unfold PrAt at z ⊢
    rw [upd_ne (fun y => by rw [y, h] at z; cases z)]; exact z
  exact ⟨qs ++ [p], by rw [upd_same, List.map_append]; rfl, (al.imp fun _ _ => ne).snoc (ne hp)⟩
theorem tTs_run : ∀ {es : List Pr8} {σ : L2.St} {H : Hp} {Q : List V → Hp → Prop}, (∀ (qs : List Addr) M, Same H M → AllAt (PrAt M) qs es → Q (qs.map V.ref) M) → tTs es σ H Q
  | [], _, _, _, k => k [] _ (Same.refl _) AllAt.nil
  | e :: es, σ, H, Q, k => by
    refine ⟨by show 2 ≤ sizeLine; decide, fun p hp => ?_⟩
    show tTs es σ _ _
    exact tTs_run fun qs M s al => k (p :: qs) M ((same_new hp _).trans s) (AllAt.cons8 (s _ _ upd_same) al)
theorem tList_run {es : List Pr8} (hl : es.length ≤ 100) {σ : L2.St} {H : Hp} {Q : VK} (k : ∀ l M, Same H M → H l = none → PrsAt M l es → Q (.ref l) M) : tLst (tTs es) σ H Q := by
  show tTs es σ H _
  refine tTs_run fun qs M s al => ⟨by rw [List.length_map, al.1]; exact sz6 (by omega), fun l hl2 => ?_⟩
  exact k l _ (s.trans (same_new hl2 _)) (s.free hl2) ⟨qs, upd_same, al.imp fun _ _ h => same_new hl2 _ _ _ h⟩
theorem cat_run {v0 v2 v3 : Option V} {a : Addr} {es ds : List Pr8} (hl : es.length ≤ 100) (hd : ds.length ≤ 100) {H : Hp} (h : PrsAt H a ds) {Q : VK} (k : ∀ l M, Same H M → H l = none → PrsAt M l (ds ++ es) → Q (.ref l) M) :
    tOp rCat (tVar 1) (tLst (tTs es)) [v0, some (.ref a), v2, v3] H Q := by
  refine ⟨_, rfl, ?_⟩
  show tLst (tTs es) _ _ _
  refine tList_run hl fun b M s hb P => ?_
  obtain ⟨ps, e1, a1⟩ := h
  obtain ⟨qs, e2, a2⟩ := P
  refine ⟨a, b, _, _, rfl, rfl, s _ _ e1, e2, by rw [List.length_map, List.length_map, a1.1, a2.1]; exact sz6 (by omega), fun l hl2 => ?_⟩
  have s2 := same_new hl2 (.lst (ps.map V.ref ++ qs.map V.ref))
  exact k l _ (s.trans s2) (s.free hl2) ⟨ps ++ qs, by rw [upd_same, List.map_append], allAt_append8 (a2.imp fun _ _ e => s2 _ _ e) (a1.imp fun _ _ e => s2 _ _ (s _ _ e))⟩
theorem tSeq_asg {te : TE} {g : TG} {u : TS} {D : Ends} {σ : L2.St} {H : Hp} (h : te σ H fun x H1 => g x σ H1 (u D)) : tSeq (tAsg te g) u D σ H := h
theorem asg_lit {es : List Pr8} {te : TE} (e : te = tLst (tTs es)) (hl : es.length ≤ 100) {u : TS} {D : Ends} {v0 v1 v2 v3 : Option V} {H : Hp}
    (k : ∀ l M, Same H M → H l = none → PrsAt M l es → u D [v0, some (.ref l), v2, v3] M) : tSeq (tAsg te (gName 1)) u D [v0, v1, v2, v3] H := by
  subst e
  exact tSeq_asg (tList_run hl k)
theorem asg_cat {es ds : List Pr8} {te : TE} (e : te = tOp rCat (tVar 1) (tLst (tTs es))) (hl : es.length ≤ 100) (hd : ds.length ≤ 100) {u : TS} {D : Ends} {v0 v2 v3 : Option V} {a : Addr} {H : Hp} (h : PrsAt H a ds)
    (k : ∀ l M, Same H M → H l = none → PrsAt M l (ds ++ es) → u D [v0, some (.ref l), v2, v3] M) : tSeq (tAsg te (gName 1)) u D [v0, some (.ref a), v2, v3] H := by
  subst e
  show tOp rCat (tVar 1) (tLst (tTs es)) [v0, some (.ref a), v2, v3] H _
  exact cat_run hl hd h k
def shB (z : Str) : Bool := decide (z.length ≤ 10000) && decide (z.cps.toList.countP (inS DIG) ≤ 640) && decide (cbF "," z.cps.toList (tks z.cps.toList).length ≤ 90) && decide (cbF ";" z.cps.toList (tks z.cps.toList).length ≤ 90)
theorem shB_ok {z : Str} (h : shB z = true) : Shrt z := by
  unfold shB at h
  rw [Bool.and_eq_true, Bool.and_eq_true, Bool.and_eq_true, decide_eq_true_iff, decide_eq_true_iff, decide_eq_true_iff, decide_eq_true_iff] at h
  exact ⟨h.1.1.1, h.1.1.2, h.1.2, h.2⟩
def outD : Option Nat → PyData
  | none => .list []
  | some p => .list [.int (p : Nat)]
def pairB (e : Pr8) : Bool := shB e.1 && decide (runF 300 e.1.cps.toList ["BOOK"] 0 = some (some e.2)) && PyData.eqv (outD (some e.2)) (outD (some e.2)) && SeqAt.shaped (outD (some e.2))
structure PairOk (e : Pr8) : Prop where
  sh : Shrt e.1
  au : ∃ n, Au e.1.cps.toList n ["BOOK"] 0 (some e.2)
  eq : PyData.eqv (outD (some e.2)) (outD (some e.2)) = true
  sp : SeqAt.shaped (outD (some e.2)) = true
theorem pairB_ok {e : Pr8} (h : pairB e = true) : PairOk e := by
  unfold pairB at h
  rw [Bool.and_eq_true, Bool.and_eq_true, Bool.and_eq_true, decide_eq_true_iff] at h
  exact ⟨shB_ok h.1.1.1, run_sound h.1.1.2, h.1.2, h.2⟩
theorem out_dp {K : PySem.W.Frag} {M : Hp} {a : Addr} {o : Option Nat} (e : M a = some (.lst (outV o))) : Dp K M (.ref a) (outD o) := by
  cases o with
  | none => exact .lst (SqL.of e) .nil
  | some p => exact .lst (SqL.of e) (.cons (.int _) .nil)
def spHand : Sp := fun vs H Q _ => ∃ rd : Addr, vs = [.ref rd] ∧ RulesAt H rd ∧ ∀ H', Q (.bl true) H'
def hnd0 : List Pr8 := [("book [ a", 5), ("book (a.", 7), ("books [", 0), ("", 0), ("   ", 3), ("book (a  \n", 10), ("book", 4)]
def hnd1 : List Pr8 := [("book (a,) {}", 8), ("book (a b)", 8), ("book () {} book", 11), ("book () {};", 10), ("Book", 0)]
def hnd2 : List Pr8 := [("book () {p () to (1 a);}", 12), ("book () {p (1 a) (1 b);}", 17)]
def hnd3 : List Pr8 := [("book () {p (1 a) to (a);}", 21), ("book () {p (1 a,) to (1 b);}", 16)]
def hnd4 : List Pr8 := [("book () {p (-1 a) to (1 b);}", 12), ("book () {p;}", 10)]
def hnd5 : List Pr8 := [("book () {p (00 a) to (1 b);}", 13), ("book () {p (1 a) to (1 b) ;;}", 27), ("book\t()", 4)]
def hnd6 : List Pr8 := [("book (a,a) {} x", 14), ("book () {}\t", 10), ("book () {} A", 11), ("bookx () {}", 0)]
def hndA : List Pr8 := [("book () {p (1 a) tox (1 b);}", 17)]
def hndL : List Pr8 := [("book () {p (1 a) to (1 b)", 25), ("book () {1 (1 a) to (1 b);}", 9)]
def hndX : List Pr8 := hnd0 ++ hnd1 ++ hnd2 ++ hnd3 ++ hnd4 ++ hnd5 ++ hnd6
theorem hnd_ok : ((hndX ++ hndA ++ hndL).all pairB) = true := by decide +kernel
theorem hnd_len : (hndX ++ hndA ++ hndL).length ≤ 100 ∧ hndX.length ≤ 90 := by decide
def lst1 : Str := "book(b,b){p(0 c)to(1 c);p(1 c)to(1 c);}"
def lst2 : Str := "book(){}"
theorem lst_ok : (shB lst1 && shB lst2 && decide (runF 300 lst1.cps.toList ["BOOK"] 0 = some none) && decide (runF 300 lst2.cps.toList ["BOOK"] 0 = some none)) = true := by decide +kernel
section
variable {P : Program} {w : World} {K : PySem.W.Frag} {mg : Str → Option Value} {base : Heap}
theorem ok_hand8 (T : Tx K mg) : FnOk P w K mg base CX0 9 T.a_law_hand_right T.fd_law_hand_right ["_law_rules_here"] spHand := by
  refine T.F_law_hand_right.ok sc_law_hand_right (fun vs H Q E h => ?_) (fun cdv A outer st H vs Q E hr h => ?_)
  · obtain ⟨rd, rfl, _⟩ := h
    rfl
  obtain ⟨rd, rfl, RU, k⟩ := h
  have G_law_told : FnOk P w K mg base CX0 8 T.a_law_told T.fd_law_told ["_law_text"] spTold8 := ok_told8 T
  have hr_law_told : Room 8 _ := hr
  have G_law_wrong_place : FnOk P w K mg base CX0 3 T.a_law_wrong_place T.fd_law_wrong_place ["_law_rules_here", "_law_text", "_law_form"] spWrongPl := ok_wrong_place8 T
  have hr_law_wrong_place : Room 3 _ := hr.mono (by decide)
  refine ⟨_, ((pss_cons (ps_set (i := 1) sc_law_hand_right.nd rfl (Or.inl rfl) (pe_lst (pa_cons (pe_tup (pa_cons pe_str (pa_cons pe_int pa_nil))) (pa_cons (pe_tup (pa_cons pe_str (pa_cons pe_int pa_nil))) (pa_cons (pe_tup (pa_cons pe_str (pa_cons pe_int pa_nil))) (pa_cons (pe_tup (pa_cons pe_str (pa_cons pe_int pa_nil))) (pa_cons (pe_tup (pa_cons pe_str (pa_cons pe_int pa_nil))) (pa_cons (pe_tup (pa_cons pe_str (pa_cons pe_int pa_nil))) (pa_cons (pe_tup (pa_cons pe_str (pa_cons pe_int pa_nil))) pa_nil)))))))))
      (pss_cons (ps_set (i := 1) sc_law_hand_right.nd rfl (Or.inl rfl) (pe_op op_cat (pv 1) (pe_lst (pa_cons (pe_tup (pa_cons pe_str (pa_cons pe_int pa_nil))) (pa_cons (pe_tup (pa_cons pe_str (pa_cons pe_int pa_nil))) (pa_cons (pe_tup (pa_cons pe_str (pa_cons pe_int pa_nil))) (pa_cons (pe_tup (pa_cons pe_str (pa_cons pe_int pa_nil))) (pa_cons (pe_tup (pa_cons pe_str (pa_cons pe_int pa_nil))) pa_nil))))))))
      (pss_cons (ps_set (i := 1) sc_law_hand_right.nd rfl (Or.inl rfl) (pe_op op_cat (pv 1) (pe_lst (pa_cons (pe_tup (pa_cons pe_str (pa_cons pe_int pa_nil))) (pa_cons (pe_tup (pa_cons pe_str (pa_cons pe_int pa_nil))) pa_nil)))))
      (pss_cons (ps_set (i := 1) sc_law_hand_right.nd rfl (Or.inl rfl) (pe_op op_cat (pv 1) (pe_lst (pa_cons (pe_tup (pa_cons pe_str (pa_cons pe_int pa_nil))) (pa_cons (pe_tup (pa_cons pe_str (pa_cons pe_int pa_nil))) pa_nil)))))
      (pss_cons (ps_set (i := 1) sc_law_hand_right.nd rfl (Or.inl rfl) (pe_op op_cat (pv 1) (pe_lst (pa_cons (pe_tup (pa_cons pe_str (pa_cons pe_int pa_nil))) (pa_cons (pe_tup (pa_cons pe_str (pa_cons pe_int pa_nil))) pa_nil)))))
      (pss_cons (ps_set (i := 1) sc_law_hand_right.nd rfl (Or.inl rfl) (pe_op op_cat (pv 1) (pe_lst (pa_cons (pe_tup (pa_cons pe_str (pa_cons pe_int pa_nil))) (pa_cons (pe_tup (pa_cons pe_str (pa_cons pe_int pa_nil))) (pa_cons (pe_tup (pa_cons pe_str (pa_cons pe_int pa_nil))) pa_nil))))))
      (pss_cons (ps_set (i := 1) sc_law_hand_right.nd rfl (Or.inl rfl) (pe_op op_cat (pv 1) (pe_lst (pa_cons (pe_tup (pa_cons pe_str (pa_cons pe_int pa_nil))) (pa_cons (pe_tup (pa_cons pe_str (pa_cons pe_int pa_nil))) (pa_cons (pe_tup (pa_cons pe_str (pa_cons pe_int pa_nil))) (pa_cons (pe_tup (pa_cons pe_str (pa_cons pe_int pa_nil))) pa_nil)))))))
      (pss_cons (ps_expr (pe_bm PySem.F.plainAttrs_list PySem.F.slot_list_append PySem.F.type_list_append mt_append (pv 1) (pa_cons (pe_tup (pa_cons pe_str (pa_cons pe_int pa_nil))) pa_nil)))
      (pss_cons (ps_for PassesOwn.never rfl (pi_list (pe_op op_cat (pv 1) (pe_lst (pa_cons (pe_tup (pa_cons pe_str (pa_cons pe_int pa_nil))) (pa_cons (pe_tup (pa_cons pe_str (pa_cons pe_int pa_nil))) pa_nil))))) (pg_tup rfl (pgs_cons (pg_name (i := 2) sc_law_hand_right.nd rfl (Or.inl rfl)) (pgs_cons (pg_name (i := 3) sc_law_hand_right.nd rfl (Or.inl rfl)) pgs_nil)))
        (pss_one (ps_if (PW.pt (pw_or (pt_cmpR (op_neD hr.units) (pe_call G_law_told hr_law_told rfl T.m_law_told T.F_law_told.kp T.b_law_told .nil pass0 (pa_cons (pv 2) pa_nil)) (pe_lst (pa_cons (pv 3) pa_nil)) (nomark _)) (pw_or1 (pt_cmpR (op_neD hr.units) (pe_call G_law_wrong_place hr_law_wrong_place rfl T.m_law_wrong_place T.F_law_wrong_place.kp T.b_law_wrong_place .nil pass0 (pa_cons (pv 0) (pa_cons (pv 2) (pa_cons pe_str pa_nil)))) (pe_lst (pa_cons (pv 3) pa_nil)) (nomark _)))))
        (pss_one (ps_ret pe_bl))
        pss_nil)))
      (pss_one (ps_ret (pe_cmpR (op_eqD hr.units) (pe_op op_cat (pe_call G_law_told hr_law_told rfl T.m_law_told T.F_law_told.kp T.b_law_told .nil pass0 (pa_cons pe_str pa_nil)) (pe_call G_law_told hr_law_told rfl T.m_law_told T.F_law_told.kp T.b_law_told .nil pass0 (pa_cons pe_str pa_nil))) (pe_lst pa_nil) (nomark _)))))))))))))), ?_⟩
  refine asg_lit (es := hnd0) rfl (by decide) fun a0 M0 s0 h0 P0 => ?_
  refine asg_cat (es := hnd1) rfl (by decide) (by decide) P0 fun a1 M1 t1 h1 P1 => ?_
  have s1 := s0.trans t1
  refine asg_cat (es := hnd2) rfl (by decide) (by decide) P1 fun a2 M2 t2 h2 P2 => ?_
  have s2 := s1.trans t2
  refine asg_cat (es := hnd3) rfl (by decide) (by decide) P2 fun a3 M3 t3 h3 P3 => ?_
  have s3 := s2.trans t3
  refine asg_cat (es := hnd4) rfl (by decide) (by decide) P3 fun a4 M4 t4 h4 P4 => ?_
  have s4 := s3.trans t4
  refine asg_cat (es := hnd5) rfl (by decide) (by decide) P4 fun a5 M5 t5 h5 P5 => ?_
  have s5 := s4.trans t5
  refine asg_cat (es := hnd6) rfl (by decide) (by decide) P5 fun a6 M6 t6 h6 P6 => ?_
  have s6 := s5.trans t6
  have ha : H a6 = none := s5.free h6
  have Pn : PrsAt M6 a6 hndX := P6
  have sX := s6
  generalize M6 = M at Pn sX ⊢
  generalize a6 = a at Pn ha ⊢
  obtain ⟨qs, ea, al⟩ := Pn
  have lq : qs.length ≤ 90 := by rw [al.1]; exact hnd_len.2
  refine ⟨_, rfl, .inl ⟨rfl, _, SqL.of ea⟩, (by show 2 ≤ sizeLine; decide), fun p hp => ?_⟩
  have u1 := same_new hp (.tup [.str "book () {p (1 a) tox (1 b);}", .int 17])
  have ea1 := u1 _ _ ea
  have hHp : H p = none := sX.free hp
  refine ⟨a, _, _, rfl, rfl, ea1, by rw [List.length_map]; exact small_big (by omega), ?_⟩
  have PA := PrsAt.app (e := ("book () {p (1 a) tox (1 b);}", 17)) ea1 (al.imp fun _ _ z => u1 _ _ z) upd_same
  have sA : Same H (L2.upd (L2.upd M p (.tup [.str "book () {p (1 a) tox (1 b);}", .int 17])) a (.lst (qs.map V.ref ++ [.ref p]))) := fun b u e => by
    rw [upd_ne (ne_of_none e ha)]
    exact u1 _ _ (sX _ _ e)
  generalize L2.upd (L2.upd M p (.tup [.str "book () {p (1 a) tox (1 b);}", .int 17])) a (.lst (qs.map V.ref ++ [.ref p])) = N at PA sA ⊢
  obtain ⟨qs2, ea2, al2⟩ := PA
  refine ⟨_, rfl, (by show 2 ≤ sizeLine; decide), fun p1 h1 => ⟨(by show 2 ≤ sizeLine; decide), fun p2 h2 => ⟨(by show 2 ≤ sizeLine; decide), fun l hl => ?_⟩⟩⟩
  have w1 := same_new h1 (.tup [.str "book () {p (1 a) to (1 b)", .int 25])
  have w2 := same_new h2 (.tup [.str "book () {1 (1 a) to (1 b);}", .int 9])
  have w3 := same_new hl (.lst [.ref p1, .ref p2])
  have wA := (w1.trans w2).trans w3
  have el := upd_same (H := L2.upd (L2.upd N p1 (.tup [.str "book () {p (1 a) to (1 b)", .int 25])) p2 (.tup [.str "book () {1 (1 a) to (1 b);}", .int 9])) (a := l) (o := HO.lst [.ref p1, .ref p2])
  have e1 : PrAt (L2.upd (L2.upd (L2.upd N p1 (.tup [.str "book () {p (1 a) to (1 b)", .int 25])) p2 (.tup [.str "book () {1 (1 a) to (1 b);}", .int 9])) l (.lst [.ref p1, .ref p2])) p1 ("book () {p (1 a) to (1 b)", 25) := w3 _ _ (w2 _ _ upd_same)
  have e2 : PrAt (L2.upd (L2.upd (L2.upd N p1 (.tup [.str "book () {p (1 a) to (1 b)", .int 25])) p2 (.tup [.str "book () {1 (1 a) to (1 b);}", .int 9])) l (.lst [.ref p1, .ref p2])) p2 ("book () {1 (1 a) to (1 b);}", 9) := w3 _ _ upd_same
  generalize L2.upd (L2.upd (L2.upd N p1 (.tup [.str "book () {p (1 a) to (1 b)", .int 25])) p2 (.tup [.str "book () {1 (1 a) to (1 b);}", .int 9])) l (.lst [.ref p1, .ref p2]) = N2 at wA el e1 e2 ⊢
  have lq2 : qs2.length ≤ 92 := by
    rw [al2.1, List.length_append]
    have := hnd_len.2
    show hndX.length + 1 ≤ 92
    omega
  refine ⟨a, l, _, _, rfl, rfl, wA _ _ ea2, el, by rw [List.length_map]; exact sz6 (by show qs2.length + 2 ≤ 100000; omega), fun L hL => ?_⟩
  have w4 := same_new hL (.lst (qs2.map V.ref ++ [.ref p1, .ref p2]))
  have eL : (L2.upd N2 L (.lst (qs2.map V.ref ++ [.ref p1, .ref p2]))) L = some (.lst ((qs2 ++ [p1, p2]).map V.ref)) := by rw [upd_same, List.map_append]; rfl
  have alL : AllAt (PrAt (L2.upd N2 L (.lst (qs2.map V.ref ++ [.ref p1, .ref p2])))) (qs2 ++ [p1, p2]) (hndX ++ hndA ++ hndL) :=
    allAt_append8 (AllAt.cons8 (w4 _ _ e1) (AllAt.cons8 (w4 _ _ e2) AllAt.nil)) (al2.imp fun _ _ z => w4 _ _ (wA _ _ z))
  have sL := (sA.trans wA).trans w4
  generalize L2.upd N2 L (.lst (qs2.map V.ref ++ [.ref p1, .ref p2])) = N3 at eL alL sL ⊢
  refine ⟨L, rfl, ⟨_, SqL.of eL⟩, for_list (K := K) (a := L) (xs := (qs2 ++ [p1, p2]).map V.ref) (fun i σ R => ∃ v2 v3 : Option V, σ = [some (.ref rd), some (.ref a), v2, v3] ∧ Same N3 R) ⟨_, _, rfl, Same.refl _⟩ (fun i σ R _ ⟨_, _, _, z⟩ => SqL.of (z _ _ eL)) ?_ ?_⟩
  · rintro i v σ R hv ⟨v2, v3, rfl, sR⟩
    obtain ⟨q, hq, rfl⟩ := getM hv
    obtain ⟨e, he, hqe⟩ := alL.get hq
    have ok := pairB_ok (List.all_eq_true.mp hnd_ok e (List.mem_of_getElem? he))
    obtain ⟨n, au⟩ := ok.au
    refine ⟨q, _, rfl, SqT.of (sR _ _ hqe), rfl, _, _, rfl, _, _, rfl, rfl, ?_⟩
    refine ⟨_, rfl, e.1, rfl, ok.sh, fun out m b H1 au1 s1 hb eb => ?_⟩
    cases (Au.uniq au1 au)
    refine ⟨_, rfl, (by show 1 ≤ sizeLine; decide), fun r hr1 => ?_⟩
    have x1 := same_new hr1 (.lst [.int (e.2 : Nat)])
    refine ⟨outD (some e.2), outD (some e.2), out_dp (x1 _ _ eb), out_dp upd_same, ok.sp, ok.sp, _, rfl, ?_⟩
    rw [ok.eq]
    have sR1 := (sR.trans s1).trans x1
    generalize L2.upd H1 r (.lst [.int (e.2 : Nat)]) = R1 at sR1 ⊢
    refine iteF ⟨_, rfl, _, rfl, rd, e.1, n, some e.2, rfl, RU.same (sL.trans sR1), by have := ok.sh.l; omega, au, fun b2 H2 s2 hb2 eb2 => ?_⟩
    refine ⟨_, rfl, (by show 1 ≤ sizeLine; decide), fun r2 hr2 => ?_⟩
    have x2 := same_new hr2 (.lst [.int (e.2 : Nat)])
    refine ⟨outD (some e.2), outD (some e.2), out_dp (x2 _ _ eb2), out_dp upd_same, ok.sp, ok.sp, _, rfl, ?_⟩
    rw [ok.eq]
    refine iteF ⟨_, _, rfl, (sR1.trans s2).trans x2⟩
  · rintro σ R ⟨v2, v3, rfl, sR⟩
    have ok := lst_ok
    rw [Bool.and_eq_true, Bool.and_eq_true, Bool.and_eq_true, decide_eq_true_iff, decide_eq_true_iff] at ok
    obtain ⟨n1, au1⟩ := run_sound ok.1.2
    obtain ⟨n2, au2⟩ := run_sound ok.2
    refine ⟨lst1, rfl, shB_ok ok.1.1.1, fun out m b H1 au3 s1 hb eb => ?_⟩
    cases (Au.uniq au3 au1)
    refine ⟨lst2, rfl, shB_ok ok.1.1.2, fun out m b2 H2 au4 s2 hb2 eb2 => ?_⟩
    cases (Au.uniq au4 au2)
    refine ⟨b, b2, _, _, rfl, rfl, s2 _ _ eb, eb2, Nat.zero_le _, fun c hc => ?_⟩
    have x1 := same_new hc (.lst (outV none ++ outV none))
    refine ⟨Nat.zero_le _, fun r hr1 => ?_⟩
    have x2 := same_new hr1 (.lst [])
    refine ⟨outD none, outD none, out_dp (x2 _ _ upd_same), out_dp upd_same, by decide, by decide, ?_⟩
    rw [show PyData.eqv (outD none) (outD none) = true by decide]
    exact k _
end
end My

namespace My
open PySem PySem.Spec PyProof.Rows L2
/-! ### the law -/
theorem cut_txt (t : List Nat) {n : Nat} (h : n ≤ t.length) : cutS (txt t) none (some (n : Int)) = txt (t.take n) := by
  show txt ((t.drop 0).take (HT.sIx (txt t).length (txt t).length (some (n : Int)) - 0)) = _
  rw [HT.sIx_nat, txt_len, Nat.min_eq_left h, Nat.sub_zero, List.drop_zero]
theorem strs_txt (xs : List Str) : xs.map V.str = (xs.map fun x => x.cps.toList).map txtV := by
  rw [List.map_map]
  exact List.map_congr_left fun x _ => by show V.str x = .str (txt x.cps.toList); rw [txt_self]
theorem blk_not {p : Nat → Bool} (h : (BLK.cps.toList.all fun c => !p c) = true) : ∀ c, inS BLK c = true → p c = false := fun c hc => by
  have q : c ∈ BLK.cps.toList := of_decide_eq_true hc
  have := List.all_eq_true.mp h c q
  simpa using this
theorem shaped_out (o : Option Nat) : SeqAt.shaped (outD o) = true := by
  cases o with
  | none => decide
  | some p => exact shaped_list (by simp [PyData.canLayAll0, PyData.canLay0]) (by simp [PyData.depthAll, PyData.depth])
theorem eqv_out (o : Option Nat) : PyData.eqv (outD o) (outD o) = true := SeqAt.eqv_refl _ (SeqAt.canLay_of_shaped (shaped_out o))
section
variable {P : Program} {w : World} {K : PySem.W.Frag} {mg : Str → Option Value} {base : Heap}
theorem ok_law (T : Tx K mg) : FnG P w K mg base 10 T.a_law T.fd_law ["_law_script"] (spLaw K) := by
  refine FnG.of T.F_law sc_law (fun vs H Q E h => ?_) (fun cdv A outer st H vs Q E hg hr h => ?_)
  · obtain ⟨a, ns, rfl, _⟩ := h
    rfl
  obtain ⟨a0, ns0, rfl, hS0, hl0, k⟩ := h
  have G_law_source : FnOk P w K mg base CX0 1 T.a_law_source T.fd_law_source ["_law_script"] (spSource K) := ok_source T
  have G_law_pick : FnOk P w K mg base CX0 1 T.a_law_pick T.fd_law_pick ["_law_source_here", "_law_many"] spPick := ok_pick T
  have G_law_rules : FnOk P w K mg base CX0 1 T.a_law_rules T.fd_law_rules [] spRules := ok_rules T
  have G_law_drawn_signs : FnOk P w K mg base CX0 3 T.a_law_drawn_signs T.fd_law_drawn_signs ["_law_source_here", "_law_rules_here", "_law_form"] spDrawn := ok_drawn_signs T
  have G_law_spoilt_signs : FnOk P w K mg base CX0 3 T.a_law_spoilt_signs T.fd_law_spoilt_signs ["_law_source_here", "_law_signs"] spSpoilt := ok_spoilt_signs T
  have G_law_spaced : FnOk P w K mg base CX0 3 T.a_law_spaced T.fd_law_spaced ["_law_source_here", "_law_signs"] spSpaced := ok_spaced T
  have G_law_wrong_place : FnOk P w K mg base CX0 3 T.a_law_wrong_place T.fd_law_wrong_place ["_law_rules_here", "_law_text", "_law_form"] spWrongPl := ok_wrong_place8 T
  have G_law_told : FnOk P w K mg base CX0 8 T.a_law_told T.fd_law_told ["_law_text"] spTold8 := ok_told8 T
  have G_law_hand_right : FnOk P w K mg base CX0 9 T.a_law_hand_right T.fd_law_hand_right ["_law_rules_here"] spHand := ok_hand8 T
  have hr_law_source : Room 1 _ := hr.mono (by decide)
  have hr_law_pick : Room 1 _ := hr.mono (by decide)
  have hr_law_rules : Room 1 _ := hr.mono (by decide)
  have hr_law_drawn_signs : Room 3 _ := hr.mono (by decide)
  have hr_law_spoilt_signs : Room 3 _ := hr.mono (by decide)
  have hr_law_spaced : Room 3 _ := hr.mono (by decide)
  have hr_law_wrong_place : Room 3 _ := hr.mono (by decide)
  have hr_law_told : Room 8 _ := hr.mono (by decide)
  have hr_law_hand_right : Room 9 _ := hr.mono (by decide)
  refine ⟨_, ((pss_cons (ps_set (i := 1) sc_law.nd rfl (Or.inl rfl) (pe_call G_law_source hr_law_source rfl T.m_law_source T.F_law_source.kp T.b_law_source .nil pass0 (pa_cons (pv 0) pa_nil)))
      (pss_cons (ps_set (i := 2) sc_law.nd rfl (Or.inl rfl) (pe_call0 G_law_rules hr_law_rules rfl T.m_law_rules T.F_law_rules.kp T.b_law_rules .nil pass0))
      (pss_cons (ps_for PassesOwn.never rfl (pi_range1 rfl T.n_range (pa_cons pe_int pa_nil)) (pg_name (i := 3) sc_law.nd rfl (Or.inl rfl))
        (pss_cons (ps_set (i := 4) sc_law.nd rfl (Or.inl rfl) (pe_call G_law_drawn_signs hr_law_drawn_signs rfl T.m_law_drawn_signs T.F_law_drawn_signs.kp T.b_law_drawn_signs .nil pass0 (pa_cons (pv 1) (pa_cons (pv 2) (pa_cons pe_str pa_nil)))))
      (pss_cons (ps_for PassesOwn.never rfl (pi_range1 rfl T.n_range (pa_cons (pe_call G_law_pick hr_law_pick rfl T.m_law_pick T.F_law_pick.kp T.b_law_pick .nil pass0 (pa_cons (pv 1) (pa_cons pe_int pa_nil))) pa_nil)) (pg_name (i := 5) sc_law.nd rfl (Or.inl rfl))
        (pss_one (ps_set (i := 4) sc_law.nd rfl (Or.inl rfl) (pe_ifExp (pt_cmpR (op_neE hr.units) (pv 4) (pe_lst pa_nil) (nomark _)) (pe_call G_law_spoilt_signs hr_law_spoilt_signs rfl T.m_law_spoilt_signs T.F_law_spoilt_signs.kp T.b_law_spoilt_signs .nil pass0 (pa_cons (pv 1) (pa_cons (pv 4) pa_nil))) (pe_lst pa_nil)))))
      (pss_cons (ps_set (i := 6) sc_law.nd rfl (Or.inl rfl) (pe_call G_law_spaced hr_law_spaced rfl T.m_law_spaced T.F_law_spaced.kp T.b_law_spaced .nil pass0 (pa_cons (pv 1) (pa_cons (pv 4) pa_nil))))
      (pss_one (ps_for PassesOwn.never rfl (pi_list (pe_lst (pa_cons (pe_callB call_len_str (by rfl) T.n_len (by decide +kernel) (pa_cons (pv 6) pa_nil)) (pa_cons (pe_call G_law_pick hr_law_pick rfl T.m_law_pick T.F_law_pick.kp T.b_law_pick .nil pass0 (pa_cons (pv 1) (pa_cons (pe_op op_add (pe_callB call_len_str (by rfl) T.n_len (by decide +kernel) (pa_cons (pv 6) pa_nil)) pe_int) pa_nil))) pa_nil)))) (pg_name (i := 7) sc_law.nd rfl (Or.inl rfl))
        (pss_cons (ps_set (i := 8) sc_law.nd rfl (Or.inl rfl) (pe_call G_law_wrong_place hr_law_wrong_place rfl T.m_law_wrong_place T.F_law_wrong_place.kp T.b_law_wrong_place .nil pass0 (pa_cons (pv 2) (pa_cons (pe_slice sl_str (pv 6) po_none (po_some (pv 7))) (pa_cons pe_str pa_nil)))))
      (pss_one (ps_for PassesOwn.never rfl (pi_range1 rfl T.n_range (pa_cons pe_int pa_nil)) (pg_name (i := 5) sc_law.nd rfl (Or.inl rfl))
        (pss_one (ps_if (pt_cmpR (op_neD hr.units) (pe_call G_law_told hr_law_told rfl T.m_law_told T.F_law_told.kp T.b_law_told .nil pass0 (pa_cons (pe_slice sl_str (pv 6) po_none (po_some (pv 7))) pa_nil)) (pv 8) (nomark _))
        (pss_one (ps_ret pe_bl))
        pss_nil)))))))))))
      (pss_one (ps_ret (pe_call G_law_hand_right hr_law_hand_right rfl T.m_law_hand_right T.F_law_hand_right.kp T.b_law_hand_right .nil pass0 (pa_cons (pv 2) pa_nil)))))))), ?_⟩
  refine ⟨_, rfl, a0, ns0, rfl, hS0, hl0, fun s c H1 s1 hs hc S1 => ?_⟩
  refine ⟨rfl, fun rd H2 s2 hrd RU => ?_⟩
  have ns1 : H1 s ≠ none ∧ H1 c ≠ none := by
    obtain ⟨l, m, t, ns, S⟩ := S1
    exact ⟨by rw [S.hs]; exact (fun z => nomatch z), by rw [S.hc]; exact (fun z => nomatch z)⟩
  have RC := RU.same (cut2_nw (M := H2) ns1.1 ns1.2)
  have S2 := S1.same s2
  refine ⟨_, rfl, by decide, by decide, for_range (lo := 0) (n := 6) (fun i σ M => ∃ v3 v4 v5 v6 v7 v8 : Option V, σ = [some (.ref a0), some (.ref s), some (.ref rd), v3, v4, v5, v6, v7, v8] ∧ Go s c H2 M) ⟨_, _, _, _, _, _, rfl, Go.refl S2⟩ ?_ ?_⟩
  · rintro i σ M hi ⟨v3, v4, v5, v6, v7, v8, rfl, g⟩
    have RM := RC.same (cut2_go g)
    refine ⟨_, rfl, _, rfl, s, c, rd, rfl, g.src, RM, fun b xs M1 g1 hb eb lx sx => ?_⟩
    have nb := (g.src.ne_none hb).2
    refine ⟨_, rfl, s, c, 3, rfl, g1.src, by decide, by decide, fun kk M2 k0 k1 g2 => ?_⟩
    refine ⟨_, rfl, by omega, by omega, ?_⟩
    refine for_range (lo := 0) (n := kk.toNat) (fun j σ N => ∃ (v5 : Option V) (b : Addr) (xs : List Str), σ = [some (.ref a0), some (.ref s), some (.ref rd), some (.int (0 + (i : Nat))), some (.ref b), v5, v6, v7, v8] ∧ Go s c H2 N ∧ b ≠ c ∧ N b = some (.lst (xs.map V.str)) ∧ xs.length ≤ 60 + j ∧ (∀ x ∈ xs, SgS x))
      ⟨_, b, xs, rfl, (g.trans g1).trans g2, nb, g2.lst g1.src eb nb, lx, sx⟩ (fun j σ N hj zz => ?_) (fun σ N zz => ?_)
    · obtain ⟨v5, b, xs, rfl, g3, nb, eb, lx, sx⟩ := zz
      refine ⟨_, rfl, Nat.zero_le _, fun e he => ?_⟩
      have s4 := same_new he (.lst [])
      refine ⟨b, e, _, rfl, rfl, SqL.of (s4 _ _ eb), SqL.of upd_same, _, rfl, ?_⟩
      have g4 := g3.then s4
      have eb4 := s4 _ _ eb
      generalize L2.upd N e (.lst []) = N1 at s4 g4 eb4 ⊢
      cases xs with
      | nil =>
        refine iteF ⟨Nat.zero_le _, fun d hd => ?_⟩
        exact ⟨_, d, [], rfl, g4.then (same_new hd _), (g4.src.ne_none hd).2, upd_same, Nat.zero_le _, fun x hx => (by cases hx)⟩
      | cons x0 xs0 =>
        refine iteT ⟨_, rfl, _, rfl, s, c, b, x0 :: xs0, rfl, g4.src, eb4, nb, Nat.succ_pos _, by omega, sx, fun d zs N2 g5 hd ed lz sz => ?_⟩
        exact ⟨_, d, zs, rfl, g4.trans g5, (g4.src.ne_none hd).2, ed, by omega, sz⟩
    · obtain ⟨v5, b, xs, rfl, g3, nb, eb, lx, sx⟩ := zz
      have k3 : kk.toNat ≤ 2 := by omega
      refine ⟨_, rfl, _, rfl, s, c, b, xs.map (fun x => x.cps.toList), rfl, g3.src, by rw [← strs_txt]; exact eb, nb, by rw [List.length_map]; omega, ?_, fun t M5 g5 lt _ cn _ => ?_⟩
      · intro x hx
        obtain ⟨z, hz, rfl⟩ := List.mem_map.mp hx
        exact (sx z hz).toOkW
      have cnt : ∀ (p : Nat → Bool) (m : Nat), (BLK.cps.toList.all fun c => !p c) = true → (∀ x ∈ xs, x.cps.toList.countP p ≤ m) → t.countP p ≤ m * xs.length := fun p m h1 h2 => by
        have := cn p m (blk_not h1) (fun x hx => by
          obtain ⟨z, hz, rfl⟩ := List.mem_map.mp hx
          exact h2 z hz)
        rw [List.length_map] at this
        exact this
      have cd := cnt (inS DIG) 3 (by decide +kernel) (fun x hx => (sx x hx).d3)
      have cc := cnt (fun c => decide (c = 44)) 1 (by decide +kernel) (fun x hx => (sx x hx).c1)
      have cs := cnt (fun c => decide (c = 59)) 1 (by decide +kernel) (fun x hx => (sx x hx).s1)
      have shrt : ∀ n, Shrt (txt (t.take n)) := fun n => shrt_of (List.take_sublist n t) (by omega) (by omega) (by omega) (by omega)
      have g6 := g3.trans g5
      have ltx : (txt t).length ≤ 100000 := by rw [txt_len]; omega
      refine ⟨_, rfl, _, rfl, sz6 ltx, _, rfl, _, rfl, _, rfl, sz6 ltx, _, _, rfl, rfl, s, c, _, rfl, g6.src, by rw [txt_len]; omega, by rw [txt_len]; omega, fun k2 M6 k20 k21 g7 => ?_⟩
      have g8 := g6.trans g7
      refine ⟨by show 2 ≤ sizeLine; decide, fun L hL => ?_⟩
      have nL := g8.src.ne_none hL
      have s8 := same_new hL (.lst [.int ((txt t).length : Nat), .int k2])
      have eL := upd_same (H := M6) (a := L) (o := HO.lst [.int ((txt t).length : Nat), .int k2])
      have g9 := g8.then s8
      generalize L2.upd M6 L (.lst [.int ((txt t).length : Nat), .int k2]) = M7 at s8 eL g9 ⊢
      refine ⟨L, rfl, ⟨_, SqL.of eL⟩, for_list (K := K) (a := L) (xs := [.int ((txt t).length : Nat), .int k2]) (fun j σ N => ∃ v5 v7 v8 : Option V, σ = [some (.ref a0), some (.ref s), some (.ref rd), some (.int (0 + (i : Nat))), some (.ref b), v5, some (txtV t), v7, v8] ∧ Go s c M7 N)
        ⟨_, _, _, rfl, Go.refl g9.src⟩ (fun j σ N _ ⟨_, _, _, _, g⟩ => SqL.of (g.lst g9.src eL nL.2)) ?_ ?_⟩
      · rintro j v σ N hv ⟨v5, v7, v8, rfl, gN⟩
        obtain ⟨n, rfl, hn⟩ : ∃ n : Nat, v = .int (n : Nat) ∧ n ≤ t.length := by
          have hm := List.mem_of_getElem? hv
          simp only [List.mem_cons, List.not_mem_nil, or_false] at hm
          rcases hm with rfl | rfl
          · exact ⟨t.length, by rw [txt_len], Nat.le_refl _⟩
          · rw [txt_len] at k21
            exact ⟨k2.toNat, by rw [Int.toNat_of_nonneg k20], by omega⟩
        have sh := shrt n
        obtain ⟨n2, out, au⟩ := au_all (t.take n)
        have RN := ((RC.same (cut2_go (g9.trans gN))).same cut2_same)
        have lz : (txt (t.take n)).length ≤ 100000 := by have := sh.l; omega
        refine ⟨_, rfl, _, rfl, _, rfl, _, rfl, txt t, rfl, sz6 ltx, ?_⟩
        rw [cut_txt t hn]
        refine ⟨rd, txt (t.take n), n2, out, rfl, RN, lz, au, fun d M8 s10 hd ed => ?_⟩
        refine ⟨_, rfl, by decide, by decide, for_range (lo := 0) (n := 2) (fun i3 σ R => ∃ v5 : Option V, σ = [some (.ref a0), some (.ref s), some (.ref rd), some (.int (0 + (i : Nat))), some (.ref b), v5, some (txtV t), some (.int (n : Nat)), some (.ref d)] ∧ Same M8 R)
          ⟨_, rfl, Same.refl _⟩ ?_ ?_⟩
        · rintro i3 σ R hi3 ⟨v5, rfl, sR⟩
          refine ⟨_, rfl, _, rfl, _, rfl, txt t, rfl, sz6 ltx, ?_⟩
          rw [cut_txt t hn]
          refine ⟨_, rfl, sh, fun out' m b9 R1 au1 s11 hb9 eb9 => ?_⟩
          cases (Au.uniq au1 au)
          refine ⟨_, rfl, outD out, outD out, out_dp eb9, out_dp (s11 _ _ (sR _ _ ed)), shaped_out out, shaped_out out, _, rfl, ?_⟩
          rw [eqv_out]
          exact iteF ⟨_, rfl, sR.trans s11⟩
        · rintro σ R ⟨v5, rfl, sR⟩
          exact ⟨_, _, _, rfl, gN.then (s10.trans sR)⟩
      · rintro σ N ⟨v5, v7, v8, rfl, gN⟩
        exact ⟨_, _, _, _, _, _, rfl, g9.trans gN⟩
  · rintro σ M ⟨v3, v4, v5, v6, v7, v8, rfl, g⟩
    exact ⟨_, rfl, rd, rfl, (RC.same (cut2_go g)).same cut2_same, fun H' => k H'⟩
end
end My

namespace My
open PySem PySem.Spec PyProof.Rows L2
theorem tx_mk {K : PySem.W.Frag} {h : Heap} {mg : Str → Option Value} (X : K.In h) (G : h.Ns mainGlobals mg)
    {fa f_wall f_is_word f_is_integer f_wrong_goods f_wrong_barters f_wrong_barter f_wrong_row f_is_mixed f_scanned f_lexeme_at f_run_end f_read_book f_read_parts f_read_side f_read_part f_wrong_told f_are_parts f_told_row f_law_source f_law_pick f_law_of f_law_spaced f_law_run f_law_is_word f_law_lexeme f_law_wrong_place f_law_rules f_law_drawn_signs f_law_spoilt_signs f_law_told f_law_hand_right f_law : Addr}
    {od_wall an_wall od_is_word an_is_word od_is_integer an_is_integer od_wrong_goods an_wrong_goods od_wrong_barters an_wrong_barters od_wrong_barter an_wrong_barter od_wrong_row an_wrong_row od_is_mixed an_is_mixed od_scanned an_scanned od_lexeme_at an_lexeme_at od_run_end an_run_end od_read_book an_read_book od_read_parts an_read_parts od_read_side an_read_side od_read_part an_read_part od_wrong_told an_wrong_told od_are_parts an_are_parts od_told_row an_told_row od_law_source an_law_source od_law_pick an_law_pick od_law_of an_law_of od_law_spaced an_law_spaced od_law_run an_law_run od_law_is_word an_law_is_word od_law_lexeme an_law_lexeme od_law_wrong_place an_law_wrong_place od_law_rules an_law_rules od_law_drawn_signs an_law_drawn_signs od_law_spoilt_signs an_law_spoilt_signs od_law_told an_law_told od_law_hand_right an_law_hand_right od_law an_law : Option Addr}
    {sl_wall sl_is_word sl_is_integer sl_wrong_goods sl_wrong_barters sl_wrong_barter sl_wrong_row sl_is_mixed sl_scanned sl_lexeme_at sl_run_end sl_read_book sl_read_parts sl_read_side sl_read_part sl_wrong_told sl_are_parts sl_told_row sl_law_source sl_law_pick sl_law_of sl_law_spaced sl_law_run sl_law_is_word sl_law_lexeme sl_law_wrong_place sl_law_rules sl_law_drawn_signs sl_law_spoilt_signs sl_law_told sl_law_hand_right sl_law : Array (Option Value)}
    {oc_wall kV_wall dc_wall pm_wall cd_wall ct_wall oc_is_word kV_is_word dc_is_word pm_is_word cd_is_word ct_is_word oc_is_integer kV_is_integer dc_is_integer pm_is_integer cd_is_integer ct_is_integer oc_wrong_goods kV_wrong_goods dc_wrong_goods pm_wrong_goods cd_wrong_goods ct_wrong_goods oc_wrong_barters kV_wrong_barters dc_wrong_barters pm_wrong_barters cd_wrong_barters ct_wrong_barters oc_wrong_barter kV_wrong_barter dc_wrong_barter pm_wrong_barter cd_wrong_barter ct_wrong_barter oc_wrong_row kV_wrong_row dc_wrong_row pm_wrong_row cd_wrong_row ct_wrong_row oc_is_mixed kV_is_mixed dc_is_mixed pm_is_mixed cd_is_mixed ct_is_mixed oc_scanned kV_scanned dc_scanned pm_scanned cd_scanned ct_scanned oc_lexeme_at kV_lexeme_at dc_lexeme_at pm_lexeme_at cd_lexeme_at ct_lexeme_at oc_run_end kV_run_end dc_run_end pm_run_end cd_run_end ct_run_end oc_read_book kV_read_book dc_read_book pm_read_book cd_read_book ct_read_book oc_read_parts kV_read_parts dc_read_parts pm_read_parts cd_read_parts ct_read_parts oc_read_side kV_read_side dc_read_side pm_read_side cd_read_side ct_read_side oc_read_part kV_read_part dc_read_part pm_read_part cd_read_part ct_read_part oc_wrong_told kV_wrong_told dc_wrong_told pm_wrong_told cd_wrong_told ct_wrong_told oc_are_parts kV_are_parts dc_are_parts pm_are_parts cd_are_parts ct_are_parts oc_told_row kV_told_row dc_told_row pm_told_row cd_told_row ct_told_row oc_law_source kV_law_source dc_law_source pm_law_source cd_law_source ct_law_source oc_law_pick kV_law_pick dc_law_pick pm_law_pick cd_law_pick ct_law_pick oc_law_of kV_law_of dc_law_of pm_law_of cd_law_of ct_law_of oc_law_spaced kV_law_spaced dc_law_spaced pm_law_spaced cd_law_spaced ct_law_spaced oc_law_run kV_law_run dc_law_run pm_law_run cd_law_run ct_law_run oc_law_is_word kV_law_is_word dc_law_is_word pm_law_is_word cd_law_is_word ct_law_is_word oc_law_lexeme kV_law_lexeme dc_law_lexeme pm_law_lexeme cd_law_lexeme ct_law_lexeme oc_law_wrong_place kV_law_wrong_place dc_law_wrong_place pm_law_wrong_place cd_law_wrong_place ct_law_wrong_place oc_law_rules kV_law_rules dc_law_rules pm_law_rules cd_law_rules ct_law_rules oc_law_drawn_signs kV_law_drawn_signs dc_law_drawn_signs pm_law_drawn_signs cd_law_drawn_signs ct_law_drawn_signs oc_law_spoilt_signs kV_law_spoilt_signs dc_law_spoilt_signs pm_law_spoilt_signs cd_law_spoilt_signs ct_law_spoilt_signs oc_law_told kV_law_told dc_law_told pm_law_told cd_law_told ct_law_told oc_law_hand_right kV_law_hand_right dc_law_hand_right pm_law_hand_right cd_law_hand_right ct_law_hand_right oc_law kV_law dc_law pm_law cd_law ct_law : Value}
    {C_Book : Addr}
    {C_Reader : Addr}
    {f_Book_init : Addr} {od_Book_init an_Book_init : Option Addr} {sl_Book_init : Array (Option Value)} {oc_Book_init kV_Book_init dc_Book_init pm_Book_init cd_Book_init ct_Book_init : Value}
    {f_Book_names : Addr} {od_Book_names an_Book_names : Option Addr} {sl_Book_names : Array (Option Value)} {oc_Book_names kV_Book_names dc_Book_names pm_Book_names cd_Book_names ct_Book_names : Value}
    {f_Reader_init : Addr} {od_Reader_init an_Reader_init : Option Addr} {sl_Reader_init : Array (Option Value)} {oc_Reader_init kV_Reader_init dc_Reader_init pm_Reader_init cd_Reader_init ct_Reader_init : Value}
    {f_Reader_sees : Addr} {od_Reader_sees an_Reader_sees : Option Addr} {sl_Reader_sees : Array (Option Value)} {oc_Reader_sees kV_Reader_sees dc_Reader_sees pm_Reader_sees cd_Reader_sees ct_Reader_sees : Value}
    {f_Reader_take : Addr} {od_Reader_take an_Reader_take : Option Addr} {sl_Reader_take : Array (Option Value)} {oc_Reader_take kV_Reader_take dc_Reader_take pm_Reader_take cd_Reader_take ct_Reader_take : Value}
    {f_Reader_take_sort : Addr} {od_Reader_take_sort an_Reader_take_sort : Option Addr} {sl_Reader_take_sort : Array (Option Value)} {oc_Reader_take_sort kV_Reader_take_sort dc_Reader_take_sort pm_Reader_take_sort cd_Reader_take_sort ct_Reader_take_sort : Value}
    {f_Reader_take_list : Addr} {od_Reader_take_list an_Reader_take_list : Option Addr} {sl_Reader_take_list : Array (Option Value)} {oc_Reader_take_list kV_Reader_take_list dc_Reader_take_list pm_Reader_take_list cd_Reader_take_list ct_Reader_take_list : Value}
    {f_Reader_take_end : Addr} {od_Reader_take_end an_Reader_take_end : Option Addr} {sl_Reader_take_end : Array (Option Value)} {oc_Reader_take_end kV_Reader_take_end dc_Reader_take_end pm_Reader_take_end cd_Reader_take_end ct_Reader_take_end : Value}
    {f_Reader_wrong_place : Addr} {od_Reader_wrong_place an_Reader_wrong_place : Option Addr} {sl_Reader_wrong_place : Array (Option Value)} {oc_Reader_wrong_place kV_Reader_wrong_place dc_Reader_wrong_place pm_Reader_wrong_place cd_Reader_wrong_place ct_Reader_wrong_place : Value}
    {C_BadText N_BadText fi_BadText CB0_BadText : Addr} {nm_BadText q_BadText : Str} {bs_BadText sub_BadText : List Value} {sn_BadText : List Str} {ab_BadText : Bool} {col_BadText : Option Bool} {dd_BadText odi_BadText ani_BadText : Option Addr} {m0_BadText m1_BadText m2_BadText m3_BadText m5_BadText : Option Value} {sli_BadText : Array (Option Value)} {oci_BadText kVi_BadText dci_BadText pmi_BadText cdi_BadText cti_BadText : Value}
    {C_BadBook N_BadBook fi_BadBook CB0_BadBook : Addr} {nm_BadBook q_BadBook : Str} {bs_BadBook sub_BadBook : List Value} {sn_BadBook : List Str} {ab_BadBook : Bool} {col_BadBook : Option Bool} {dd_BadBook odi_BadBook ani_BadBook : Option Addr} {m0_BadBook m1_BadBook m2_BadBook m3_BadBook m5_BadBook : Option Value} {sli_BadBook : Array (Option Value)} {oci_BadBook kVi_BadBook dci_BadBook pmi_BadBook cdi_BadBook cti_BadBook : Value} (hfa : mg "law" = some (.ref fa))
    (a_wall : PySem.W.nsIn K mainGlobals "_wall" = some (some (.ref f_wall))) (l_wall : K.lookup f_wall = some ⟨oc_wall, od_wall, .func (PySem.W.fnOf "_wall" "_wall" (defArgs s_wall) (defBody s_wall) (defScope s_wall) .none kV_wall dc_wall pm_wall an_wall cd_wall ct_wall), sl_wall⟩) (c_wall : PySem.W.codeIn K cd_wall "_wall" = true) (k_wall : PySem.W.keepIn K (.ref f_wall) = true)
    (a_is_word : PySem.W.nsIn K mainGlobals "is_word" = some (some (.ref f_is_word))) (l_is_word : K.lookup f_is_word = some ⟨oc_is_word, od_is_word, .func (PySem.W.fnOf "is_word" "is_word" (defArgs s_is_word) (defBody s_is_word) (defScope s_is_word) .none kV_is_word dc_is_word pm_is_word an_is_word cd_is_word ct_is_word), sl_is_word⟩) (c_is_word : PySem.W.codeIn K cd_is_word "is_word" = true) (k_is_word : PySem.W.keepIn K (.ref f_is_word) = true)
    (a_is_integer : PySem.W.nsIn K mainGlobals "is_integer" = some (some (.ref f_is_integer))) (l_is_integer : K.lookup f_is_integer = some ⟨oc_is_integer, od_is_integer, .func (PySem.W.fnOf "is_integer" "is_integer" (defArgs s_is_integer) (defBody s_is_integer) (defScope s_is_integer) .none kV_is_integer dc_is_integer pm_is_integer an_is_integer cd_is_integer ct_is_integer), sl_is_integer⟩) (c_is_integer : PySem.W.codeIn K cd_is_integer "is_integer" = true) (k_is_integer : PySem.W.keepIn K (.ref f_is_integer) = true)
    (a_wrong_goods : PySem.W.nsIn K mainGlobals "wrong_goods" = some (some (.ref f_wrong_goods))) (l_wrong_goods : K.lookup f_wrong_goods = some ⟨oc_wrong_goods, od_wrong_goods, .func (PySem.W.fnOf "wrong_goods" "wrong_goods" (defArgs s_wrong_goods) (defBody s_wrong_goods) (defScope s_wrong_goods) .none kV_wrong_goods dc_wrong_goods pm_wrong_goods an_wrong_goods cd_wrong_goods ct_wrong_goods), sl_wrong_goods⟩) (c_wrong_goods : PySem.W.codeIn K cd_wrong_goods "wrong_goods" = true) (k_wrong_goods : PySem.W.keepIn K (.ref f_wrong_goods) = true)
    (a_wrong_barters : PySem.W.nsIn K mainGlobals "wrong_barters" = some (some (.ref f_wrong_barters))) (l_wrong_barters : K.lookup f_wrong_barters = some ⟨oc_wrong_barters, od_wrong_barters, .func (PySem.W.fnOf "wrong_barters" "wrong_barters" (defArgs s_wrong_barters) (defBody s_wrong_barters) (defScope s_wrong_barters) .none kV_wrong_barters dc_wrong_barters pm_wrong_barters an_wrong_barters cd_wrong_barters ct_wrong_barters), sl_wrong_barters⟩) (c_wrong_barters : PySem.W.codeIn K cd_wrong_barters "wrong_barters" = true) (k_wrong_barters : PySem.W.keepIn K (.ref f_wrong_barters) = true)
    (a_wrong_barter : PySem.W.nsIn K mainGlobals "wrong_barter" = some (some (.ref f_wrong_barter))) (l_wrong_barter : K.lookup f_wrong_barter = some ⟨oc_wrong_barter, od_wrong_barter, .func (PySem.W.fnOf "wrong_barter" "wrong_barter" (defArgs s_wrong_barter) (defBody s_wrong_barter) (defScope s_wrong_barter) .none kV_wrong_barter dc_wrong_barter pm_wrong_barter an_wrong_barter cd_wrong_barter ct_wrong_barter), sl_wrong_barter⟩) (c_wrong_barter : PySem.W.codeIn K cd_wrong_barter "wrong_barter" = true) (k_wrong_barter : PySem.W.keepIn K (.ref f_wrong_barter) = true)
    (a_wrong_row : PySem.W.nsIn K mainGlobals "wrong_row" = some (some (.ref f_wrong_row))) (l_wrong_row : K.lookup f_wrong_row = some ⟨oc_wrong_row, od_wrong_row, .func (PySem.W.fnOf "wrong_row" "wrong_row" (defArgs s_wrong_row) (defBody s_wrong_row) (defScope s_wrong_row) .none kV_wrong_row dc_wrong_row pm_wrong_row an_wrong_row cd_wrong_row ct_wrong_row), sl_wrong_row⟩) (c_wrong_row : PySem.W.codeIn K cd_wrong_row "wrong_row" = true) (k_wrong_row : PySem.W.keepIn K (.ref f_wrong_row) = true)
    (a_is_mixed : PySem.W.nsIn K mainGlobals "is_mixed" = some (some (.ref f_is_mixed))) (l_is_mixed : K.lookup f_is_mixed = some ⟨oc_is_mixed, od_is_mixed, .func (PySem.W.fnOf "is_mixed" "is_mixed" (defArgs s_is_mixed) (defBody s_is_mixed) (defScope s_is_mixed) .none kV_is_mixed dc_is_mixed pm_is_mixed an_is_mixed cd_is_mixed ct_is_mixed), sl_is_mixed⟩) (c_is_mixed : PySem.W.codeIn K cd_is_mixed "is_mixed" = true) (k_is_mixed : PySem.W.keepIn K (.ref f_is_mixed) = true)
    (a_scanned : PySem.W.nsIn K mainGlobals "scanned" = some (some (.ref f_scanned))) (l_scanned : K.lookup f_scanned = some ⟨oc_scanned, od_scanned, .func (PySem.W.fnOf "scanned" "scanned" (defArgs s_scanned) (defBody s_scanned) (defScope s_scanned) .none kV_scanned dc_scanned pm_scanned an_scanned cd_scanned ct_scanned), sl_scanned⟩) (c_scanned : PySem.W.codeIn K cd_scanned "scanned" = true) (k_scanned : PySem.W.keepIn K (.ref f_scanned) = true)
    (a_lexeme_at : PySem.W.nsIn K mainGlobals "lexeme_at" = some (some (.ref f_lexeme_at))) (l_lexeme_at : K.lookup f_lexeme_at = some ⟨oc_lexeme_at, od_lexeme_at, .func (PySem.W.fnOf "lexeme_at" "lexeme_at" (defArgs s_lexeme_at) (defBody s_lexeme_at) (defScope s_lexeme_at) .none kV_lexeme_at dc_lexeme_at pm_lexeme_at an_lexeme_at cd_lexeme_at ct_lexeme_at), sl_lexeme_at⟩) (c_lexeme_at : PySem.W.codeIn K cd_lexeme_at "lexeme_at" = true) (k_lexeme_at : PySem.W.keepIn K (.ref f_lexeme_at) = true)
    (a_run_end : PySem.W.nsIn K mainGlobals "run_end" = some (some (.ref f_run_end))) (l_run_end : K.lookup f_run_end = some ⟨oc_run_end, od_run_end, .func (PySem.W.fnOf "run_end" "run_end" (defArgs s_run_end) (defBody s_run_end) (defScope s_run_end) .none kV_run_end dc_run_end pm_run_end an_run_end cd_run_end ct_run_end), sl_run_end⟩) (c_run_end : PySem.W.codeIn K cd_run_end "run_end" = true) (k_run_end : PySem.W.keepIn K (.ref f_run_end) = true)
    (a_read_book : PySem.W.nsIn K mainGlobals "read_book" = some (some (.ref f_read_book))) (l_read_book : K.lookup f_read_book = some ⟨oc_read_book, od_read_book, .func (PySem.W.fnOf "read_book" "read_book" (defArgs s_read_book) (defBody s_read_book) (defScope s_read_book) .none kV_read_book dc_read_book pm_read_book an_read_book cd_read_book ct_read_book), sl_read_book⟩) (c_read_book : PySem.W.codeIn K cd_read_book "read_book" = true) (k_read_book : PySem.W.keepIn K (.ref f_read_book) = true)
    (a_read_parts : PySem.W.nsIn K mainGlobals "read_parts" = some (some (.ref f_read_parts))) (l_read_parts : K.lookup f_read_parts = some ⟨oc_read_parts, od_read_parts, .func (PySem.W.fnOf "read_parts" "read_parts" (defArgs s_read_parts) (defBody s_read_parts) (defScope s_read_parts) .none kV_read_parts dc_read_parts pm_read_parts an_read_parts cd_read_parts ct_read_parts), sl_read_parts⟩) (c_read_parts : PySem.W.codeIn K cd_read_parts "read_parts" = true) (k_read_parts : PySem.W.keepIn K (.ref f_read_parts) = true)
    (a_read_side : PySem.W.nsIn K mainGlobals "read_side" = some (some (.ref f_read_side))) (l_read_side : K.lookup f_read_side = some ⟨oc_read_side, od_read_side, .func (PySem.W.fnOf "read_side" "read_side" (defArgs s_read_side) (defBody s_read_side) (defScope s_read_side) .none kV_read_side dc_read_side pm_read_side an_read_side cd_read_side ct_read_side), sl_read_side⟩) (c_read_side : PySem.W.codeIn K cd_read_side "read_side" = true) (k_read_side : PySem.W.keepIn K (.ref f_read_side) = true)
    (a_read_part : PySem.W.nsIn K mainGlobals "read_part" = some (some (.ref f_read_part))) (l_read_part : K.lookup f_read_part = some ⟨oc_read_part, od_read_part, .func (PySem.W.fnOf "read_part" "read_part" (defArgs s_read_part) (defBody s_read_part) (defScope s_read_part) .none kV_read_part dc_read_part pm_read_part an_read_part cd_read_part ct_read_part), sl_read_part⟩) (c_read_part : PySem.W.codeIn K cd_read_part "read_part" = true) (k_read_part : PySem.W.keepIn K (.ref f_read_part) = true)
    (a_wrong_told : PySem.W.nsIn K mainGlobals "wrong_told" = some (some (.ref f_wrong_told))) (l_wrong_told : K.lookup f_wrong_told = some ⟨oc_wrong_told, od_wrong_told, .func (PySem.W.fnOf "wrong_told" "wrong_told" (defArgs s_wrong_told) (defBody s_wrong_told) (defScope s_wrong_told) .none kV_wrong_told dc_wrong_told pm_wrong_told an_wrong_told cd_wrong_told ct_wrong_told), sl_wrong_told⟩) (c_wrong_told : PySem.W.codeIn K cd_wrong_told "wrong_told" = true) (k_wrong_told : PySem.W.keepIn K (.ref f_wrong_told) = true)
    (a_are_parts : PySem.W.nsIn K mainGlobals "are_parts" = some (some (.ref f_are_parts))) (l_are_parts : K.lookup f_are_parts = some ⟨oc_are_parts, od_are_parts, .func (PySem.W.fnOf "are_parts" "are_parts" (defArgs s_are_parts) (defBody s_are_parts) (defScope s_are_parts) .none kV_are_parts dc_are_parts pm_are_parts an_are_parts cd_are_parts ct_are_parts), sl_are_parts⟩) (c_are_parts : PySem.W.codeIn K cd_are_parts "are_parts" = true) (k_are_parts : PySem.W.keepIn K (.ref f_are_parts) = true)
    (a_told_row : PySem.W.nsIn K mainGlobals "told_row" = some (some (.ref f_told_row))) (l_told_row : K.lookup f_told_row = some ⟨oc_told_row, od_told_row, .func (PySem.W.fnOf "told_row" "told_row" (defArgs s_told_row) (defBody s_told_row) (defScope s_told_row) .none kV_told_row dc_told_row pm_told_row an_told_row cd_told_row ct_told_row), sl_told_row⟩) (c_told_row : PySem.W.codeIn K cd_told_row "told_row" = true) (k_told_row : PySem.W.keepIn K (.ref f_told_row) = true)
    (a_law_source : PySem.W.nsIn K mainGlobals "_law_source" = some (some (.ref f_law_source))) (l_law_source : K.lookup f_law_source = some ⟨oc_law_source, od_law_source, .func (PySem.W.fnOf "_law_source" "_law_source" (defArgs s_law_source) (defBody s_law_source) (defScope s_law_source) .none kV_law_source dc_law_source pm_law_source an_law_source cd_law_source ct_law_source), sl_law_source⟩) (c_law_source : PySem.W.codeIn K cd_law_source "_law_source" = true) (k_law_source : PySem.W.keepIn K (.ref f_law_source) = true)
    (a_law_pick : PySem.W.nsIn K mainGlobals "_law_pick" = some (some (.ref f_law_pick))) (l_law_pick : K.lookup f_law_pick = some ⟨oc_law_pick, od_law_pick, .func (PySem.W.fnOf "_law_pick" "_law_pick" (defArgs s_law_pick) (defBody s_law_pick) (defScope s_law_pick) .none kV_law_pick dc_law_pick pm_law_pick an_law_pick cd_law_pick ct_law_pick), sl_law_pick⟩) (c_law_pick : PySem.W.codeIn K cd_law_pick "_law_pick" = true) (k_law_pick : PySem.W.keepIn K (.ref f_law_pick) = true)
    (a_law_of : PySem.W.nsIn K mainGlobals "_law_of" = some (some (.ref f_law_of))) (l_law_of : K.lookup f_law_of = some ⟨oc_law_of, od_law_of, .func (PySem.W.fnOf "_law_of" "_law_of" (defArgs s_law_of) (defBody s_law_of) (defScope s_law_of) .none kV_law_of dc_law_of pm_law_of an_law_of cd_law_of ct_law_of), sl_law_of⟩) (c_law_of : PySem.W.codeIn K cd_law_of "_law_of" = true) (k_law_of : PySem.W.keepIn K (.ref f_law_of) = true)
    (a_law_spaced : PySem.W.nsIn K mainGlobals "_law_spaced" = some (some (.ref f_law_spaced))) (l_law_spaced : K.lookup f_law_spaced = some ⟨oc_law_spaced, od_law_spaced, .func (PySem.W.fnOf "_law_spaced" "_law_spaced" (defArgs s_law_spaced) (defBody s_law_spaced) (defScope s_law_spaced) .none kV_law_spaced dc_law_spaced pm_law_spaced an_law_spaced cd_law_spaced ct_law_spaced), sl_law_spaced⟩) (c_law_spaced : PySem.W.codeIn K cd_law_spaced "_law_spaced" = true) (k_law_spaced : PySem.W.keepIn K (.ref f_law_spaced) = true)
    (a_law_run : PySem.W.nsIn K mainGlobals "_law_run" = some (some (.ref f_law_run))) (l_law_run : K.lookup f_law_run = some ⟨oc_law_run, od_law_run, .func (PySem.W.fnOf "_law_run" "_law_run" (defArgs s_law_run) (defBody s_law_run) (defScope s_law_run) .none kV_law_run dc_law_run pm_law_run an_law_run cd_law_run ct_law_run), sl_law_run⟩) (c_law_run : PySem.W.codeIn K cd_law_run "_law_run" = true) (k_law_run : PySem.W.keepIn K (.ref f_law_run) = true)
    (a_law_is_word : PySem.W.nsIn K mainGlobals "_law_is_word" = some (some (.ref f_law_is_word))) (l_law_is_word : K.lookup f_law_is_word = some ⟨oc_law_is_word, od_law_is_word, .func (PySem.W.fnOf "_law_is_word" "_law_is_word" (defArgs s_law_is_word) (defBody s_law_is_word) (defScope s_law_is_word) .none kV_law_is_word dc_law_is_word pm_law_is_word an_law_is_word cd_law_is_word ct_law_is_word), sl_law_is_word⟩) (c_law_is_word : PySem.W.codeIn K cd_law_is_word "_law_is_word" = true) (k_law_is_word : PySem.W.keepIn K (.ref f_law_is_word) = true)
    (a_law_lexeme : PySem.W.nsIn K mainGlobals "_law_lexeme" = some (some (.ref f_law_lexeme))) (l_law_lexeme : K.lookup f_law_lexeme = some ⟨oc_law_lexeme, od_law_lexeme, .func (PySem.W.fnOf "_law_lexeme" "_law_lexeme" (defArgs s_law_lexeme) (defBody s_law_lexeme) (defScope s_law_lexeme) .none kV_law_lexeme dc_law_lexeme pm_law_lexeme an_law_lexeme cd_law_lexeme ct_law_lexeme), sl_law_lexeme⟩) (c_law_lexeme : PySem.W.codeIn K cd_law_lexeme "_law_lexeme" = true) (k_law_lexeme : PySem.W.keepIn K (.ref f_law_lexeme) = true)
    (a_law_wrong_place : PySem.W.nsIn K mainGlobals "_law_wrong_place" = some (some (.ref f_law_wrong_place))) (l_law_wrong_place : K.lookup f_law_wrong_place = some ⟨oc_law_wrong_place, od_law_wrong_place, .func (PySem.W.fnOf "_law_wrong_place" "_law_wrong_place" (defArgs s_law_wrong_place) (defBody s_law_wrong_place) (defScope s_law_wrong_place) .none kV_law_wrong_place dc_law_wrong_place pm_law_wrong_place an_law_wrong_place cd_law_wrong_place ct_law_wrong_place), sl_law_wrong_place⟩) (c_law_wrong_place : PySem.W.codeIn K cd_law_wrong_place "_law_wrong_place" = true) (k_law_wrong_place : PySem.W.keepIn K (.ref f_law_wrong_place) = true)
    (a_law_rules : PySem.W.nsIn K mainGlobals "_law_rules" = some (some (.ref f_law_rules))) (l_law_rules : K.lookup f_law_rules = some ⟨oc_law_rules, od_law_rules, .func (PySem.W.fnOf "_law_rules" "_law_rules" (defArgs s_law_rules) (defBody s_law_rules) (defScope s_law_rules) .none kV_law_rules dc_law_rules pm_law_rules an_law_rules cd_law_rules ct_law_rules), sl_law_rules⟩) (c_law_rules : PySem.W.codeIn K cd_law_rules "_law_rules" = true) (k_law_rules : PySem.W.keepIn K (.ref f_law_rules) = true)
    (a_law_drawn_signs : PySem.W.nsIn K mainGlobals "_law_drawn_signs" = some (some (.ref f_law_drawn_signs))) (l_law_drawn_signs : K.lookup f_law_drawn_signs = some ⟨oc_law_drawn_signs, od_law_drawn_signs, .func (PySem.W.fnOf "_law_drawn_signs" "_law_drawn_signs" (defArgs s_law_drawn_signs) (defBody s_law_drawn_signs) (defScope s_law_drawn_signs) .none kV_law_drawn_signs dc_law_drawn_signs pm_law_drawn_signs an_law_drawn_signs cd_law_drawn_signs ct_law_drawn_signs), sl_law_drawn_signs⟩) (c_law_drawn_signs : PySem.W.codeIn K cd_law_drawn_signs "_law_drawn_signs" = true) (k_law_drawn_signs : PySem.W.keepIn K (.ref f_law_drawn_signs) = true)
    (a_law_spoilt_signs : PySem.W.nsIn K mainGlobals "_law_spoilt_signs" = some (some (.ref f_law_spoilt_signs))) (l_law_spoilt_signs : K.lookup f_law_spoilt_signs = some ⟨oc_law_spoilt_signs, od_law_spoilt_signs, .func (PySem.W.fnOf "_law_spoilt_signs" "_law_spoilt_signs" (defArgs s_law_spoilt_signs) (defBody s_law_spoilt_signs) (defScope s_law_spoilt_signs) .none kV_law_spoilt_signs dc_law_spoilt_signs pm_law_spoilt_signs an_law_spoilt_signs cd_law_spoilt_signs ct_law_spoilt_signs), sl_law_spoilt_signs⟩) (c_law_spoilt_signs : PySem.W.codeIn K cd_law_spoilt_signs "_law_spoilt_signs" = true) (k_law_spoilt_signs : PySem.W.keepIn K (.ref f_law_spoilt_signs) = true)
    (a_law_told : PySem.W.nsIn K mainGlobals "_law_told" = some (some (.ref f_law_told))) (l_law_told : K.lookup f_law_told = some ⟨oc_law_told, od_law_told, .func (PySem.W.fnOf "_law_told" "_law_told" (defArgs s_law_told) (defBody s_law_told) (defScope s_law_told) .none kV_law_told dc_law_told pm_law_told an_law_told cd_law_told ct_law_told), sl_law_told⟩) (c_law_told : PySem.W.codeIn K cd_law_told "_law_told" = true) (k_law_told : PySem.W.keepIn K (.ref f_law_told) = true)
    (a_law_hand_right : PySem.W.nsIn K mainGlobals "_law_hand_right" = some (some (.ref f_law_hand_right))) (l_law_hand_right : K.lookup f_law_hand_right = some ⟨oc_law_hand_right, od_law_hand_right, .func (PySem.W.fnOf "_law_hand_right" "_law_hand_right" (defArgs s_law_hand_right) (defBody s_law_hand_right) (defScope s_law_hand_right) .none kV_law_hand_right dc_law_hand_right pm_law_hand_right an_law_hand_right cd_law_hand_right ct_law_hand_right), sl_law_hand_right⟩) (c_law_hand_right : PySem.W.codeIn K cd_law_hand_right "_law_hand_right" = true) (k_law_hand_right : PySem.W.keepIn K (.ref f_law_hand_right) = true)
    (a_law : PySem.W.nsIn K mainGlobals "law" = some (some (.ref f_law))) (l_law : K.lookup f_law = some ⟨oc_law, od_law, .func (PySem.W.fnOf "law" "law" (defArgs s_law) (defBody s_law) (defScope s_law) .none kV_law dc_law pm_law an_law cd_law ct_law), sl_law⟩) (c_law : PySem.W.codeIn K cd_law "law" = true) (k_law : PySem.W.keepIn K (.ref f_law) = true)
    (aC_Book : PySem.W.nsIn K mainGlobals "Book" = some (some (.ref C_Book)))
    (pg_Book : PySem.W.plainGet K C_Book Str.empty = true)
    (hd_Book : PySem.W.hasDictIn K C_Book = true)
    (po_Book : PySem.W.plainOver K C_Book = true)
    (sa_Book : PySem.W.findIn K (.ref C_Book) "__setattr__" = some (some (.builtin "object.__setattr__")))
    (mk_Book : PySem.W.makesIn K C_Book = true)
    (kC_Book : PySem.W.keepIn K (.ref C_Book) = true)
    (na_goods_Book : PySem.W.findIn K (.ref C_Book) "_goods" = some none)
    (na_barters_Book : PySem.W.findIn K (.ref C_Book) "_barters" = some none)
    (na_good_numbers_Book : PySem.W.findIn K (.ref C_Book) "_good_numbers" = some none)
    (na_barter_numbers_Book : PySem.W.findIn K (.ref C_Book) "_barter_numbers" = some none)
    (aC_Reader : PySem.W.nsIn K mainGlobals "Reader" = some (some (.ref C_Reader)))
    (pg_Reader : PySem.W.plainGet K C_Reader Str.empty = true)
    (hd_Reader : PySem.W.hasDictIn K C_Reader = true)
    (po_Reader : PySem.W.plainOver K C_Reader = true)
    (sa_Reader : PySem.W.findIn K (.ref C_Reader) "__setattr__" = some (some (.builtin "object.__setattr__")))
    (mk_Reader : PySem.W.makesIn K C_Reader = true)
    (kC_Reader : PySem.W.keepIn K (.ref C_Reader) = true)
    (na_found_Reader : PySem.W.findIn K (.ref C_Reader) "_found" = some none)
    (na_stop_Reader : PySem.W.findIn K (.ref C_Reader) "_stop" = some none)
    (na_length_Reader : PySem.W.findIn K (.ref C_Reader) "_length" = some none)
    (na_at_Reader : PySem.W.findIn K (.ref C_Reader) "_at" = some none)
    (a_Book_init : PySem.W.findIn K (.ref C_Book) "__init__" = some (some (.ref f_Book_init)))
    (i_Book_init : PySem.W.isFn K (.ref f_Book_init) = true)
    (l_Book_init : K.lookup f_Book_init = some ⟨oc_Book_init, od_Book_init, .func (PySem.W.fnOf "__init__" "Book.__init__" (defArgs s_Book_init) (defBody s_Book_init) (defScope s_Book_init) .none kV_Book_init dc_Book_init pm_Book_init an_Book_init cd_Book_init ct_Book_init), sl_Book_init⟩)
    (c_Book_init : PySem.W.codeIn K cd_Book_init "Book.__init__" = true)
    (k_Book_init : PySem.W.keepIn K (.ref f_Book_init) = true)
    (a_Book_names : PySem.W.findIn K (.ref C_Book) "names" = some (some (.ref f_Book_names)))
    (i_Book_names : PySem.W.isFn K (.ref f_Book_names) = true)
    (l_Book_names : K.lookup f_Book_names = some ⟨oc_Book_names, od_Book_names, .func (PySem.W.fnOf "names" "Book.names" (defArgs s_Book_names) (defBody s_Book_names) (defScope s_Book_names) .none kV_Book_names dc_Book_names pm_Book_names an_Book_names cd_Book_names ct_Book_names), sl_Book_names⟩)
    (c_Book_names : PySem.W.codeIn K cd_Book_names "Book.names" = true)
    (k_Book_names : PySem.W.keepIn K (.ref f_Book_names) = true)
    (a_Reader_init : PySem.W.findIn K (.ref C_Reader) "__init__" = some (some (.ref f_Reader_init)))
    (i_Reader_init : PySem.W.isFn K (.ref f_Reader_init) = true)
    (l_Reader_init : K.lookup f_Reader_init = some ⟨oc_Reader_init, od_Reader_init, .func (PySem.W.fnOf "__init__" "Reader.__init__" (defArgs s_Reader_init) (defBody s_Reader_init) (defScope s_Reader_init) .none kV_Reader_init dc_Reader_init pm_Reader_init an_Reader_init cd_Reader_init ct_Reader_init), sl_Reader_init⟩)
    (c_Reader_init : PySem.W.codeIn K cd_Reader_init "Reader.__init__" = true)
    (k_Reader_init : PySem.W.keepIn K (.ref f_Reader_init) = true)
    (a_Reader_sees : PySem.W.findIn K (.ref C_Reader) "sees" = some (some (.ref f_Reader_sees)))
    (i_Reader_sees : PySem.W.isFn K (.ref f_Reader_sees) = true)
    (l_Reader_sees : K.lookup f_Reader_sees = some ⟨oc_Reader_sees, od_Reader_sees, .func (PySem.W.fnOf "sees" "Reader.sees" (defArgs s_Reader_sees) (defBody s_Reader_sees) (defScope s_Reader_sees) .none kV_Reader_sees dc_Reader_sees pm_Reader_sees an_Reader_sees cd_Reader_sees ct_Reader_sees), sl_Reader_sees⟩)
    (c_Reader_sees : PySem.W.codeIn K cd_Reader_sees "Reader.sees" = true)
    (k_Reader_sees : PySem.W.keepIn K (.ref f_Reader_sees) = true)
    (a_Reader_take : PySem.W.findIn K (.ref C_Reader) "take" = some (some (.ref f_Reader_take)))
    (i_Reader_take : PySem.W.isFn K (.ref f_Reader_take) = true)
    (l_Reader_take : K.lookup f_Reader_take = some ⟨oc_Reader_take, od_Reader_take, .func (PySem.W.fnOf "take" "Reader.take" (defArgs s_Reader_take) (defBody s_Reader_take) (defScope s_Reader_take) .none kV_Reader_take dc_Reader_take pm_Reader_take an_Reader_take cd_Reader_take ct_Reader_take), sl_Reader_take⟩)
    (c_Reader_take : PySem.W.codeIn K cd_Reader_take "Reader.take" = true)
    (k_Reader_take : PySem.W.keepIn K (.ref f_Reader_take) = true)
    (a_Reader_take_sort : PySem.W.findIn K (.ref C_Reader) "take_sort" = some (some (.ref f_Reader_take_sort)))
    (i_Reader_take_sort : PySem.W.isFn K (.ref f_Reader_take_sort) = true)
    (l_Reader_take_sort : K.lookup f_Reader_take_sort = some ⟨oc_Reader_take_sort, od_Reader_take_sort, .func (PySem.W.fnOf "take_sort" "Reader.take_sort" (defArgs s_Reader_take_sort) (defBody s_Reader_take_sort) (defScope s_Reader_take_sort) .none kV_Reader_take_sort dc_Reader_take_sort pm_Reader_take_sort an_Reader_take_sort cd_Reader_take_sort ct_Reader_take_sort), sl_Reader_take_sort⟩)
    (c_Reader_take_sort : PySem.W.codeIn K cd_Reader_take_sort "Reader.take_sort" = true)
    (k_Reader_take_sort : PySem.W.keepIn K (.ref f_Reader_take_sort) = true)
    (a_Reader_take_list : PySem.W.findIn K (.ref C_Reader) "take_list" = some (some (.ref f_Reader_take_list)))
    (i_Reader_take_list : PySem.W.isFn K (.ref f_Reader_take_list) = true)
    (l_Reader_take_list : K.lookup f_Reader_take_list = some ⟨oc_Reader_take_list, od_Reader_take_list, .func (PySem.W.fnOf "take_list" "Reader.take_list" (defArgs s_Reader_take_list) (defBody s_Reader_take_list) (defScope s_Reader_take_list) .none kV_Reader_take_list dc_Reader_take_list pm_Reader_take_list an_Reader_take_list cd_Reader_take_list ct_Reader_take_list), sl_Reader_take_list⟩)
    (c_Reader_take_list : PySem.W.codeIn K cd_Reader_take_list "Reader.take_list" = true)
    (k_Reader_take_list : PySem.W.keepIn K (.ref f_Reader_take_list) = true)
    (a_Reader_take_end : PySem.W.findIn K (.ref C_Reader) "take_end" = some (some (.ref f_Reader_take_end)))
    (i_Reader_take_end : PySem.W.isFn K (.ref f_Reader_take_end) = true)
    (l_Reader_take_end : K.lookup f_Reader_take_end = some ⟨oc_Reader_take_end, od_Reader_take_end, .func (PySem.W.fnOf "take_end" "Reader.take_end" (defArgs s_Reader_take_end) (defBody s_Reader_take_end) (defScope s_Reader_take_end) .none kV_Reader_take_end dc_Reader_take_end pm_Reader_take_end an_Reader_take_end cd_Reader_take_end ct_Reader_take_end), sl_Reader_take_end⟩)
    (c_Reader_take_end : PySem.W.codeIn K cd_Reader_take_end "Reader.take_end" = true)
    (k_Reader_take_end : PySem.W.keepIn K (.ref f_Reader_take_end) = true)
    (a_Reader_wrong_place : PySem.W.findIn K (.ref C_Reader) "wrong_place" = some (some (.ref f_Reader_wrong_place)))
    (i_Reader_wrong_place : PySem.W.isFn K (.ref f_Reader_wrong_place) = true)
    (l_Reader_wrong_place : K.lookup f_Reader_wrong_place = some ⟨oc_Reader_wrong_place, od_Reader_wrong_place, .func (PySem.W.fnOf "wrong_place" "Reader.wrong_place" (defArgs s_Reader_wrong_place) (defBody s_Reader_wrong_place) (defScope s_Reader_wrong_place) .none kV_Reader_wrong_place dc_Reader_wrong_place pm_Reader_wrong_place an_Reader_wrong_place cd_Reader_wrong_place ct_Reader_wrong_place), sl_Reader_wrong_place⟩)
    (c_Reader_wrong_place : PySem.W.codeIn K cd_Reader_wrong_place "Reader.wrong_place" = true)
    (k_Reader_wrong_place : PySem.W.keepIn K (.ref f_Reader_wrong_place) = true)
    (aC_BadText : PySem.W.nsIn K mainGlobals "BadText" = some (some (.ref C_BadText)))
    (xL_BadText : K.lookup C_BadText = some (excClassObj nm_BadText q_BadText C_BadText N_BadText bs_BadText [.ref CB0_BadText, .type "ValueError", .type "Exception", .type "BaseException", .type "object"] true sn_BadText sub_BadText ab_BadText col_BadText dd_BadText m0_BadText m1_BadText m2_BadText m3_BadText m5_BadText "ValueError.__new__"))
    (sa_BadText : PySem.W.findIn K (.ref C_BadText) "__setattr__" = some (some (.builtin "object.__setattr__")))
    (ga_BadText : PySem.W.findIn K (.ref C_BadText) "__getattribute__" = some (some (.builtin "BaseException.__getattribute__")))
    (gg_BadText : PySem.W.findIn K (.ref C_BadText) "__getattr__" = some none)
    (nf_BadText : PySem.W.findIn K (.ref C_BadText) "place" = some none)
    (ai_BadText : PySem.W.findIn K (.ref C_BadText) "__init__" = some (some (.ref fi_BadText)))
    (ti_BadText : PySem.W.typeIn K (.ref fi_BadText) = some (.type "function"))
    (li_BadText : K.lookup fi_BadText = some ⟨oci_BadText, odi_BadText, .func (PySem.W.fnOf "__init__" "BadText.__init__" (defArgs (initOf s_BadText)) (defBody (initOf s_BadText)) (defScope (initOf s_BadText)) .none kVi_BadText dci_BadText pmi_BadText ani_BadText cdi_BadText cti_BadText), sli_BadText⟩)
    (ci_BadText : PySem.W.codeIn K cdi_BadText "BadText.__init__" = true)
    (ki_BadText : PySem.W.keepIn K (.ref fi_BadText) = true)
    (kC_BadText : PySem.W.keepIn K (.ref C_BadText) = true)
    (eC_BadText : PySem.W.subIn K (.ref C_BadText) (.type "BaseException") = some true)
    (tC_BadText : PySem.W.typeIn K (.ref C_BadText) = some (.type "type"))
    (hC_BadText : PySem.W.hasDictIn K C_BadText = true)
    (iC_BadText : PySem.W.isClsIn K C_BadText = true)
    (sC_BadText : PySem.W.subIn K (.ref C_BadText) (.ref C_BadText) = some true)
    (aC_BadBook : PySem.W.nsIn K mainGlobals "BadBook" = some (some (.ref C_BadBook)))
    (xL_BadBook : K.lookup C_BadBook = some (excClassObj nm_BadBook q_BadBook C_BadBook N_BadBook bs_BadBook [.ref CB0_BadBook, .type "ValueError", .type "Exception", .type "BaseException", .type "object"] true sn_BadBook sub_BadBook ab_BadBook col_BadBook dd_BadBook m0_BadBook m1_BadBook m2_BadBook m3_BadBook m5_BadBook "ValueError.__new__"))
    (sa_BadBook : PySem.W.findIn K (.ref C_BadBook) "__setattr__" = some (some (.builtin "object.__setattr__")))
    (ga_BadBook : PySem.W.findIn K (.ref C_BadBook) "__getattribute__" = some (some (.builtin "BaseException.__getattribute__")))
    (gg_BadBook : PySem.W.findIn K (.ref C_BadBook) "__getattr__" = some none)
    (nf_BadBook : PySem.W.findIn K (.ref C_BadBook) "path" = some none)
    (ai_BadBook : PySem.W.findIn K (.ref C_BadBook) "__init__" = some (some (.ref fi_BadBook)))
    (ti_BadBook : PySem.W.typeIn K (.ref fi_BadBook) = some (.type "function"))
    (li_BadBook : K.lookup fi_BadBook = some ⟨oci_BadBook, odi_BadBook, .func (PySem.W.fnOf "__init__" "BadBook.__init__" (defArgs (initOf s_BadBook)) (defBody (initOf s_BadBook)) (defScope (initOf s_BadBook)) .none kVi_BadBook dci_BadBook pmi_BadBook ani_BadBook cdi_BadBook cti_BadBook), sli_BadBook⟩)
    (ci_BadBook : PySem.W.codeIn K cdi_BadBook "BadBook.__init__" = true)
    (ki_BadBook : PySem.W.keepIn K (.ref fi_BadBook) = true)
    (kC_BadBook : PySem.W.keepIn K (.ref C_BadBook) = true)
    (eC_BadBook : PySem.W.subIn K (.ref C_BadBook) (.type "BaseException") = some true)
    (tC_BadBook : PySem.W.typeIn K (.ref C_BadBook) = some (.type "type"))
    (hC_BadBook : PySem.W.hasDictIn K C_BadBook = true)
    (iC_BadBook : PySem.W.isClsIn K C_BadBook = true)
    (sC_BadBook : PySem.W.subIn K (.ref C_BadBook) (.ref C_BadBook) = some true)
    (xs_BadBook_BadText : PySem.W.subIn K (.ref C_BadBook) (.ref C_BadText) = some false)
    {tk_BLANKS : Tok} (zc_BLANKS : PySem.W.nsIn K mainGlobals "BLANKS" = some (some (.str " \n" tk_BLANKS)))
    {tk_DIGITS : Tok} (zc_DIGITS : PySem.W.nsIn K mainGlobals "DIGITS" = some (some (.str "0123456789" tk_DIGITS)))
    {tk_LETTERS : Tok} (zc_LETTERS : PySem.W.nsIn K mainGlobals "LETTERS" = some (some (.str "abcdefghijklmnopqrstuvwxyz" tk_LETTERS)))
    {tk_LONGEST_WORD : Tok} (zc_LONGEST_WORD : PySem.W.nsIn K mainGlobals "LONGEST_WORD" = some (some (.int 12 tk_LONGEST_WORD)))
    {tk_SIGNS : Tok} (zc_SIGNS : PySem.W.nsIn K mainGlobals "SIGNS" = some (some (.str "(){},;" tk_SIGNS)))
    (zn_abs : PySem.W.nsIn K mainGlobals "abs" = some none)
    (zn_all : PySem.W.nsIn K mainGlobals "all" = some none)
    (zn_any : PySem.W.nsIn K mainGlobals "any" = some none)
    (zn_bool : PySem.W.nsIn K mainGlobals "bool" = some none)
    (zn_enumerate : PySem.W.nsIn K mainGlobals "enumerate" = some none)
    (zn_int : PySem.W.nsIn K mainGlobals "int" = some none)
    (zn_isinstance : PySem.W.nsIn K mainGlobals "isinstance" = some none)
    (zn_len : PySem.W.nsIn K mainGlobals "len" = some none)
    (zn_list : PySem.W.nsIn K mainGlobals "list" = some none)
    (zn_max : PySem.W.nsIn K mainGlobals "max" = some none)
    (zn_range : PySem.W.nsIn K mainGlobals "range" = some none)
    (zn_str : PySem.W.nsIn K mainGlobals "str" = some none)
    (zn_tuple : PySem.W.nsIn K mainGlobals "tuple" = some none) :
    ∃ T : Tx K mg, T.a_law = fa ∧ (∀ (s : Shared) (v : Value), BindsTo s T.fd_law ⟨[v], []⟩ [("_law_script", v)]) := by
  have e := hfa.symm.trans (PySem.W.mg_of X G a_law)
  cases e
  have F_wall := fun_mk (st := s_wall) l_wall c_wall k_wall
  have b_wall := F_wall.binds (ps := ["k"]) fun _ _ _ _ _ _ us hl => match us, hl with | [_], _ => rfl
  have F_is_word := fun_mk (st := s_is_word) l_is_word c_is_word k_is_word
  have b_is_word := F_is_word.binds (ps := ["value"]) fun _ _ _ _ _ _ us hl => match us, hl with | [_], _ => rfl
  have F_is_integer := fun_mk (st := s_is_integer) l_is_integer c_is_integer k_is_integer
  have b_is_integer := F_is_integer.binds (ps := ["value"]) fun _ _ _ _ _ _ us hl => match us, hl with | [_], _ => rfl
  have F_wrong_goods := fun_mk (st := s_wrong_goods) l_wrong_goods c_wrong_goods k_wrong_goods
  have b_wrong_goods := F_wrong_goods.binds (ps := ["goods"]) fun _ _ _ _ _ _ us hl => match us, hl with | [_], _ => rfl
  have F_wrong_barters := fun_mk (st := s_wrong_barters) l_wrong_barters c_wrong_barters k_wrong_barters
  have b_wrong_barters := F_wrong_barters.binds (ps := ["barters", "many"]) fun _ _ _ _ _ _ us hl => match us, hl with | [_, _], _ => rfl
  have F_wrong_barter := fun_mk (st := s_wrong_barter) l_wrong_barter c_wrong_barter k_wrong_barter
  have b_wrong_barter := F_wrong_barter.binds (ps := ["barter", "told", "many"]) fun _ _ _ _ _ _ us hl => match us, hl with | [_, _, _], _ => rfl
  have F_wrong_row := fun_mk (st := s_wrong_row) l_wrong_row c_wrong_row k_wrong_row
  have b_wrong_row := F_wrong_row.binds (ps := ["row", "many"]) fun _ _ _ _ _ _ us hl => match us, hl with | [_, _], _ => rfl
  have F_is_mixed := fun_mk (st := s_is_mixed) l_is_mixed c_is_mixed k_is_mixed
  have b_is_mixed := F_is_mixed.binds (ps := ["entries"]) fun _ _ _ _ _ _ us hl => match us, hl with | [_], _ => rfl
  have F_scanned := fun_mk (st := s_scanned) l_scanned c_scanned k_scanned
  have b_scanned := F_scanned.binds (ps := ["text"]) fun _ _ _ _ _ _ us hl => match us, hl with | [_], _ => rfl
  have F_lexeme_at := fun_mk (st := s_lexeme_at) l_lexeme_at c_lexeme_at k_lexeme_at
  have b_lexeme_at := F_lexeme_at.binds (ps := ["text", "place"]) fun _ _ _ _ _ _ us hl => match us, hl with | [_, _], _ => rfl
  have F_run_end := fun_mk (st := s_run_end) l_run_end c_run_end k_run_end
  have b_run_end := F_run_end.binds (ps := ["text", "place", "signs"]) fun _ _ _ _ _ _ us hl => match us, hl with | [_, _, _], _ => rfl
  have F_read_book := fun_mk (st := s_read_book) l_read_book c_read_book k_read_book
  have b_read_book := F_read_book.binds (ps := ["text"]) fun _ _ _ _ _ _ us hl => match us, hl with | [_], _ => rfl
  have F_read_parts := fun_mk (st := s_read_parts) l_read_parts c_read_parts k_read_parts
  have b_read_parts := F_read_parts.binds (ps := ["reader"]) fun _ _ _ _ _ _ us hl => match us, hl with | [_], _ => rfl
  have F_read_side := fun_mk (st := s_read_side) l_read_side c_read_side k_read_side
  have b_read_side := F_read_side.binds (ps := ["reader"]) fun _ _ _ _ _ _ us hl => match us, hl with | [_], _ => rfl
  have F_read_part := fun_mk (st := s_read_part) l_read_part c_read_part k_read_part
  have b_read_part := F_read_part.binds (ps := ["reader"]) fun _ _ _ _ _ _ us hl => match us, hl with | [_], _ => rfl
  have F_wrong_told := fun_mk (st := s_wrong_told) l_wrong_told c_wrong_told k_wrong_told
  have b_wrong_told := F_wrong_told.binds (ps := ["goods", "told"]) fun _ _ _ _ _ _ us hl => match us, hl with | [_, _], _ => rfl
  have F_are_parts := fun_mk (st := s_are_parts) l_are_parts c_are_parts k_are_parts
  have b_are_parts := F_are_parts.binds (ps := ["known", "parts"]) fun _ _ _ _ _ _ us hl => match us, hl with | [_, _], _ => rfl
  have F_told_row := fun_mk (st := s_told_row) l_told_row c_told_row k_told_row
  have b_told_row := F_told_row.binds (ps := ["numbers", "taken", "given"]) fun _ _ _ _ _ _ us hl => match us, hl with | [_, _, _], _ => rfl
  have F_law_source := fun_mk (st := s_law_source) l_law_source c_law_source k_law_source
  have b_law_source := F_law_source.binds (ps := ["_law_script"]) fun _ _ _ _ _ _ us hl => match us, hl with | [_], _ => rfl
  have F_law_pick := fun_mk (st := s_law_pick) l_law_pick c_law_pick k_law_pick
  have b_law_pick := F_law_pick.binds (ps := ["_law_source_here", "_law_many"]) fun _ _ _ _ _ _ us hl => match us, hl with | [_, _], _ => rfl
  have F_law_of := fun_mk (st := s_law_of) l_law_of c_law_of k_law_of
  have b_law_of := F_law_of.binds (ps := ["_law_source_here", "_law_some"]) fun _ _ _ _ _ _ us hl => match us, hl with | [_, _], _ => rfl
  have F_law_spaced := fun_mk (st := s_law_spaced) l_law_spaced c_law_spaced k_law_spaced
  have b_law_spaced := F_law_spaced.binds (ps := ["_law_source_here", "_law_signs"]) fun _ _ _ _ _ _ us hl => match us, hl with | [_, _], _ => rfl
  have F_law_run := fun_mk (st := s_law_run) l_law_run c_law_run k_law_run
  have b_law_run := F_law_run.binds (ps := ["_law_text", "_law_place", "_law_signs"]) fun _ _ _ _ _ _ us hl => match us, hl with | [_, _, _], _ => rfl
  have F_law_is_word := fun_mk (st := s_law_is_word) l_law_is_word c_law_is_word k_law_is_word
  have b_law_is_word := F_law_is_word.binds (ps := ["_law_value"]) fun _ _ _ _ _ _ us hl => match us, hl with | [_], _ => rfl
  have F_law_lexeme := fun_mk (st := s_law_lexeme) l_law_lexeme c_law_lexeme k_law_lexeme
  have b_law_lexeme := F_law_lexeme.binds (ps := ["_law_text", "_law_place"]) fun _ _ _ _ _ _ us hl => match us, hl with | [_, _], _ => rfl
  have F_law_wrong_place := fun_mk (st := s_law_wrong_place) l_law_wrong_place c_law_wrong_place k_law_wrong_place
  have b_law_wrong_place := F_law_wrong_place.binds (ps := ["_law_rules_here", "_law_text", "_law_form"]) fun _ _ _ _ _ _ us hl => match us, hl with | [_, _, _], _ => rfl
  have F_law_rules := fun_mk (st := s_law_rules) l_law_rules c_law_rules k_law_rules
  have b_law_rules := F_law_rules.binds (ps := []) fun _ _ _ _ _ _ us hl => match us, hl with | [], _ => rfl
  have F_law_drawn_signs := fun_mk (st := s_law_drawn_signs) l_law_drawn_signs c_law_drawn_signs k_law_drawn_signs
  have b_law_drawn_signs := F_law_drawn_signs.binds (ps := ["_law_source_here", "_law_rules_here", "_law_form"]) fun _ _ _ _ _ _ us hl => match us, hl with | [_, _, _], _ => rfl
  have F_law_spoilt_signs := fun_mk (st := s_law_spoilt_signs) l_law_spoilt_signs c_law_spoilt_signs k_law_spoilt_signs
  have b_law_spoilt_signs := F_law_spoilt_signs.binds (ps := ["_law_source_here", "_law_signs"]) fun _ _ _ _ _ _ us hl => match us, hl with | [_, _], _ => rfl
  have F_law_told := fun_mk (st := s_law_told) l_law_told c_law_told k_law_told
  have b_law_told := F_law_told.binds (ps := ["_law_text"]) fun _ _ _ _ _ _ us hl => match us, hl with | [_], _ => rfl
  have F_law_hand_right := fun_mk (st := s_law_hand_right) l_law_hand_right c_law_hand_right k_law_hand_right
  have b_law_hand_right := F_law_hand_right.binds (ps := ["_law_rules_here"]) fun _ _ _ _ _ _ us hl => match us, hl with | [_], _ => rfl
  have F_law := fun_mk (st := s_law) l_law c_law k_law
  have b_law := F_law.binds (ps := ["_law_script"]) fun _ _ _ _ _ _ us hl => match us, hl with | [_], _ => rfl
  have F_Book_init := fun_mk (st := s_Book_init) l_Book_init c_Book_init k_Book_init
  have b_Book_init := F_Book_init.binds (ps := ["self", "goods", "barters"]) fun _ _ _ _ _ _ us hl => match us, hl with | [_, _, _], _ => rfl
  have F_Book_names := fun_mk (st := s_Book_names) l_Book_names c_Book_names k_Book_names
  have b_Book_names := F_Book_names.binds (ps := ["self"]) fun _ _ _ _ _ _ us hl => match us, hl with | [_], _ => rfl
  have F_Reader_init := fun_mk (st := s_Reader_init) l_Reader_init c_Reader_init k_Reader_init
  have b_Reader_init := F_Reader_init.binds (ps := ["self", "text"]) fun _ _ _ _ _ _ us hl => match us, hl with | [_, _], _ => rfl
  have F_Reader_sees := fun_mk (st := s_Reader_sees) l_Reader_sees c_Reader_sees k_Reader_sees
  have b_Reader_sees := F_Reader_sees.binds (ps := ["self", "lexeme"]) fun _ _ _ _ _ _ us hl => match us, hl with | [_, _], _ => rfl
  have F_Reader_take := fun_mk (st := s_Reader_take) l_Reader_take c_Reader_take k_Reader_take
  have b_Reader_take := F_Reader_take.binds (ps := ["self", "lexeme"]) fun _ _ _ _ _ _ us hl => match us, hl with | [_, _], _ => rfl
  have F_Reader_take_sort := fun_mk (st := s_Reader_take_sort) l_Reader_take_sort c_Reader_take_sort k_Reader_take_sort
  have b_Reader_take_sort := F_Reader_take_sort.binds (ps := ["self", "sort"]) fun _ _ _ _ _ _ us hl => match us, hl with | [_, _], _ => rfl
  have F_Reader_take_list := fun_mk (st := s_Reader_take_list) l_Reader_take_list c_Reader_take_list k_Reader_take_list
  have b_Reader_take_list := F_Reader_take_list.binds (ps := ["self", "sort"]) fun _ _ _ _ _ _ us hl => match us, hl with | [_, _], _ => rfl
  have F_Reader_take_end := fun_mk (st := s_Reader_take_end) l_Reader_take_end c_Reader_take_end k_Reader_take_end
  have b_Reader_take_end := F_Reader_take_end.binds (ps := ["self"]) fun _ _ _ _ _ _ us hl => match us, hl with | [_], _ => rfl
  have F_Reader_wrong_place := fun_mk (st := s_Reader_wrong_place) l_Reader_wrong_place c_Reader_wrong_place k_Reader_wrong_place
  have b_Reader_wrong_place := F_Reader_wrong_place.binds (ps := ["self"]) fun _ _ _ _ _ _ us hl => match us, hl with | [_], _ => rfl
  have Fi_BadText := fun_mk (st := initOf s_BadText) li_BadText ci_BadText ki_BadText
  have bi_BadText := Fi_BadText.binds (ps := ["self", "place"]) fun _ _ _ _ _ _ us hl => match us, hl with | [_, _], _ => rfl
  have Fi_BadBook := fun_mk (st := initOf s_BadBook) li_BadBook ci_BadBook ki_BadBook
  have bi_BadBook := Fi_BadBook.binds (ps := ["self", "path"]) fun _ _ _ _ _ _ us hl => match us, hl with | [_, _], _ => rfl
  exact ⟨{ a_wall := f_wall, fd_wall := _, F_wall := F_wall, b_wall := b_wall, m_wall := PySem.W.mg_of X G a_wall, a_is_word := f_is_word, fd_is_word := _, F_is_word := F_is_word, b_is_word := b_is_word, m_is_word := PySem.W.mg_of X G a_is_word, a_is_integer := f_is_integer, fd_is_integer := _, F_is_integer := F_is_integer, b_is_integer := b_is_integer, m_is_integer := PySem.W.mg_of X G a_is_integer, a_wrong_goods := f_wrong_goods, fd_wrong_goods := _, F_wrong_goods := F_wrong_goods, b_wrong_goods := b_wrong_goods, m_wrong_goods := PySem.W.mg_of X G a_wrong_goods, a_wrong_barters := f_wrong_barters, fd_wrong_barters := _, F_wrong_barters := F_wrong_barters, b_wrong_barters := b_wrong_barters, m_wrong_barters := PySem.W.mg_of X G a_wrong_barters, a_wrong_barter := f_wrong_barter, fd_wrong_barter := _, F_wrong_barter := F_wrong_barter, b_wrong_barter := b_wrong_barter, m_wrong_barter := PySem.W.mg_of X G a_wrong_barter, a_wrong_row := f_wrong_row, fd_wrong_row := _, F_wrong_row := F_wrong_row, b_wrong_row := b_wrong_row, m_wrong_row := PySem.W.mg_of X G a_wrong_row, a_is_mixed := f_is_mixed, fd_is_mixed := _, F_is_mixed := F_is_mixed, b_is_mixed := b_is_mixed, m_is_mixed := PySem.W.mg_of X G a_is_mixed, a_scanned := f_scanned, fd_scanned := _, F_scanned := F_scanned, b_scanned := b_scanned, m_scanned := PySem.W.mg_of X G a_scanned, a_lexeme_at := f_lexeme_at, fd_lexeme_at := _, F_lexeme_at := F_lexeme_at, b_lexeme_at := b_lexeme_at, m_lexeme_at := PySem.W.mg_of X G a_lexeme_at, a_run_end := f_run_end, fd_run_end := _, F_run_end := F_run_end, b_run_end := b_run_end, m_run_end := PySem.W.mg_of X G a_run_end, a_read_book := f_read_book, fd_read_book := _, F_read_book := F_read_book, b_read_book := b_read_book, m_read_book := PySem.W.mg_of X G a_read_book, a_read_parts := f_read_parts, fd_read_parts := _, F_read_parts := F_read_parts, b_read_parts := b_read_parts, m_read_parts := PySem.W.mg_of X G a_read_parts, a_read_side := f_read_side, fd_read_side := _, F_read_side := F_read_side, b_read_side := b_read_side, m_read_side := PySem.W.mg_of X G a_read_side, a_read_part := f_read_part, fd_read_part := _, F_read_part := F_read_part, b_read_part := b_read_part, m_read_part := PySem.W.mg_of X G a_read_part, a_wrong_told := f_wrong_told, fd_wrong_told := _, F_wrong_told := F_wrong_told, b_wrong_told := b_wrong_told, m_wrong_told := PySem.W.mg_of X G a_wrong_told, a_are_parts := f_are_parts, fd_are_parts := _, F_are_parts := F_are_parts, b_are_parts := b_are_parts, m_are_parts := PySem.W.mg_of X G a_are_parts, a_told_row := f_told_row, fd_told_row := _, F_told_row := F_told_row, b_told_row := b_told_row, m_told_row := PySem.W.mg_of X G a_told_row, a_law_source := f_law_source, fd_law_source := _, F_law_source := F_law_source, b_law_source := b_law_source, m_law_source := PySem.W.mg_of X G a_law_source, a_law_pick := f_law_pick, fd_law_pick := _, F_law_pick := F_law_pick, b_law_pick := b_law_pick, m_law_pick := PySem.W.mg_of X G a_law_pick, a_law_of := f_law_of, fd_law_of := _, F_law_of := F_law_of, b_law_of := b_law_of, m_law_of := PySem.W.mg_of X G a_law_of, a_law_spaced := f_law_spaced, fd_law_spaced := _, F_law_spaced := F_law_spaced, b_law_spaced := b_law_spaced, m_law_spaced := PySem.W.mg_of X G a_law_spaced, a_law_run := f_law_run, fd_law_run := _, F_law_run := F_law_run, b_law_run := b_law_run, m_law_run := PySem.W.mg_of X G a_law_run, a_law_is_word := f_law_is_word, fd_law_is_word := _, F_law_is_word := F_law_is_word, b_law_is_word := b_law_is_word, m_law_is_word := PySem.W.mg_of X G a_law_is_word, a_law_lexeme := f_law_lexeme, fd_law_lexeme := _, F_law_lexeme := F_law_lexeme, b_law_lexeme := b_law_lexeme, m_law_lexeme := PySem.W.mg_of X G a_law_lexeme, a_law_wrong_place := f_law_wrong_place, fd_law_wrong_place := _, F_law_wrong_place := F_law_wrong_place, b_law_wrong_place := b_law_wrong_place, m_law_wrong_place := PySem.W.mg_of X G a_law_wrong_place, a_law_rules := f_law_rules, fd_law_rules := _, F_law_rules := F_law_rules, b_law_rules := b_law_rules, m_law_rules := PySem.W.mg_of X G a_law_rules, a_law_drawn_signs := f_law_drawn_signs, fd_law_drawn_signs := _, F_law_drawn_signs := F_law_drawn_signs, b_law_drawn_signs := b_law_drawn_signs, m_law_drawn_signs := PySem.W.mg_of X G a_law_drawn_signs, a_law_spoilt_signs := f_law_spoilt_signs, fd_law_spoilt_signs := _, F_law_spoilt_signs := F_law_spoilt_signs, b_law_spoilt_signs := b_law_spoilt_signs, m_law_spoilt_signs := PySem.W.mg_of X G a_law_spoilt_signs, a_law_told := f_law_told, fd_law_told := _, F_law_told := F_law_told, b_law_told := b_law_told, m_law_told := PySem.W.mg_of X G a_law_told, a_law_hand_right := f_law_hand_right, fd_law_hand_right := _, F_law_hand_right := F_law_hand_right, b_law_hand_right := b_law_hand_right, m_law_hand_right := PySem.W.mg_of X G a_law_hand_right, a_law := _, fd_law := _, F_law := F_law, b_law := b_law, m_law := PySem.W.mg_of X G a_law, c_BLANKS := ⟨_, PySem.W.mg_of X G zc_BLANKS⟩, c_DIGITS := ⟨_, PySem.W.mg_of X G zc_DIGITS⟩, c_LETTERS := ⟨_, PySem.W.mg_of X G zc_LETTERS⟩, c_LONGEST_WORD := ⟨_, PySem.W.mg_of X G zc_LONGEST_WORD⟩, c_SIGNS := ⟨_, PySem.W.mg_of X G zc_SIGNS⟩, n_abs := PySem.W.mg_none_of X G zn_abs, n_all := PySem.W.mg_none_of X G zn_all, n_any := PySem.W.mg_none_of X G zn_any, n_bool := PySem.W.mg_none_of X G zn_bool, n_enumerate := PySem.W.mg_none_of X G zn_enumerate, n_int := PySem.W.mg_none_of X G zn_int, n_isinstance := PySem.W.mg_none_of X G zn_isinstance, n_len := PySem.W.mg_none_of X G zn_len, n_list := PySem.W.mg_none_of X G zn_list, n_max := PySem.W.mg_none_of X G zn_max, n_range := PySem.W.mg_none_of X G zn_range, n_str := PySem.W.mg_none_of X G zn_str, n_tuple := PySem.W.mg_none_of X G zn_tuple, C_Book := C_Book, cl_Book := ⟨pg_Book, hd_Book, po_Book, sa_Book⟩, m_Book := PySem.W.mg_of X G aC_Book, na_Book_goods := na_goods_Book, na_Book_barters := na_barters_Book, na_Book_good_numbers := na_good_numbers_Book, na_Book_barter_numbers := na_barter_numbers_Book, C_Reader := C_Reader, cl_Reader := ⟨pg_Reader, hd_Reader, po_Reader, sa_Reader⟩, m_Reader := PySem.W.mg_of X G aC_Reader, na_Reader_found := na_found_Reader, na_Reader_stop := na_stop_Reader, na_Reader_length := na_length_Reader, na_Reader_at := na_at_Reader, a_Book_init := f_Book_init, fd_Book_init := _, F_Book_init := F_Book_init, b_Book_init := b_Book_init, M_Book := ⟨mk_Book, a_Book_init, i_Book_init, kC_Book⟩, a_Book_names := f_Book_names, fd_Book_names := _, F_Book_names := F_Book_names, b_Book_names := b_Book_names, me_Book_names := ⟨a_Book_names, i_Book_names, k_Book_names⟩, a_Reader_init := f_Reader_init, fd_Reader_init := _, F_Reader_init := F_Reader_init, b_Reader_init := b_Reader_init, M_Reader := ⟨mk_Reader, a_Reader_init, i_Reader_init, kC_Reader⟩, a_Reader_sees := f_Reader_sees, fd_Reader_sees := _, F_Reader_sees := F_Reader_sees, b_Reader_sees := b_Reader_sees, me_Reader_sees := ⟨a_Reader_sees, i_Reader_sees, k_Reader_sees⟩, a_Reader_take := f_Reader_take, fd_Reader_take := _, F_Reader_take := F_Reader_take, b_Reader_take := b_Reader_take, me_Reader_take := ⟨a_Reader_take, i_Reader_take, k_Reader_take⟩, a_Reader_take_sort := f_Reader_take_sort, fd_Reader_take_sort := _, F_Reader_take_sort := F_Reader_take_sort, b_Reader_take_sort := b_Reader_take_sort, me_Reader_take_sort := ⟨a_Reader_take_sort, i_Reader_take_sort, k_Reader_take_sort⟩, a_Reader_take_list := f_Reader_take_list, fd_Reader_take_list := _, F_Reader_take_list := F_Reader_take_list, b_Reader_take_list := b_Reader_take_list, me_Reader_take_list := ⟨a_Reader_take_list, i_Reader_take_list, k_Reader_take_list⟩, a_Reader_take_end := f_Reader_take_end, fd_Reader_take_end := _, F_Reader_take_end := F_Reader_take_end, b_Reader_take_end := b_Reader_take_end, me_Reader_take_end := ⟨a_Reader_take_end, i_Reader_take_end, k_Reader_take_end⟩, a_Reader_wrong_place := f_Reader_wrong_place, fd_Reader_wrong_place := _, F_Reader_wrong_place := F_Reader_wrong_place, b_Reader_wrong_place := b_Reader_wrong_place, me_Reader_wrong_place := ⟨a_Reader_wrong_place, i_Reader_wrong_place, k_Reader_wrong_place⟩, e_BadText := { C := C_BadText, fI := fi_BadText, fd := _, oex := { cls := ⟨nm_BadText, q_BadText, N_BadText, bs_BadText, _, sn_BadText, sub_BadText, ab_BadText, col_BadText, dd_BadText, m0_BadText, m1_BadText, m2_BadText, m3_BadText, m5_BadText, xL_BadText, rfl⟩, sa := sa_BadText, exC := eC_BadText, tyC := tC_BadText, kC := kC_BadText }, xf := ⟨ga_BadText, gg_BadText, eC_BadText, hC_BadText⟩, iC := ai_BadText, tI := ti_BadText, noF := nf_BadText, F := Fi_BadText, b := bi_BadText, m := PySem.W.mg_of X G aC_BadText, te := exm_own eC_BadText iC_BadText tC_BadText sC_BadText }, e_BadBook := { C := C_BadBook, fI := fi_BadBook, fd := _, oex := { cls := ⟨nm_BadBook, q_BadBook, N_BadBook, bs_BadBook, _, sn_BadBook, sub_BadBook, ab_BadBook, col_BadBook, dd_BadBook, m0_BadBook, m1_BadBook, m2_BadBook, m3_BadBook, m5_BadBook, xL_BadBook, rfl⟩, sa := sa_BadBook, exC := eC_BadBook, tyC := tC_BadBook, kC := kC_BadBook }, xf := ⟨ga_BadBook, gg_BadBook, eC_BadBook, hC_BadBook⟩, iC := ai_BadBook, tI := ti_BadBook, noF := nf_BadBook, F := Fi_BadBook, b := bi_BadBook, m := PySem.W.mg_of X G aC_BadBook, te := exm_own eC_BadBook iC_BadBook tC_BadBook sC_BadBook }, xm_BadBook_BadText := exm_pair eC_BadText iC_BadText tC_BadText xs_BadBook_BadText }, rfl, fun s v => .of_eq rfl⟩
theorem walk {l : PySem.W.OpenLaw} {q : Program} {loose : List Str} {XP : (Str → Option Value) → Heap → Prop} {YP : World → Heap → Prop} {d : DefRec} {K : Params → PySem.W.Frag} (hn : l.most = some 63) (hdf : d.params.defaults = [])
    (hY : ∀ (w : World) (h : Heap), YP w h → (K w.params).In h)
    (F : ∀ (w : World) (mg : Str → Option Value) (fa : Addr) (h : Heap), (K w.params).In h → h.Ns mainGlobals mg → mg d.name = some (.ref fa) →
      ∃ fd : FuncData, (∀ (s : Shared) (u : Value), BindsTo s fd ⟨[u], []⟩ [("_law_script", u)]) ∧ ∀ base : Heap, (K w.params).In base → base.Ns mainGlobals mg → FnG l.prog w (K w.params) mg base 10 fa fd ["_law_script"] (spLaw (K w.params))) :
    PySem.W.WalkO q loose XP YP l.row.toRowW d [] (fun f vs => PySem.call f vs) :=
  walk_ofG (n := 63) (k := 10) (x := "_law_script") (sp := fun w => spLaw (K w.params)) hn (by decide) hdf ⟨rfl, by decide, by decide⟩ hY F fun _ _ a ns hl _ hS => ⟨a, ns, rfl, hS, hl, fun _ => rfl⟩
end My
open PySem PySem.W PyProof.Rows
set_option maxRecDepth 100000 in
set_option maxHeartbeats 0 in
theorem PySem.Challenge.cw_eitherbarter_k08_whole_wrong_places_of_t_holds : PySem.Challenge.rw_eitherbarter_k08_whole_wrong_places_of_t.Holds := by
  w_on; o_law; k_head; (case hw => w_witness2)
  k_fill
  refine My.walk (l := PySem.Challenge.rw_eitherbarter_k08_whole_wrong_places_of_t) rfl rfl (fun w h Y => PySem.W.kIn_of Y) ?F
  case F =>
    intro w mg fa h KX G hmg
    refine' Exists.elim (My.tx_mk KX G hmg ?a_wall ?l_wall ?c_wall ?k_wall ?a_is_word ?l_is_word ?c_is_word ?k_is_word ?a_is_integer ?l_is_integer ?c_is_integer ?k_is_integer ?a_wrong_goods ?l_wrong_goods ?c_wrong_goods ?k_wrong_goods ?a_wrong_barters ?l_wrong_barters ?c_wrong_barters ?k_wrong_barters ?a_wrong_barter ?l_wrong_barter ?c_wrong_barter ?k_wrong_barter ?a_wrong_row ?l_wrong_row ?c_wrong_row ?k_wrong_row ?a_is_mixed ?l_is_mixed ?c_is_mixed ?k_is_mixed ?a_scanned ?l_scanned ?c_scanned ?k_scanned ?a_lexeme_at ?l_lexeme_at ?c_lexeme_at ?k_lexeme_at ?a_run_end ?l_run_end ?c_run_end ?k_run_end ?a_read_book ?l_read_book ?c_read_book ?k_read_book ?a_read_parts ?l_read_parts ?c_read_parts ?k_read_parts ?a_read_side ?l_read_side ?c_read_side ?k_read_side ?a_read_part ?l_read_part ?c_read_part ?k_read_part ?a_wrong_told ?l_wrong_told ?c_wrong_told ?k_wrong_told ?a_are_parts ?l_are_parts ?c_are_parts ?k_are_parts ?a_told_row ?l_told_row ?c_told_row ?k_told_row ?a_law_source ?l_law_source ?c_law_source ?k_law_source ?a_law_pick ?l_law_pick ?c_law_pick ?k_law_pick ?a_law_of ?l_law_of ?c_law_of ?k_law_of ?a_law_spaced ?l_law_spaced ?c_law_spaced ?k_law_spaced ?a_law_run ?l_law_run ?c_law_run ?k_law_run ?a_law_is_word ?l_law_is_word ?c_law_is_word ?k_law_is_word ?a_law_lexeme ?l_law_lexeme ?c_law_lexeme ?k_law_lexeme ?a_law_wrong_place ?l_law_wrong_place ?c_law_wrong_place ?k_law_wrong_place ?a_law_rules ?l_law_rules ?c_law_rules ?k_law_rules ?a_law_drawn_signs ?l_law_drawn_signs ?c_law_drawn_signs ?k_law_drawn_signs ?a_law_spoilt_signs ?l_law_spoilt_signs ?c_law_spoilt_signs ?k_law_spoilt_signs ?a_law_told ?l_law_told ?c_law_told ?k_law_told ?a_law_hand_right ?l_law_hand_right ?c_law_hand_right ?k_law_hand_right ?a_law ?l_law ?c_law ?k_law ?aC_Book ?pg_Book ?hd_Book ?po_Book ?sa_Book ?mk_Book ?kC_Book ?na_goods_Book ?na_barters_Book ?na_good_numbers_Book ?na_barter_numbers_Book ?aC_Reader ?pg_Reader ?hd_Reader ?po_Reader ?sa_Reader ?mk_Reader ?kC_Reader ?na_found_Reader ?na_stop_Reader ?na_length_Reader ?na_at_Reader ?a_Book_init ?i_Book_init ?l_Book_init ?c_Book_init ?k_Book_init ?a_Book_names ?i_Book_names ?l_Book_names ?c_Book_names ?k_Book_names ?a_Reader_init ?i_Reader_init ?l_Reader_init ?c_Reader_init ?k_Reader_init ?a_Reader_sees ?i_Reader_sees ?l_Reader_sees ?c_Reader_sees ?k_Reader_sees ?a_Reader_take ?i_Reader_take ?l_Reader_take ?c_Reader_take ?k_Reader_take ?a_Reader_take_sort ?i_Reader_take_sort ?l_Reader_take_sort ?c_Reader_take_sort ?k_Reader_take_sort ?a_Reader_take_list ?i_Reader_take_list ?l_Reader_take_list ?c_Reader_take_list ?k_Reader_take_list ?a_Reader_take_end ?i_Reader_take_end ?l_Reader_take_end ?c_Reader_take_end ?k_Reader_take_end ?a_Reader_wrong_place ?i_Reader_wrong_place ?l_Reader_wrong_place ?c_Reader_wrong_place ?k_Reader_wrong_place ?aC_BadText ?xL_BadText ?sa_BadText ?ga_BadText ?gg_BadText ?nf_BadText ?ai_BadText ?ti_BadText ?li_BadText ?ci_BadText ?ki_BadText ?kC_BadText ?eC_BadText ?tC_BadText ?hC_BadText ?iC_BadText ?sC_BadText ?aC_BadBook ?xL_BadBook ?sa_BadBook ?ga_BadBook ?gg_BadBook ?nf_BadBook ?ai_BadBook ?ti_BadBook ?li_BadBook ?ci_BadBook ?ki_BadBook ?kC_BadBook ?eC_BadBook ?tC_BadBook ?hC_BadBook ?iC_BadBook ?sC_BadBook ?xs_BadBook_BadText ?zc_BLANKS ?zc_DIGITS ?zc_LETTERS ?zc_LONGEST_WORD ?zc_SIGNS ?zn_abs ?zn_all ?zn_any ?zn_bool ?zn_enumerate ?zn_int ?zn_isinstance ?zn_len ?zn_list ?zn_max ?zn_range ?zn_str ?zn_tuple) (fun T hT => ?fin)
    (case a_wall => k_is)
    (case l_wall => k_is)
    (case c_wall => k_is)
    (case k_wall => k_is)
    (case a_is_word => k_is)
    (case l_is_word => k_is)
    (case c_is_word => k_is)
    (case k_is_word => k_is)
    (case a_is_integer => k_is)
    (case l_is_integer => k_is)
    (case c_is_integer => k_is)
    (case k_is_integer => k_is)
    (case a_wrong_goods => k_is)
    (case l_wrong_goods => k_is)
    (case c_wrong_goods => k_is)
    (case k_wrong_goods => k_is)
    (case a_wrong_barters => k_is)
    (case l_wrong_barters => k_is)
    (case c_wrong_barters => k_is)
    (case k_wrong_barters => k_is)
    (case a_wrong_barter => k_is)
    (case l_wrong_barter => k_is)
    (case c_wrong_barter => k_is)
    (case k_wrong_barter => k_is)
    (case a_wrong_row => k_is)
    (case l_wrong_row => k_is)
    (case c_wrong_row => k_is)
    (case k_wrong_row => k_is)
    (case a_is_mixed => k_is)
    (case l_is_mixed => k_is)
    (case c_is_mixed => k_is)
    (case k_is_mixed => k_is)
    (case a_scanned => k_is)
    (case l_scanned => k_is)
    (case c_scanned => k_is)
    (case k_scanned => k_is)
    (case a_lexeme_at => k_is)
    (case l_lexeme_at => k_is)
    (case c_lexeme_at => k_is)
    (case k_lexeme_at => k_is)
    (case a_run_end => k_is)
    (case l_run_end => k_is)
    (case c_run_end => k_is)
    (case k_run_end => k_is)
    (case a_read_book => k_is)
    (case l_read_book => k_is)
    (case c_read_book => k_is)
    (case k_read_book => k_is)
    (case a_read_parts => k_is)
    (case l_read_parts => k_is)
    (case c_read_parts => k_is)
    (case k_read_parts => k_is)
    (case a_read_side => k_is)
    (case l_read_side => k_is)
    (case c_read_side => k_is)
    (case k_read_side => k_is)
    (case a_read_part => k_is)
    (case l_read_part => k_is)
    (case c_read_part => k_is)
    (case k_read_part => k_is)
    (case a_wrong_told => k_is)
    (case l_wrong_told => k_is)
    (case c_wrong_told => k_is)
    (case k_wrong_told => k_is)
    (case a_are_parts => k_is)
    (case l_are_parts => k_is)
    (case c_are_parts => k_is)
    (case k_are_parts => k_is)
    (case a_told_row => k_is)
    (case l_told_row => k_is)
    (case c_told_row => k_is)
    (case k_told_row => k_is)
    (case a_law_source => k_is)
    (case l_law_source => k_is)
    (case c_law_source => k_is)
    (case k_law_source => k_is)
    (case a_law_pick => k_is)
    (case l_law_pick => k_is)
    (case c_law_pick => k_is)
    (case k_law_pick => k_is)
    (case a_law_of => k_is)
    (case l_law_of => k_is)
    (case c_law_of => k_is)
    (case k_law_of => k_is)
    (case a_law_spaced => k_is)
    (case l_law_spaced => k_is)
    (case c_law_spaced => k_is)
    (case k_law_spaced => k_is)
    (case a_law_run => k_is)
    (case l_law_run => k_is)
    (case c_law_run => k_is)
    (case k_law_run => k_is)
    (case a_law_is_word => k_is)
    (case l_law_is_word => k_is)
    (case c_law_is_word => k_is)
    (case k_law_is_word => k_is)
    (case a_law_lexeme => k_is)
    (case l_law_lexeme => k_is)
    (case c_law_lexeme => k_is)
    (case k_law_lexeme => k_is)
    (case a_law_wrong_place => k_is)
    (case l_law_wrong_place => k_is)
    (case c_law_wrong_place => k_is)
    (case k_law_wrong_place => k_is)
    (case a_law_rules => k_is)
    (case l_law_rules => k_is)
    (case c_law_rules => k_is)
    (case k_law_rules => k_is)
    (case a_law_drawn_signs => k_is)
    (case l_law_drawn_signs => k_is)
    (case c_law_drawn_signs => k_is)
    (case k_law_drawn_signs => k_is)
    (case a_law_spoilt_signs => k_is)
    (case l_law_spoilt_signs => k_is)
    (case c_law_spoilt_signs => k_is)
    (case k_law_spoilt_signs => k_is)
    (case a_law_told => k_is)
    (case l_law_told => k_is)
    (case c_law_told => k_is)
    (case k_law_told => k_is)
    (case a_law_hand_right => k_is)
    (case l_law_hand_right => k_is)
    (case c_law_hand_right => k_is)
    (case k_law_hand_right => k_is)
    (case a_law => k_is)
    (case l_law => k_is)
    (case c_law => k_is)
    (case k_law => k_is)
    (case aC_Book => k_is)
    (case pg_Book => k_is)
    (case hd_Book => k_is)
    (case po_Book => k_is)
    (case sa_Book => k_is)
    (case mk_Book => k_is)
    (case kC_Book => k_is)
    (case na_goods_Book => k_is)
    (case na_barters_Book => k_is)
    (case na_good_numbers_Book => k_is)
    (case na_barter_numbers_Book => k_is)
    (case aC_Reader => k_is)
    (case pg_Reader => k_is)
    (case hd_Reader => k_is)
    (case po_Reader => k_is)
    (case sa_Reader => k_is)
    (case mk_Reader => k_is)
    (case kC_Reader => k_is)
    (case na_found_Reader => k_is)
    (case na_stop_Reader => k_is)
    (case na_length_Reader => k_is)
    (case na_at_Reader => k_is)
    (case a_Book_init => k_is)
    (case i_Book_init => k_is)
    (case l_Book_init => k_is)
    (case c_Book_init => k_is)
    (case k_Book_init => k_is)
    (case a_Book_names => k_is)
    (case i_Book_names => k_is)
    (case l_Book_names => k_is)
    (case c_Book_names => k_is)
    (case k_Book_names => k_is)
    (case a_Reader_init => k_is)
    (case i_Reader_init => k_is)
    (case l_Reader_init => k_is)
    (case c_Reader_init => k_is)
    (case k_Reader_init => k_is)
    (case a_Reader_sees => k_is)
    (case i_Reader_sees => k_is)
    (case l_Reader_sees => k_is)
    (case c_Reader_sees => k_is)
    (case k_Reader_sees => k_is)
    (case a_Reader_take => k_is)
    (case i_Reader_take => k_is)
    (case l_Reader_take => k_is)
    (case c_Reader_take => k_is)
    (case k_Reader_take => k_is)
    (case a_Reader_take_sort => k_is)
    (case i_Reader_take_sort => k_is)
    (case l_Reader_take_sort => k_is)
    (case c_Reader_take_sort => k_is)
    (case k_Reader_take_sort => k_is)
    (case a_Reader_take_list => k_is)
    (case i_Reader_take_list => k_is)
    (case l_Reader_take_list => k_is)
    (case c_Reader_take_list => k_is)
    (case k_Reader_take_list => k_is)
    (case a_Reader_take_end => k_is)
    (case i_Reader_take_end => k_is)
    (case l_Reader_take_end => k_is)
    (case c_Reader_take_end => k_is)
    (case k_Reader_take_end => k_is)
    (case a_Reader_wrong_place => k_is)
    (case i_Reader_wrong_place => k_is)
    (case l_Reader_wrong_place => k_is)
    (case c_Reader_wrong_place => k_is)
    (case k_Reader_wrong_place => k_is)
    (case aC_BadText => k_is)
    (case xL_BadText => k_is)
    (case sa_BadText => k_is)
    (case ga_BadText => k_is)
    (case gg_BadText => k_is)
    (case nf_BadText => k_is)
    (case ai_BadText => k_is)
    (case ti_BadText => k_is)
    (case li_BadText => k_is)
    (case ci_BadText => k_is)
    (case ki_BadText => k_is)
    (case kC_BadText => k_is)
    (case eC_BadText => k_is)
    (case tC_BadText => k_is)
    (case hC_BadText => k_is)
    (case iC_BadText => k_is)
    (case sC_BadText => k_is)
    (case aC_BadBook => k_is)
    (case xL_BadBook => k_is)
    (case sa_BadBook => k_is)
    (case ga_BadBook => k_is)
    (case gg_BadBook => k_is)
    (case nf_BadBook => k_is)
    (case ai_BadBook => k_is)
    (case ti_BadBook => k_is)
    (case li_BadBook => k_is)
    (case ci_BadBook => k_is)
    (case ki_BadBook => k_is)
    (case kC_BadBook => k_is)
    (case eC_BadBook => k_is)
    (case tC_BadBook => k_is)
    (case hC_BadBook => k_is)
    (case iC_BadBook => k_is)
    (case sC_BadBook => k_is)
    (case xs_BadBook_BadText => k_is)
    (case zc_BLANKS => k_is)
    (case zc_DIGITS => k_is)
    (case zc_LETTERS => k_is)
    (case zc_LONGEST_WORD => k_is)
    (case zc_SIGNS => k_is)
    (case zn_abs => k_is)
    (case zn_all => k_is)
    (case zn_any => k_is)
    (case zn_bool => k_is)
    (case zn_enumerate => k_is)
    (case zn_int => k_is)
    (case zn_isinstance => k_is)
    (case zn_len => k_is)
    (case zn_list => k_is)
    (case zn_max => k_is)
    (case zn_range => k_is)
    (case zn_str => k_is)
    (case zn_tuple => k_is)
    (case fin => (obtain ⟨e, hb⟩ := hT; subst e; exact ⟨T.fd_law, hb, fun base _ _ => My.ok_law T⟩))
#print axioms PySem.Challenge.cw_eitherbarter_k08_whole_wrong_places_of_t_holds
