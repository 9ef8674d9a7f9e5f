import PyProof.Rows.All
import Wide.All
import OpenK.AllK
import Wide.FinOn
import HandS.ForMost
import HandS.Evl
import HandS.Deep
import HandS.TupAny
import HandS.TupMul
import HandS.IsInst
import HandS.Zip
import HandS.SortInts
import HandS.Strs
import KE.KDictKeyed
import HandS.ForExc
import HandS.ExcInit
import HandS.ExcField
import HandS.TryMany
import HandS.Lambda
import HandS.Ends
import KE.GoesEnum
import HandS.SetFor
import HandS.Style
import KE.KEqSeq
import HandS.Codes
import PyProof.ReprLen
import HandS.FStr
import HandS.RaiseMore
import HandS.StrMore
import HandS.Conv
import HandS.Star
import HandS.DictComp
import HandS.Exc
import KE.KDictWalk
import PyProof.Rows.TupDisplay
import KE.KDictCopyH
import KE.KDictList
import KE.KDictSum
import KE.SortData
import HandS.Nested
import HandS.EndTab
import PySem.Challenge.RW_guardkeeps_k09_needs_and_parts_refused
set_option Elab.async false
set_option linter.all false
set_option maxRecDepth 100000
set_option maxHeartbeats 4000000
namespace PD
open PySem L2
open Evl (Ex)
abbrev D := PyData
/-- the constant part, and the world (the hashes hang on it) -/
structure Kw where
  f : PySem.W.Frag
  w : World
  p : Program
abbrev Fr0 := Kw
@[reducible] def _root_.L2.Cx.k0 (X : Cx) : Kw := ⟨X.K, X.w, X.prog⟩
/-- the heap without the addresses of L -/
def hide (L : List Addr) (H : Hp) : Hp := fun a => if a ∈ L then none else H a
theorem hide_some {L : List Addr} {H : Hp} {a : Addr} {o : HO} : hide L H a = some o ↔ a ∉ L ∧ H a = some o := by
  unfold hide
  by_cases h : a ∈ L
  · simp [h]
  · simp [h]
theorem hide_ex {L : List Addr} {H H' : Hp} (e : Ex H H') : Ex (hide L H) (hide L H') := fun a o h => by
  obtain ⟨h1, h2⟩ := hide_some.mp h
  exact hide_some.mpr ⟨h1, e a o h2⟩
theorem hide_le (L : List Addr) (H : Hp) : Ex (hide L H) H := fun a o h => (hide_some.mp h).2
theorem hide_sub {L L' : List Addr} {H : Hp} (h : ∀ a ∈ L, a ∈ L') : Ex (hide L' H) (hide L H) := fun a o e => by
  obtain ⟨h1, h2⟩ := hide_some.mp e
  exact hide_some.mpr ⟨fun z => h1 (h a z), h2⟩
mutual
/-- a key of a dict whose keys are tuples -/
def keyN : D → Option NestedKey
  | .none => some .none
  | .bool b => some (.num (if b = true then 1 else 0))
  | .int i => some (.num i)
  | .str x => some (.text x)
  | .tuple ds => (keyNs ds).map .tup
  | .list _ => none
  | .dict _ => none
def keyNs : List D → Option (List NestedKey)
  | [] => some []
  | d :: ds => match keyN d, keyNs ds with
    | some k, some ks => some (k :: ks)
    | _, _ => none
end
/-- the object of a dict whose keys are tuples -/
def NdF (w : World) (d : Addr) (o : Obj) (xs : List (NestedKey × Addr × V)) : Prop := (d == sysModules) = false ∧ o.ExactDict ∧ xs.length ≤ sizeLine ∧ (xs.map (·.1)).Nodup ∧ ∃ (es : Array DictEntry) (ep : Nat) (us : List Value), o.data = .dict es ep ∧
  Vals (xs.map fun x => x.2.2) us ∧ es.toList = (xs.zip us).map (fun p => (⟨p.1.1.hash w, .ref p.1.2.1, p.2⟩ : DictEntry))
/-- .. whose keys are ints and texts -/
def KdF (w : World) (d : Addr) (o : Obj) (kvs : List (Key × V)) : Prop := (d == sysModules) = false ∧ o.ExactDict ∧ kvs.length ≤ sizeLine ∧ ∃ (es : Array DictEntry) (ep : Nat) (vs : List (Key × Value)), o.data = .dict es ep ∧
  (∀ e ∈ es, ∃ k, keyIs k e.key = true ∧ e.hash = keyH w k) ∧ Paired (fun (e : DictEntry) (kv : Key × Value) => keyIs kv.1 e.key = true ∧ e.val = kv.2) es.toList vs ∧ (vs.map (·.1)).Nodup ∧ KV kvs vs
/-- at d: just this object -/
def NdO (w : World) (d : Addr) (o : Obj) (xs : List (NestedKey × Addr × V)) : HO := .ext fun h => h.get? d = some o ∧ NdF w d o xs
def KdO (w : World) (d : Addr) (o : Obj) (kvs : List (Key × V)) : HO := .ext fun h => h.get? d = some o ∧ KdF w d o kvs
def subE : Expr → List Expr
  | .BoolOp _ vs _ => vs
  | .BinOp l _ r _ => [l, r]
  | .UnaryOp _ e _ => [e]
  | .IfExp t b e _ => [t, b, e]
  | .Compare l _ cs _ => l :: cs
  | .Call f as ks _ => f :: as ++ ks.map (·.value)
  | .List es _ => es
  | .Tuple es _ _ => es
  | .ListComp e gs _ _ => e :: gs.map (·.iter)
  | .Subscript v i _ => [v, i]
  | .Attribute v _ _ => [v]
  | .Lambda _ b _ _ => [b]
  | _ => []
def subS : Stmt → List Expr × List Stmt
  | .FunctionDef _ _ b _ _ _ _ _ _ _ => ([], b)
  | .ClassDef _ _ _ b _ _ _ _ _ _ _ => ([], b)
  | .Return (some e) _ => ([e], [])
  | .Assign _ v _ => ([v], [])
  | .Expr v _ => ([v], [])
  | .For _ it b _ _ => ([it], b)
  | .While t b _ _ => ([t], b)
  | .If t b c _ => ([t], b ++ c)
  | .Try b _ _ _ _ => ([], b)
  | _ => ([], [])
def navE : List Nat → Expr → Option Expr
  | [], e => some e
  | i :: r, e => match (subE e)[i]? with
    | some x => navE r x
    | none => none
/-- statements below from 100 on, expressions below it -/
def navS : List Nat → Stmt → Option Expr
  | [], _ => none
  | i :: r, s => if i < 100 then (match (subS s).1[i]? with
      | some x => navE r x
      | none => none) else match (subS s).2[i - 100]? with
      | some x => navS r x
      | none => none
def lamAt (p : Program) : List Nat → Option Expr
  | [] => none
  | i :: r => match p.main.body[i]? with
    | some x => navS r x
    | none => none
/-- at a: just this object -/
def ExO (a : Addr) (o : Obj) : HO := .ext fun h => h.get? a = some o
/-- a cell, lent: just this object, with a mark -/
def CeO (k : Nat) (o : Obj) : HO := .frz o (.own k)
/-- a lambda's object: its words, its code object, its cells and what they are -/
structure CloF where
  q : Str
  params : Arguments
  body : Expr
  scope : Scope
  pm : Value
  ctv : Value
  c : Addr
  oc : Obj
  cl : List (Str × Addr)
  os : List Obj
@[reducible] def CloF.obj (C : CloF) : Obj := PySem.W.kla_obj "<lambda>" C.q C.params C.body C.scope C.cl C.pm C.c C.ctv
def CloF.cells (C : CloF) (k : Nat) : List (Addr × HO) := List.zipWith (fun x o => (x.2, CeO k o)) C.cl C.os
/-- the names that it captures, as they stand in it -/
def frees (sc : Scope) : List Str := ((sc.names.filter fun y => y.2 == .free).map (·.1)).reverse
structure CloOk (p : Program) (path : List Nat) (C : CloF) (vs : List V) : Prop where
  here : ∃ lpos, lamAt p path = some (.Lambda C.params C.body C.scope lpos)
  code : ∃ (vs : Array Value) (t : Tok), C.oc.data = .fields vs ∧ vs[1]? = some (.str C.q t)
  names : C.cl.map (·.1) = frees C.scope
  nd : (C.cl.map (·.1)).Nodup
  inj : (C.cl.map (·.2)).Nodup
  los : C.os.length = C.cl.length
  lvs : vs.length = C.cl.length
  cell : ∀ (i : Nat) (o : Obj) (v : V), C.os[i]? = some o → vs[i]? = some v → ∃ u, RelV v u ∧ o.data = .cell (some u)
/-- a lambda as data: where it stands, what it captured; no dict is so -/
@[reducible] def cloD (path : List Nat) (ds : List D) : D := .dict [(.list [], .tuple (path.map fun n => .int (n : Nat))), (.list [], .list ds)]
mutual
/-- what lies at a value, as data; an instance of a class is told as a dict that no dict can be -/
inductive Rp (K : Fr0) (H : Hp) : V → D → Prop
  | non : Rp K H .non .none
  | bl (b : Bool) : Rp K H (.bl b) (.bool b)
  | int (i : Int) : Rp K H (.int i) (.int i)
  | str (x : Str) : Rp K H (.str x) (.str x)
  | lst {a : Addr} {xs : List V} {ds : List D} : SqL K.f H a xs → RpAll K H xs ds → Rp K H (.ref a) (.list ds)
  | tup {a : Addr} {xs : List V} {ds : List D} : SqT K.f H a xs → RpAll K H xs ds → Rp K H (.ref a) (.tuple ds)
  | dct {a : Addr} {o : Obj} {kvs : List (Key × V)} {ps : List (D × D)} : H a = some (KdO K.w a o kvs) → RpKv K H kvs ps → Rp K H (.ref a) (.dict ps)
  | dctN {a : Addr} {o : Obj} {xs : List (NestedKey × Addr × V)} {ps : List (D × D)} : H a = some (NdO K.w a o xs) → RpN K H xs ps → Rp K H (.ref a) (.dict ps)
  | obj {a C dx : Addr} {fs : List (Str × V)} {ps : List (D × D)} : H a = some (.ins C dx fs) → RpF K H fs ps → Rp K H (.ref a) (.dict ((.list [], .int (C : Nat)) :: ps))
  | clo {a : Addr} {path : List Nat} {C : CloF} {vs : List V} {ds : List D} : CloOk K.p path C vs → H a = some (ExO a C.obj) → H C.c = some (CeO 0 C.oc) → (∀ q ∈ C.cells (path.headD 0), H q.1 = some q.2) → RpAll K H vs ds → Rp K H (.ref a) (cloD path ds)
inductive RpAll (K : Fr0) (H : Hp) : List V → List D → Prop
  | nil : RpAll K H [] []
  | cons {v : V} {vs : List V} {d : D} {ds : List D} : Rp K H v d → RpAll K H vs ds → RpAll K H (v :: vs) (d :: ds)
inductive RpKv (K : Fr0) (H : Hp) : List (Key × V) → List (D × D) → Prop
  | nil : RpKv K H [] []
  | cons {k : Key} {v : V} {kvs : List (Key × V)} {d e : D} {ps : List (D × D)} : Rp K H (kV k) d → Rp K H v e → RpKv K H kvs ps → RpKv K H ((k, v) :: kvs) ((d, e) :: ps)
inductive RpN (K : Fr0) (H : Hp) : List (NestedKey × Addr × V) → List (D × D) → Prop
  | nil : RpN K H [] []
  | cons {k : NestedKey} {b : Addr} {v : V} {xs : List (NestedKey × Addr × V)} {d e : D} {ps : List (D × D)} : keyN d = some k → k.depth ≤ 8 → Rp K H (.ref b) d → Rp K H v e → RpN K H xs ps → RpN K H ((k, b, v) :: xs) ((d, e) :: ps)
inductive RpF (K : Fr0) (H : Hp) : List (Str × V) → List (D × D) → Prop
  | nil : RpF K H [] []
  | cons {n : Str} {v : V} {fs : List (Str × V)} {e : D} {ps : List (D × D)} : Rp K H v e → RpF K H fs ps → RpF K H ((n, v) :: fs) ((.str n, e) :: ps)
end
mutual
theorem rp_up {K : Fr0} {H H' : Hp} (e : Ex H H') : ∀ {v : V} {d : D}, Rp K H v d → Rp K H' v d
  | _, _, .non => .non
  | _, _, .bl b => .bl b
  | _, _, .int i => .int i
  | _, _, .str x => .str x
  | _, _, .lst hs ha => .lst (Evl.ex_l e hs) (rpa_up e ha)
  | _, _, .tup hs ha => .tup (Evl.ex_t e hs) (rpa_up e ha)
  | _, _, .dct hs ha => .dct (e _ _ hs) (rpk_up e ha)
  | _, _, .dctN hs ha => .dctN (e _ _ hs) (rpn_up e ha)
  | _, _, .obj hs ha => .obj (e _ _ hs) (rpf_up e ha)
  | _, _, .clo h0 hs hc hq ha => .clo h0 (e _ _ hs) (e _ _ hc) (fun q hm => e _ _ (hq q hm)) (rpa_up e ha)
theorem rpa_up {K : Fr0} {H H' : Hp} (e : Ex H H') : ∀ {vs : List V} {ds : List D}, RpAll K H vs ds → RpAll K H' vs ds
  | _, _, .nil => .nil
  | _, _, .cons h1 h2 => .cons (rp_up e h1) (rpa_up e h2)
theorem rpk_up {K : Fr0} {H H' : Hp} (e : Ex H H') : ∀ {vs : List (Key × V)} {ds : List (D × D)}, RpKv K H vs ds → RpKv K H' vs ds
  | _, _, .nil => .nil
  | _, _, .cons h1 h2 h3 => .cons (rp_up e h1) (rp_up e h2) (rpk_up e h3)
theorem rpn_up {K : Fr0} {H H' : Hp} (e : Ex H H') : ∀ {vs : List (NestedKey × Addr × V)} {ds : List (D × D)}, RpN K H vs ds → RpN K H' vs ds
  | _, _, .nil => .nil
  | _, _, .cons h0 hd h1 h2 h3 => .cons h0 hd (rp_up e h1) (rp_up e h2) (rpn_up e h3)
theorem rpf_up {K : Fr0} {H H' : Hp} (e : Ex H H') : ∀ {vs : List (Str × V)} {ds : List (D × D)}, RpF K H vs ds → RpF K H' vs ds
  | _, _, .nil => .nil
  | _, _, .cons h1 h2 => .cons (rp_up e h1) (rpf_up e h2)
end
theorem dp_ex {K : Fr0} {H H' : Hp} (e : Ex H H') (d : D) (v : V) (h : Rp K H v d) : Rp K H' v d := rp_up e h
theorem dpa_ex {K : Fr0} {H H' : Hp} (e : Ex H H') (ds : List D) (vs : List V) (h : RpAll K H vs ds) : RpAll K H' vs ds := rpa_up e h
mutual
/-- without dicts it is what == looks at -/
theorem rp_dp {K : Fr0} {H : Hp} : ∀ (d : D) (v : V), d.canLay0 = true → Rp K H v d → Dp K.f H v d
  | .none, _, _, h => by cases h; exact .non
  | .bool b, _, _, h => by cases h; exact .bl b
  | .int i, _, _, h => by cases h; exact .int i
  | .str x, _, _, h => by cases h; exact .str x
  | .list ds, _, c, h => by
    cases h with
    | lst hs ha => exact .lst hs (rpa_dp ds _ (by simpa [PyData.canLay0] using c) ha)
  | .tuple ds, _, c, h => by
    cases h with
    | tup hs ha => exact .tup hs (rpa_dp ds _ (by simpa [PyData.canLay0] using c) ha)
  | .dict _, _, c, h => by simp [PyData.canLay0] at c
theorem rpa_dp {K : Fr0} {H : Hp} : ∀ (ds : List D) (vs : List V), PyData.canLayAll0 ds = true → RpAll K H vs ds → DpAll K.f H vs ds
  | [], _, _, h => by cases h; exact .nil
  | d :: ds, _, c, h => by
    have c' : d.canLay0 = true ∧ PyData.canLayAll0 ds = true := by simpa [PyData.canLayAll0] using c
    cases h with
    | cons h1 h2 => exact .cons (rp_dp d _ c'.1 h1) (rpa_dp ds _ c'.2 h2)
end
theorem dpa_len {K : Fr0} {H : Hp} : ∀ {vs : List V} {ds : List D}, RpAll K H vs ds → vs.length = ds.length
  | _, [], h => by cases h; rfl
  | _, _ :: _, h => by
    cases h with
    | cons _ h2 => simp [dpa_len h2]
theorem dpa_get {K : Fr0} {H : Hp} : ∀ {vs : List V} {ds : List D} {i : Nat} {v : V}, RpAll K H vs ds → vs[i]? = some v → ∃ d, ds[i]? = some d ∧ Rp K H v d
  | _, [], i, v, h, e => by cases h; simp at e
  | _, d :: ds, 0, v, h, e => by
    cases h with
    | cons h1 h2 =>
      simp at e
      subst e
      exact ⟨d, rfl, h1⟩
  | _, d :: ds, i + 1, v, h, e => by
    cases h with
    | cons h1 h2 =>
      obtain ⟨d', h3, h4⟩ := dpa_get (i := i) h2 (by simpa using e)
      exact ⟨d', by simpa using h3, h4⟩
theorem dpa_get' {K : Fr0} {H : Hp} {vs : List V} {ds : List D} {i : Nat} {d : D} (h : RpAll K H vs ds) (e : ds[i]? = some d) : ∃ v, vs[i]? = some v ∧ Rp K H v d := by
  have hl := dpa_len h
  obtain ⟨hi, _⟩ := List.getElem?_eq_some_iff.mp e
  have e2 : vs[i]? = some vs[i] := List.getElem?_eq_getElem (by omega)
  obtain ⟨d', h3, h4⟩ := dpa_get h e2
  rw [e] at h3
  cases h3
  exact ⟨_, e2, h4⟩
theorem dpa_app {K : Fr0} {H : Hp} : ∀ {vs ws : List V} {ds es : List D}, RpAll K H vs ds → RpAll K H ws es → RpAll K H (vs ++ ws) (ds ++ es)
  | _, _, [], _, h, g => by cases h; exact g
  | _, _, _ :: _, _, h, g => by
    cases h with
    | cons h1 h2 => exact .cons h1 (dpa_app h2 g)
theorem dpa_drop {K : Fr0} {H : Hp} : ∀ (n : Nat) {vs : List V} {ds : List D}, RpAll K H vs ds → RpAll K H (vs.drop n) (ds.drop n)
  | 0, _, _, h => h
  | n + 1, _, [], h => by cases h; exact .nil
  | n + 1, _, _ :: _, h => by
    cases h with
    | cons _ h2 => exact dpa_drop n h2
theorem dpa_take {K : Fr0} {H : Hp} : ∀ (n : Nat) {vs : List V} {ds : List D}, RpAll K H vs ds → RpAll K H (vs.take n) (ds.take n)
  | 0, _, _, h => .nil
  | n + 1, _, [], h => by cases h; exact .nil
  | n + 1, _, _ :: _, h => by
    cases h with
    | cons h1 h2 => exact .cons h1 (dpa_take n h2)
theorem dpa_ints {K : Fr0} {H : Hp} : ∀ (ns : List Int), RpAll K H (ns.map V.int) (ns.map PyData.int)
  | [] => .nil
  | n :: ns => .cons (.int n) (dpa_ints ns)
/-- flat data is itself anywhere -/
theorem dpa_ints_eq {K : Fr0} {H : Hp} : ∀ {vs : List V} {ns : List Int}, RpAll K H vs (ns.map PyData.int) → vs = ns.map V.int
  | _, [], h => by cases h; rfl
  | _, n :: ns, h => by
    cases h with
    | cons h1 h2 =>
      cases h1
      rw [dpa_ints_eq h2]
      rfl
theorem dpa_bools_eq {K : Fr0} {H : Hp} : ∀ {vs : List V} {ns : List Bool}, RpAll K H vs (ns.map PyData.bool) → vs = ns.map V.bl
  | _, [], h => by cases h; rfl
  | _, n :: ns, h => by
    cases h with
    | cons h1 h2 =>
      cases h1
      rw [dpa_bools_eq h2]
      rfl
/-- what is the def's own, and still filled: a list; a dict (its keys tuples, or not); an object of the class at C -/
inductive Ow where
  | l (xs : List D)
  | d (kd : Bool) (ps : List (D × D))
  | o (p C : Addr) (ps : List (D × D))
instance : Coe (List D) Ow := ⟨.l⟩
def OwAt (K : Fr0) (H : Hp) (a : Addr) (u : HO) : Ow → Prop
  | .l xs => ∃ vs, u = .lst vs ∧ RpAll K H vs xs
  | .d true ps => ∃ o xs, u = NdO K.w a o xs ∧ RpN K H xs ps
  | .d false ps => ∃ o kvs, u = KdO K.w a o kvs ∧ RpKv K H kvs ps
  | .o p C ps => a = p ∧ ∃ dx fs, u = .ins C dx fs ∧ RpF K H fs ps
theorem OwAt.up {K : Fr0} {H H' : Hp} {a : Addr} {u : HO} (e : Ex H H') : ∀ {c : Ow}, OwAt K H a u c → OwAt K H' a u c
  | .l _, ⟨vs, h1, h2⟩ => ⟨vs, h1, rpa_up e h2⟩
  | .d true _, ⟨o, xs, h1, h2⟩ => ⟨o, xs, h1, rpn_up e h2⟩
  | .d false _, ⟨o, xs, h1, h2⟩ => ⟨o, xs, h1, rpk_up e h2⟩
  | .o _ _ _, ⟨h0, dx, fs, h1, h2⟩ => ⟨h0, dx, fs, h1, rpf_up e h2⟩
inductive Sl where
  | no
  /-- data, for good -/
  | d (x : D)
  /-- of the def's own, still filled -/
  | own (c : Ow)
  /-- the object of the draws -/
  | st
  /-- just this value -/
  | raw (v : V)
  /-- a caught exception: where it is, its dict, its attributes -/
  | exc (a : Addr) (d : Option Addr) (fl : List (D × D))
structure Rho where
  sl : List Sl
  /-- a bound of the draws that were made -/
  n : Nat
@[reducible] def Rho.set (ρ : Rho) (i : Nat) (s : Sl) : Rho := ⟨ρ.sl.set i s, ρ.n⟩
def NoTb (A : List Addr) (H : Hp) : Prop := ∀ a ∈ A, ∀ ps, H a ≠ some (.tbl ps)
theorem nt3 {H : Hp} {p c l : Addr} {kvs : List (Key × V)} {xs ys : List V} (h : H p = some (.dK kvs)) (h1 : H c = some (.lst xs)) (h2 : H l = some (.lst ys)) : NoTb [p, c, l] H := fun a ha ps z => by
  rcases List.mem_cons.mp ha with e | ha
  · rw [e, h] at z; cases z
  · rcases List.mem_cons.mp ha with e | ha
    · rw [e, h1] at z; cases z
    · rw [List.mem_singleton.mp ha, h2] at z; cases z
/-- the object of the draws: at p, by so many draws, over the addresses A -/
structure Mk0 where
  holds : Fr0 → Addr → Nat → List Addr → Hp → Prop
  loc : ∀ {K p n A H H'}, (∀ a ∈ A, ∀ o, H a = some o → H' a = some o) → holds K p n A H → holds K p n A H'
  le : ∀ {K p n m A H}, n ≤ m → holds K p n A H → holds K p m A H
  nt : ∀ {K p n A H}, holds K p n A H → NoTb A H
  /-- the tables of code objects of the makers of lambdas, and the names that they tell -/
  T : List Addr := []
  nm : Nat → Nat → Str := fun _ _ => ""
/-- a table: hidden, nobody's own, what it tells is seen -/
def TabR (F : Hp) (L : List Addr) (H : Hp) (nm : Nat → Nat → Str) (P : Addr) : Prop := F P = none ∧ P ∈ L ∧ ∃ ps : Array Value, H P = some (.tbl ps) ∧ TriplesOk ps.toList ∧ ∀ (pos : Pos) (cv : Value), codeAmong pos ps.toList = some cv → ∃ (c : Addr) (oc : Obj) (vs : Array Value) (t : Tok), cv = .ref c ∧ hide L H c = some (CeO 0 oc) ∧ oc.data = .fields vs ∧ vs[1]? = some (.str (nm pos.line pos.col) t)
def Tb (T : List Addr) (nm : Nat → Nat → Str) (F : Hp) (L : List Addr) (H : Hp) : Prop := ∀ t ∈ T, TabR F L H nm t
theorem Tb.moveC {T : List Addr} {nm : Nat → Nat → Str} {F F' : Hp} {L L' : List Addr} {H H' : Hp} (tb : Tb T nm F L H) (e : ∀ c o, hide L H c = some (CeO 0 o) → hide L' H' c = some (CeO 0 o)) (k : ∀ P ps, F P = none → P ∈ L → H P = some (.tbl ps) → F' P = none ∧ P ∈ L' ∧ H' P = some (.tbl ps)) : Tb T nm F' L' H' := fun t ht => by
  obtain ⟨h1, h2, ps, h3, h4, h5⟩ := tb t ht
  obtain ⟨k1, k2, k3⟩ := k t ps h1 h2 h3
  refine ⟨k1, k2, ps, k3, h4, fun pos cv hc => ?_⟩
  obtain ⟨c, oc, vs, t, e1, e2, e3⟩ := h5 pos cv hc
  exact ⟨c, oc, vs, t, e1, e _ _ e2, e3⟩
theorem Tb.move {T : List Addr} {nm : Nat → Nat → Str} {F F' : Hp} {L L' : List Addr} {H H' : Hp} (tb : Tb T nm F L H) (e : Ex (hide L H) (hide L' H')) (k : ∀ P ps, F P = none → P ∈ L → H P = some (.tbl ps) → F' P = none ∧ P ∈ L' ∧ H' P = some (.tbl ps)) : Tb T nm F' L' H' := tb.moveC (fun c o h => e _ _ h) k
theorem OwAt.notFrz {K : Fr0} {H : Hp} {a : Addr} {o : Obj} {u : HO} : ∀ {c : Ow}, ¬ OwAt K H a (.frz o u) c
  | .l _, ⟨_, h, _⟩ => by cases h
  | .d true _, ⟨_, _, h, _⟩ => by unfold NdO at h; cases h
  | .d false _, ⟨_, _, h, _⟩ => by unfold KdO at h; cases h
  | .o _ _ _, ⟨_, _, _, h, _⟩ => by cases h
theorem OwAt.notTbl {K : Fr0} {H : Hp} {a : Addr} {ps : Array Value} : ∀ {c : Ow}, ¬ OwAt K H a (.tbl ps) c
  | .l _, ⟨_, h, _⟩ => by cases h
  | .d true _, ⟨_, _, h, _⟩ => by unfold NdO at h; cases h
  | .d false _, ⟨_, _, h, _⟩ => by unfold KdO at h; cases h
  | .o _ _ _, ⟨_, _, _, h, _⟩ => by cases h
/-- an exception's attributes -/
def XAt (K : Fr0) (H : Hp) (d : Option Addr) (fl : List (D × D)) : Prop := (fl = [] ∧ d = none) ∨ ∃ dd fs, d = some dd ∧ H dd = some (.xd fs) ∧ RpF K H fs fl
theorem XAt.up {K : Fr0} {H H' : Hp} {d : Option Addr} {fl : List (D × D)} (e : Ex H H') (h : XAt K H d fl) : XAt K H' d fl := by
  rcases h with h | ⟨dd, fs, h1, h2, h3⟩
  · exact .inl h
  · exact .inr ⟨dd, fs, h1, e _ _ h2, rpf_up e h3⟩
/-- one slot -/
def SlOk (K : Fr0) (P : Option Addr) (L : List Addr) (H : Hp) : Sl → Option V → Prop
  | .no, _ => True
  | .d x, o => ∃ v, o = some v ∧ Rp K (hide L H) v x
  | .own c, o => ∃ l u, o = some (.ref l) ∧ l ∈ L ∧ H l = some u ∧ OwAt K (hide L H) l u c
  | .st, o => ∃ p, P = some p ∧ o = some (.ref p)
  | .raw v, o => o = some v
  | .exc a d fl, o => o = some (.ref a) ∧ XAt K (hide L H) d fl
structure R (K : Fr0) (M : Mk0) (P : Option Addr) (F : Hp) (L : List Addr) (ρ : Rho) (σ : L2.St) (H : Hp) : Prop where
  len : σ.length = ρ.sl.length
  sl : ∀ (i : Nat) (s : Sl) (o : Option V), ρ.sl[i]? = some s → σ[i]? = some o → SlOk K P L H s o
  fr : ∀ a o, F a = some o → H a = some o ∧ a ∈ L
  tr : ∀ a ∈ L, ∃ o, H a = some o
  apart : ∀ (i j : Nat) (xs ys : Ow) (l : Addr), i ≠ j → ρ.sl[i]? = some (.own xs) → ρ.sl[j]? = some (.own ys) → σ[i]? = some (some (.ref l)) → σ[j]? = some (some (.ref l)) → False
  ownF : ∀ (i : Nat) (xs : Ow) (l : Addr), ρ.sl[i]? = some (.own xs) → σ[i]? = some (some (.ref l)) → F l = none
  m : ∀ p, P = some p → ∃ A, M.holds K p ρ.n A H ∧ (∀ a ∈ A, a ∈ L ∧ F a = none) ∧ ∀ (i : Nat) (xs : Ow) (l : Addr), ρ.sl[i]? = some (.own xs) → σ[i]? = some (some (.ref l)) → l ∉ A
  tb : Tb M.T M.nm F L H
section
variable {K : Fr0} {M : Mk0} {P : Option Addr} {F : Hp} {L L' : List Addr} {ρ : Rho} {σ : L2.St} {H H' : Hp}
theorem SlOk.ex {s : Sl} {o : Option V} (e : Ex H H') (h : SlOk K P L H s o) : SlOk K P L H' s o := by
  cases s with
  | no => trivial
  | d x =>
    obtain ⟨v, h1, h2⟩ := h
    exact ⟨v, h1, dp_ex (hide_ex e) _ _ h2⟩
  | own xs =>
    obtain ⟨l, vs, h1, h2, h3, h4⟩ := h
    exact ⟨l, vs, h1, h2, e _ _ h3, h4.up (hide_ex e)⟩
  | st => exact h
  | raw v => exact h
  | exc a d fl => exact ⟨h.1, h.2.up (hide_ex e)⟩
/-- everything that was tracked is as it was -/
theorem R.ex (r : R K M P F L ρ σ H) (e : Ex H H') : R K M P F L ρ σ H' where
  len := r.len
  sl := fun i s o h1 h2 => (r.sl i s o h1 h2).ex e
  fr := fun a o h => ⟨e _ _ (r.fr a o h).1, (r.fr a o h).2⟩
  tr := fun a h => let ⟨o, q⟩ := r.tr a h; ⟨o, e _ _ q⟩
  apart := r.apart
  ownF := r.ownF
  m := fun p h => by
    obtain ⟨A, h1, h2, h3⟩ := r.m p h
    exact ⟨A, M.loc (fun a _ o q => e _ _ q) h1, h2, h3⟩
  tb := r.tb.move (hide_ex e) fun P ps h1 h2 h3 => ⟨h1, h2, e _ _ h3⟩
theorem R.get (r : R K M P F L ρ σ H) {i : Nat} {x : D} (h : ρ.sl[i]? = some (.d x)) : ∃ v, σ[i]? = some (some v) ∧ Rp K (hide L H) v x := by
  have hi : i < σ.length := by rw [r.len]; exact (List.getElem?_eq_some_iff.mp h).1
  obtain ⟨v, h1, h2⟩ := r.sl i _ _ h (List.getElem?_eq_getElem hi)
  exact ⟨v, by rw [List.getElem?_eq_getElem hi, h1], h2⟩
theorem R.getOwn (r : R K M P F L ρ σ H) {i : Nat} {xs : Ow} (h : ρ.sl[i]? = some (.own xs)) : ∃ l u, σ[i]? = some (some (.ref l)) ∧ l ∈ L ∧ H l = some u ∧ OwAt K (hide L H) l u xs := by
  have hi : i < σ.length := by rw [r.len]; exact (List.getElem?_eq_some_iff.mp h).1
  obtain ⟨l, vs, h1, h2⟩ := r.sl i _ _ h (List.getElem?_eq_getElem hi)
  exact ⟨l, vs, by rw [List.getElem?_eq_getElem hi, h1], h2⟩
theorem R.getSt (r : R K M P F L ρ σ H) {i : Nat} (h : ρ.sl[i]? = some .st) : ∃ p, P = some p ∧ σ[i]? = some (some (.ref p)) := by
  have hi : i < σ.length := by rw [r.len]; exact (List.getElem?_eq_some_iff.mp h).1
  obtain ⟨p, h1, h2⟩ := r.sl i _ _ h (List.getElem?_eq_getElem hi)
  exact ⟨p, h1, by rw [List.getElem?_eq_getElem hi, h2]⟩
/-- a slot gets data (or is forgotten) -/
theorem R.setD (r : R K M P F L ρ σ H) (i : Nat) (s : Sl) (o : Option V) (hs : SlOk K P L H s o) (ho : ∀ xs, s ≠ .own xs) : R K M P F L (ρ.set i s) (σ.set i o) H where
  len := by simp [r.len]
  sl := fun j t u h1 h2 => by
    by_cases e : j = i
    · subst e
      have hj : j < ρ.sl.length := by
        have := (List.getElem?_eq_some_iff.mp h1).1
        simpa using this
      rw [show (ρ.set j s).sl = ρ.sl.set j s from rfl, List.getElem?_set_self hj] at h1
      rw [List.getElem?_set_self (by rw [r.len]; exact hj)] at h2
      cases h1
      cases h2
      exact hs
    · rw [show (ρ.set i s).sl = ρ.sl.set i s from rfl, List.getElem?_set_ne (fun q => e q.symm)] at h1
      rw [List.getElem?_set_ne (fun q => e q.symm)] at h2
      exact r.sl j t u h1 h2
  fr := r.fr
  tr := r.tr
  apart := fun a b xs ys l hab h1 h2 h3 h4 => by
    have go : ∀ {c : Nat} {zs : Ow}, (ρ.set i s).sl[c]? = some (.own zs) → c ≠ i := fun {c zs} h q => by
      subst q
      have hc : c < ρ.sl.length := by
        have := (List.getElem?_eq_some_iff.mp h).1
        simpa using this
      rw [show (ρ.set c s).sl = ρ.sl.set c s from rfl, List.getElem?_set_self hc] at h
      cases h
      exact ho zs rfl
    have ha := go h1
    have hb := go h2
    rw [show (ρ.set i s).sl = ρ.sl.set i s from rfl, List.getElem?_set_ne (fun q => ha q.symm)] at h1
    rw [show (ρ.set i s).sl = ρ.sl.set i s from rfl, List.getElem?_set_ne (fun q => hb q.symm)] at h2
    rw [List.getElem?_set_ne (fun q => ha q.symm)] at h3
    rw [List.getElem?_set_ne (fun q => hb q.symm)] at h4
    exact r.apart a b xs ys l hab h1 h2 h3 h4
  ownF := fun c zs l h h3 => by
    have hc : c ≠ i := fun q => by
      subst q
      have hc : c < ρ.sl.length := by
        have := (List.getElem?_eq_some_iff.mp h).1
        simpa using this
      rw [show (ρ.set c s).sl = ρ.sl.set c s from rfl, List.getElem?_set_self hc] at h
      cases h
      exact ho zs rfl
    rw [show (ρ.set i s).sl = ρ.sl.set i s from rfl, List.getElem?_set_ne (fun q => hc q.symm)] at h
    rw [List.getElem?_set_ne (fun q => hc q.symm)] at h3
    exact r.ownF c zs l h h3
  m := fun p hp => by
    obtain ⟨A, h1, h2, h3⟩ := r.m p hp
    refine ⟨A, h1, h2, fun c zs l h h4 => ?_⟩
    have hc : c ≠ i := fun q => by
      subst q
      have hc : c < ρ.sl.length := by
        have := (List.getElem?_eq_some_iff.mp h).1
        simpa using this
      rw [show (ρ.set c s).sl = ρ.sl.set c s from rfl, List.getElem?_set_self hc] at h
      cases h
      exact ho zs rfl
    rw [show (ρ.set i s).sl = ρ.sl.set i s from rfl, List.getElem?_set_ne (fun q => hc q.symm)] at h
    rw [List.getElem?_set_ne (fun q => hc q.symm)] at h4
    exact h3 c zs l h h4
  tb := r.tb
end
end PD
namespace PD
open PySem L2
open Evl (Ex)
section
variable {K : Fr0} {M : Mk0} {P : Option Addr} {F : Hp} {L L' : List Addr} {ρ : Rho} {σ : L2.St} {H H' : Hp}
def Own (ρ : Rho) (σ : L2.St) (a : Addr) : Prop := ∃ (i : Nat) (xs : Ow), ρ.sl[i]? = some (Sl.own xs) ∧ σ[i]? = some (some (V.ref a))
open Classical in
/-- what a callee must leave as it is, besides what is told by Ex -/
noncomputable def keepF (ρ : Rho) (σ : L2.St) (F H : Hp) : Hp := fun a => if Own ρ σ a then H a else F a
theorem keepF_own {a : Addr} (h : Own ρ σ a) : keepF ρ σ F H a = H a := by unfold keepF; rw [if_pos h]
theorem keepF_not {a : Addr} (h : ¬ Own ρ σ a) : keepF ρ σ F H a = F a := by unfold keepF; rw [if_neg h]
/-- slots without lists of one's own -/
def Bare (ρ : Rho) : Prop := ∀ (i : Nat) (xs : Ow), ρ.sl[i]? ≠ some (.own xs)
theorem R.notOwnT (r : R K M P F L ρ σ H) {a : Addr} {ps : Array Value} (h : H a = some (.tbl ps)) : ¬ Own ρ σ a := fun ⟨i, xs, h1, h2⟩ => by
  obtain ⟨l, u, g1, _, g3, g4⟩ := r.getOwn h1
  rw [h2] at g1
  cases g1
  rw [h] at g3
  cases g3
  exact OwAt.notTbl g4
theorem R.frame (r : R K M P F L ρ σ H) {ρc : Rho} {σc : L2.St} (hb : Bare ρc) (hn : ρc.n = ρ.n) (hl : σc.length = ρc.sl.length)
    (hs : ∀ (i : Nat) (s : Sl) (o : Option V), ρc.sl[i]? = some s → σc[i]? = some o → SlOk K P L H s o) : R K M P (keepF ρ σ F H) L ρc σc H where
  len := hl
  sl := hs
  fr := fun a o h => by
    by_cases ho : Own ρ σ a
    · rw [keepF_own ho] at h
      obtain ⟨i, xs, h1, h2⟩ := ho
      obtain ⟨l, vs, h3, h4, _⟩ := r.getOwn h1
      rw [h2] at h3
      cases h3
      exact ⟨h, h4⟩
    · rw [keepF_not ho] at h
      exact r.fr a o h
  tr := r.tr
  apart := fun i j xs ys l _ h => absurd h (hb i xs)
  ownF := fun i xs l h => absurd h (hb i xs)
  m := fun p hp => by
    obtain ⟨A, h1, h2, h3⟩ := r.m p hp
    refine ⟨A, by rw [hn]; exact h1, fun a ha => ⟨(h2 a ha).1, ?_⟩, fun i xs l h => absurd h (hb i xs)⟩
    have hno : ¬ Own ρ σ a := fun ⟨i, xs, h4, h5⟩ => h3 i xs a h4 h5 ha
    rw [keepF_not hno]
    exact (h2 a ha).2
  tb := r.tb.move (Ex.refl _) fun P ps h1 h2 h3 => ⟨by rw [keepF_not (r.notOwnT h3)]; exact h1, h2, h3⟩
theorem R.back (r : R K M P F L ρ σ H) {ρc : Rho} {σc : L2.St} (r' : R K M P (keepF ρ σ F H) L' ρc σc H') (e : Ex (hide L H) (hide L' H')) : R K M P F L' ⟨ρ.sl, ρc.n⟩ σ H' where
  len := r.len
  sl := fun i s o h1 h2 => by
    have q := r.sl i s o h1 h2
    cases s with
    | no => trivial
    | d x =>
      obtain ⟨v, h3, h4⟩ := q
      exact ⟨v, h3, dp_ex e _ _ h4⟩
    | own xs =>
      obtain ⟨l, vs, h3, h4, h5, h6⟩ := q
      have ho : Own ρ σ l := ⟨i, xs, h1, by rw [h2, h3]⟩
      have hf := r'.fr l vs (by rw [keepF_own ho]; exact h5)
      exact ⟨l, vs, h3, hf.2, hf.1, h6.up e⟩
    | st => exact q
    | raw v => exact q
    | exc a d fl => exact ⟨q.1, q.2.up e⟩
  fr := fun a o h => by
    have hno : ¬ Own ρ σ a := fun ⟨i, xs, h4, h5⟩ => by
      have := r.ownF i xs a h4 h5
      rw [h] at this
      cases this
    exact r'.fr a o (by rw [keepF_not hno]; exact h)
  tr := r'.tr
  apart := r.apart
  ownF := r.ownF
  m := fun p hp => by
    obtain ⟨A, h1, h2, h3⟩ := r'.m p hp
    have hA : ∀ a ∈ A, ¬ Own ρ σ a := fun a ha ho => by
      have q := (h2 a ha).2
      rw [keepF_own ho] at q
      obtain ⟨i, xs, h4, h5⟩ := ho
      obtain ⟨l, vs, h6, _, h8, _⟩ := r.getOwn h4
      rw [h5] at h6
      cases h6
      rw [h8] at q
      cases q
    refine ⟨A, h1, fun a ha => ⟨(h2 a ha).1, ?_⟩, fun i xs l h4 h5 hl => hA l hl ⟨i, xs, h4, h5⟩⟩
    have q := (h2 a ha).2
    rw [keepF_not (hA a ha)] at q
    exact q
  tb := r'.tb.move (Ex.refl _) fun P ps h1 h2 h3 => by
    refine ⟨?_, h2, h3⟩
    cases z : F P with
    | none => rfl
    | some o =>
      have hno : ¬ Own ρ σ P := fun ⟨i, xs, h4, h5⟩ => by
        have := r.ownF i xs P h4 h5
        rw [z] at this
        cases this
      rw [keepF_not hno, z] at h1
      cases h1
/-- a new object is laid -/
theorem R.laid (r : R K M P F L ρ σ H) {p : Addr} {o : HO} (hp : H p = none) : R K M P F L ρ σ (upd H p o) := r.ex (Ex.new hp)
theorem R.notL (r : R K M P F L ρ σ H) {p : Addr} (hp : H p = none) : p ∉ L := fun z => by
  obtain ⟨o, q⟩ := r.tr p z
  rw [hp] at q
  cases q
/-- an address is hidden that nobody speaks of -/
theorem R.hideMore (r : R K M P F L ρ σ H) {p : Addr} (hp : H p = none) {o : HO} : R K M P F (p :: L) ρ σ (upd H p o) where
  len := r.len
  sl := fun i s u h1 h2 => by
    have q := r.sl i s u h1 h2
    have hne : Ex (hide L H) (hide (p :: L) (upd H p o)) := fun a b hb => by
      obtain ⟨h3, h4⟩ := hide_some.mp hb
      have n : a ≠ p := ne_of_none h4 hp
      exact hide_some.mpr ⟨fun z => by
        rcases List.mem_cons.mp z with z | z
        · exact n z
        · exact h3 z, by rw [upd_ne n]; exact h4⟩
    cases s with
    | no => trivial
    | d x =>
      obtain ⟨v, h3, h4⟩ := q
      exact ⟨v, h3, dp_ex hne _ _ h4⟩
    | own xs =>
      obtain ⟨l, vs, h3, h4, h5, h6⟩ := q
      exact ⟨l, vs, h3, List.mem_cons_of_mem _ h4, by rw [upd_ne (ne_of_none h5 hp)]; exact h5, h6.up hne⟩
    | st => exact q
    | raw v => exact q
    | exc a d fl => exact ⟨q.1, q.2.up hne⟩
  fr := fun a b h => by
    have q := r.fr a b h
    exact ⟨by rw [upd_ne (ne_of_none q.1 hp)]; exact q.1, List.mem_cons_of_mem _ q.2⟩
  tr := fun a h => by
    rcases List.mem_cons.mp h with z | z
    · subst z
      exact ⟨o, upd_same⟩
    · obtain ⟨b, q⟩ := r.tr a z
      exact ⟨b, by rw [upd_ne (ne_of_none q hp)]; exact q⟩
  apart := r.apart
  ownF := r.ownF
  m := fun q hq => by
    obtain ⟨A, h1, h2, h3⟩ := r.m q hq
    exact ⟨A, M.loc (fun a ha b hb => by rw [upd_ne (ne_of_none hb hp)]; exact hb) h1, fun a ha => ⟨List.mem_cons_of_mem _ (h2 a ha).1, (h2 a ha).2⟩, h3⟩
  tb := r.tb.move (fun a b hb => by
    obtain ⟨h3, h4⟩ := hide_some.mp hb
    have n : a ≠ p := ne_of_none h4 hp
    exact hide_some.mpr ⟨fun z => (List.mem_cons.mp z).elim n h3, by rw [upd_ne n]; exact h4⟩) fun P ps h1 h2 h3 => ⟨h1, List.mem_cons_of_mem _ h2, by rw [upd_ne (ne_of_none h3 hp)]; exact h3⟩
end
abbrev KD := D → Rho → Prop
abbrev FE := Rho → KD → Prop
abbrev FT := Rho → (Bool → Rho → Prop) → Prop
abbrev FA := Rho → (List Sl → Rho → Prop) → Prop
def KV' (K : Fr0) (M : Mk0) (P : Option Addr) (F : Hp) (L : List Addr) (σ : L2.St) (H : Hp) (Q : VK) : KD := fun d ρ' => ∀ v L' H', Ex (hide L H) (hide L' H') → R K M P F L' ρ' σ H' → Rp K (hide L' H') v d → Q v H'
def DE (K : Fr0) (M : Mk0) (f : FE) : TE := fun σ H Q => ∃ P F L ρ, R K M P F L ρ σ H ∧ f ρ (KV' K M P F L σ H Q)
def DT (K : Fr0) (M : Mk0) (f : FT) : TT := fun σ H Q => ∃ P F L ρ, R K M P F L ρ σ H ∧ f ρ fun b ρ' => ∀ L' H', Ex (hide L H) (hide L' H') → R K M P F L' ρ' σ H' → Q b H'
def DA (K : Fr0) (M : Mk0) (f : FA) : TA := fun σ H Q => ∃ P F L ρ, R K M P F L ρ σ H ∧ f ρ fun ss ρ' => ∀ vs L' H', Ex (hide L H) (hide L' H') → R K M P F L' ρ' σ H' → vs.length = ss.length →
  (∀ (i : Nat) (s : Sl) (v : V), ss[i]? = some s → vs[i]? = some v → SlOk K P L' H' s (some v)) → (∀ (i : Nat) (xs : Ow), ss[i]? ≠ some (.own xs)) → Q vs H'
/-- a new list, hidden as yet -/
abbrev FN := Rho → (List D → Rho → Prop) → Prop
structure Post where
  nx : Rho → Prop
  rt : D → Rho → Prop
  bk : Rho → Prop := fun _ => False
  ct : Rho → Prop := fun _ => False
structure Post.Le (p q : Post) : Prop where
  nx : ∀ ρ, p.nx ρ → q.nx ρ
  rt : ∀ d ρ, p.rt d ρ → q.rt d ρ
  bk : ∀ ρ, p.bk ρ → q.bk ρ
  ct : ∀ ρ, p.ct ρ → q.ct ρ
abbrev FS := Rho → Post → Prop
def postOf (K : Fr0) (M : Mk0) (P : Option Addr) (F : Hp) (L : List Addr) (H : Hp) (D : Ends) : Post where
  nx := fun ρ' => ∀ σ' L' H', Ex (hide L H) (hide L' H') → R K M P F L' ρ' σ' H' → D.nx σ' H'
  rt := fun d ρ' => ∀ v σ' L' H', Ex (hide L H) (hide L' H') → R K M P F L' ρ' σ' H' → Rp K (hide L' H') v d → D.rt v H'
  bk := fun ρ' => ∀ σ' L' H', Ex (hide L H) (hide L' H') → R K M P F L' ρ' σ' H' → D.bk σ' H'
  ct := fun ρ' => ∀ σ' L' H', Ex (hide L H) (hide L' H') → R K M P F L' ρ' σ' H' → D.ct σ' H'
def DS (K : Fr0) (M : Mk0) (f : FS) : TS := fun D σ H => ∃ P F L ρ, R K M P F L ρ σ H ∧ f ρ (postOf K M P F L H D)
/-- assignment to a target, of data -/
abbrev FG := D → Rho → (Rho → Prop) → Prop
structure PD (X : Cx) (M : Mk0) (e : Expr) (f : FE) : Prop where
  pe : PE X e (DE X.k0 M f)
  mono : ∀ ρ k k', (∀ d ρ', k d ρ' → k' d ρ') → f ρ k → f ρ k'
structure PDT (X : Cx) (M : Mk0) (e : Expr) (f : FT) : Prop where
  pt : PT X e (DT X.k0 M f)
  mono : ∀ ρ k k', (∀ d ρ', k d ρ' → k' d ρ') → f ρ k → f ρ k'
structure PDA (X : Cx) (M : Mk0) (es : List Expr) (f : FA) : Prop where
  pa : PA X es (DA X.k0 M f)
  mono : ∀ ρ k k', (∀ d ρ', k d ρ' → k' d ρ') → f ρ k → f ρ k'
structure PDS (X : Cx) (M : Mk0) (st : Stmt) (f : FS) : Prop where
  ps : PS X st (DS X.k0 M f)
  mono : ∀ ρ k k', Post.Le k k' → f ρ k → f ρ k'
structure PDs (X : Cx) (M : Mk0) (st : List Stmt) (f : FS) : Prop where
  ps : PSs X st (DS X.k0 M f)
  mono : ∀ ρ k k', Post.Le k k' → f ρ k → f ρ k'
section
variable {X : Cx} {M : Mk0} {a b c e : Expr} {es : List Expr} {fa fb fc : FE} {pos : Pos}
theorem PE.wk {t t' : TE} (h : PE X e t) (w : ∀ σ H Q, t' σ H Q → t σ H Q) : PE X e t' := ⟨fun pins s σ H Q I q => h.run pins s σ H Q I (w σ H Q q)⟩
theorem PT.wk {t t' : TT} (h : PT X e t) (w : ∀ σ H Q, t' σ H Q → t σ H Q) : PT X e t' := ⟨fun pins s σ H Q I q => h.run pins s σ H Q I (w σ H Q q)⟩
theorem PA.wk {t t' : TA} (h : PA X es t) (w : ∀ σ H Q, t' σ H Q → t σ H Q) : PA X es t' := ⟨fun pos pins s σ H Q I q => h.run pos pins s σ H Q I (w σ H Q q)⟩
theorem PS.wk {st : Stmt} {t t' : TS} (h : PS X st t) (w : ∀ D σ H, t' D σ H → t D σ H) : PS X st t' := ⟨fun pins s σ H D I q => h.run pins s σ H D I (w D σ H q)⟩
theorem PSs.wk {st : List Stmt} {t t' : TS} (h : PSs X st t) (w : ∀ D σ H, t' D σ H → t D σ H) : PSs X st t' := ⟨fun pins s σ H D I q => h.run pins s σ H D I (w D σ H q)⟩
theorem PG.wk {t t' : TG} (h : PG X e t) (w : ∀ v σ H Q, t' v σ H Q → t v σ H Q) : PG X e t' := ⟨fun pins s σ H v u Q I r q => h.run pins s σ H v u Q I r (w v σ H Q q)⟩
def fVar (i : Nat) : FE := fun ρ k => ∃ x, ρ.sl[i]? = some (.d x) ∧ k x ρ
theorem pd_var {i : Nat} {x : Str} (h : PE X (.Name x pos) (tVar i)) : PD X M (.Name x pos) (fVar i) := by
  refine ⟨PE.wk h fun σ H Q ⟨P, F, L, ρ, r, x, hx, k⟩ => ?_, fun ρ k k' h ⟨x, h1, h2⟩ => ⟨x, h1, h _ _ h2⟩⟩
  obtain ⟨v, h1, h2⟩ := r.get hx
  exact ⟨v, h1, k v L H (Ex.refl _) r h2⟩
def fC (d : D) : FE := fun ρ k => k d ρ
theorem pd_const {v : V} {d : D} (h : PE X e (tC v)) (hd : ∀ H, Rp X.k0 H v d) : PD X M e (fC d) := by
  refine ⟨PE.wk h fun σ H Q ⟨P, F, L, ρ, r, k⟩ => ?_, fun ρ k k' h h2 => h _ _ h2⟩
  exact k v L H (Ex.refl _) r (hd _)
theorem pd_int {i : Int} {j : Nat} : PD X M (.Constant (.int i) j pos) (fC (.int i)) := pd_const pe_int fun _ => .int i
theorem pd_bl {b : Bool} {j : Nat} : PD X M (.Constant (.bool b) j pos) (fC (.bool b)) := pd_const pe_bl fun _ => .bl b
theorem pd_non {j : Nat} : PD X M (.Constant .none j pos) (fC .none) := pd_const pe_non fun _ => .non
theorem pd_str {x : Str} {j : Nat} : PD X M (.Constant (.str x) j pos) (fC (.str x)) := pd_const pe_str fun _ => .str x
/-- a module's constant, an int -/
theorem pd_gint {x : Str} {i : Int} (hg : Gl X x) (hm : ∃ t, X.mg x = some (.int i t)) (hd : (x == ("__debug__" : Str)) = false := by decide) : PD X M (.Name x pos) (fC (.int i)) := by
  obtain ⟨t, hm⟩ := hm
  exact pd_const (v := V.int i) (pe_glob hg hm ⟨t, rfl⟩ hd) fun _ => .int i
/-- a two-place operation, by data -/
def R2D (K : Fr0) (r : R2) (g : D → D → Option D) : Prop := ∀ (L : List Addr) (H : Hp) (x y : V) (dx dy d : D) (Q : VK), (∀ a ∈ L, ∃ o, H a = some o) → Rp K (hide L H) x dx → Rp K (hide L H) y dy → g dx dy = some d →
  (∀ v H', Ex H H' → Rp K (hide L H') v d → Q v H') → r x y H Q
def fOp (g : D → D → Option D) (fa fb : FE) : FE := fun ρ k => fa ρ fun x ρ1 => fb ρ1 fun y ρ2 => ∃ d, g x y = some d ∧ k d ρ2
theorem dOp {r : R2} {g : D → D → Option D} (hg : R2D X.k0 r g) (ma : ∀ ρ k k', (∀ d ρ', k d ρ' → k' d ρ') → fa ρ k → fa ρ k') (mb : ∀ ρ k k', (∀ d ρ', k d ρ' → k' d ρ') → fb ρ k → fb ρ k')
    (σ : L2.St) (H : Hp) (Q : VK) (h : DE X.k0 M (fOp g fa fb) σ H Q) : tOp r (DE X.k0 M fa) (DE X.k0 M fb) σ H Q := by
  obtain ⟨P, F, L, ρ, r0, k⟩ := h
  refine ⟨P, F, L, ρ, r0, ma _ _ _ (fun x ρ1 q v L1 H1 e1 r1 d1 => ?_) k⟩
  refine ⟨P, F, L1, ρ1, r1, mb _ _ _ (fun y ρ2 ⟨d, hd, q2⟩ u L2 H2 e2 r2 d2 => ?_) q⟩
  exact hg L2 H2 v u x y d Q r2.tr (dp_ex e2 _ _ d1) d2 hd fun w H3 e3 d3 => q2 w L2 H3 ((e1.trans e2).trans (hide_ex e3)) (r2.ex e3) d3
theorem fOp_mono {g : D → D → Option D} (ma : ∀ ρ k k', (∀ d ρ', k d ρ' → k' d ρ') → fa ρ k → fa ρ k') (mb : ∀ ρ k k', (∀ d ρ', k d ρ' → k' d ρ') → fb ρ k → fb ρ k') (ρ : Rho) (k k' : KD)
    (h : ∀ d ρ', k d ρ' → k' d ρ') (q : fOp g fa fb ρ k) : fOp g fa fb ρ k' := ma _ _ _ (fun x ρ1 q => mb _ _ _ (fun y ρ2 ⟨d, h1, h2⟩ => ⟨d, h1, h _ _ h2⟩) q) q
theorem pd_op {op : Operator} {r : R2} {g : D → D → Option D} (ho : OpR X (binaryOp op) r) (hg : R2D X.k0 r g) (ha : PD X M a fa) (hb : PD X M b fb) : PD X M (.BinOp a op b pos) (fOp g fa fb) :=
  ⟨PE.wk (pe_op ho ha.pe hb.pe) (dOp hg ha.mono hb.mono), fOp_mono ha.mono hb.mono⟩
theorem pd_cmp {op : CmpOp} {r : R2} {g : D → D → Option D} (ho : OpR X (compareOp op) r) (hg : R2D X.k0 r g) (ha : PD X M a fa) (hb : PD X M b fb) (hm : behindInMarks op b = false) : PD X M (.Compare a [op] [b] pos) (fOp g fa fb) :=
  ⟨PE.wk (pe_cmpR ho ha.pe hb.pe hm) (dOp hg ha.mono hb.mono), fOp_mono ha.mono hb.mono⟩
theorem pd_ix {r : R2} {g : D → D → Option D} (ho : IxR X r) (hg : R2D X.k0 r g) (ha : PD X M a fa) (hb : PD X M b fb) (hs : PlainIx b) : PD X M (.Subscript a b pos) (fOp g fa fb) :=
  ⟨PE.wk (pe_ix ho ha.pe hb.pe hs) (dOp hg ha.mono hb.mono), fOp_mono ha.mono hb.mono⟩
def R1D (K : Fr0) (r : V → Hp → VK → Prop) (g : D → Option D) : Prop := ∀ (L : List Addr) (H : Hp) (x : V) (dx d : D) (Q : VK), (∀ a ∈ L, ∃ o, H a = some o) → Rp K (hide L H) x dx → g dx = some d →
  (∀ v H', Ex H H' → Rp K (hide L H') v d → Q v H') → r x H Q
def fUn (g : D → Option D) (fa : FE) : FE := fun ρ k => fa ρ fun x ρ1 => ∃ d, g x = some d ∧ k d ρ1
theorem fUn_mono {g : D → Option D} (ma : ∀ ρ k k', (∀ d ρ', k d ρ' → k' d ρ') → fa ρ k → fa ρ k') (ρ : Rho) (k k' : KD) (h : ∀ d ρ', k d ρ' → k' d ρ') (q : fUn g fa ρ k) : fUn g fa ρ k' :=
  ma _ _ _ (fun x ρ1 ⟨d, h1, h2⟩ => ⟨d, h1, h _ _ h2⟩) q
theorem dUn {r : V → Hp → VK → Prop} {g : D → Option D} (hg : R1D X.k0 r g) (ma : ∀ ρ k k', (∀ d ρ', k d ρ' → k' d ρ') → fa ρ k → fa ρ k')
    (σ : L2.St) (H : Hp) (Q : VK) (h : DE X.k0 M (fUn g fa) σ H Q) : DE X.k0 M fa σ H fun x H1 => r x H1 Q := by
  obtain ⟨P, F, L, ρ, r0, k⟩ := h
  refine ⟨P, F, L, ρ, r0, ma _ _ _ (fun x ρ1 ⟨d, hd, q2⟩ v L1 H1 e1 r1 d1 => ?_) k⟩
  exact hg L1 H1 v x d Q r1.tr d1 hd fun w H3 e3 d3 => q2 w L1 H3 (e1.trans (hide_ex e3)) (r1.ex e3) d3
theorem pd_un {op : UnaryOp} {r : V → Hp → VK → Prop} {g : D → Option D} (ho : UnR X (unaryOp op) r) (hg : R1D X.k0 r g) (ha : PD X M a fa) : PD X M (.UnaryOp op a pos) (fUn g fa) :=
  ⟨PE.wk (pe_un ho ha.pe) (dUn hg ha.mono), fUn_mono ha.mono⟩
/-- a built-in of one argument -/
theorem pd_b1 {x : Str} {p : Pos} {id : String} {r : List V → Hp → VK → Prop} {g : D → Option D} (hc : CallR X (.builtin id) r) (hg' : R1D X.k0 (fun x => r [x]) g) (hg : Gl X x) (hm : X.mg x = none) (hv : bootBuiltins x = some (.builtin id)) (ha : PD X M a fa)
    (hn : x ≠ "__name__" := by decide) (hdb : (x == ("__debug__" : Str)) = false := by decide) (hs : starEach [a] X.env = (false, eval a X.env) :: starEach [] X.env := by rfl) :
    PD X M (.Call (.Name x p) [a] [] pos) (fUn g fa) := by
  refine ⟨PE.wk (pe_callB hc hg hm hv (pa_cons ha.pe pa_nil hs) hn hdb hs) fun σ H Q h => ?_, fUn_mono ha.mono⟩
  exact dUn (r := fun x => r [x]) hg' ha.mono σ H Q h
theorem pd_t1 {x : Str} {p : Pos} {id : String} {r : List V → Hp → VK → Prop} {g : D → Option D} (hc : CallR X (.type id) r) (hg' : R1D X.k0 (fun x => r [x]) g) (hg : Gl X x) (hm : X.mg x = none) (hv : bootBuiltins x = some (.type id)) (ha : PD X M a fa)
    (hn : x ≠ "__name__" := by decide) (hdb : (x == ("__debug__" : Str)) = false := by decide) (hs : starEach [a] X.env = (false, eval a X.env) :: starEach [] X.env := by rfl) :
    PD X M (.Call (.Name x p) [a] [] pos) (fUn g fa) := by
  refine ⟨PE.wk (pe_callTy hc hg hm hv (pa_cons ha.pe pa_nil hs) hn hdb hs) fun σ H Q h => ?_, fUn_mono ha.mono⟩
  exact dUn (r := fun x => r [x]) hg' ha.mono σ H Q h
/-- a built-in of two arguments -/
theorem pd_b2 {x : Str} {p : Pos} {id : String} {r : List V → Hp → VK → Prop} {g : D → D → Option D} (hc : CallR X (.builtin id) r) (hg' : R2D X.k0 (fun x y => r [x, y]) g) (hg : Gl X x) (hm : X.mg x = none) (hv : bootBuiltins x = some (.builtin id)) (ha : PD X M a fa) (hb : PD X M b fb)
    (hn : x ≠ "__name__" := by decide) (hdb : (x == ("__debug__" : Str)) = false := by decide) (hs : starEach [a, b] X.env = (false, eval a X.env) :: starEach [b] X.env := by rfl) (hs2 : starEach [b] X.env = (false, eval b X.env) :: starEach [] X.env := by rfl)
    (hpl : (backTo pos (starEach [b] X.env)).any (·.1) = false := by rfl) :
    PD X M (.Call (.Name x p) [a, b] [] pos) (fOp g fa fb) := by
  refine ⟨PE.wk (pe_callB hc hg hm hv (pa_cons ha.pe (pa_cons hb.pe pa_nil hs2) hs) hn hdb hs hpl) fun σ H Q h => ?_, fOp_mono ha.mono hb.mono⟩
  exact dOp (r := fun x y => r [x, y]) hg' ha.mono hb.mono σ H Q h
end
end PD
namespace PD
open PySem L2
open Evl (Ex)
mutual
theorem dpm {K : Fr0} {H H' : Hp} (e : Ex H H') : ∀ (d : D) (v : V), Dp K.f H v d → Dp K.f H' v d
  | .none, _, h => by cases h; exact .non
  | .bool b, _, h => by cases h; exact .bl b
  | .int i, _, h => by cases h; exact .int i
  | .str x, _, h => by cases h; exact .str x
  | .list ds, _, h => by
    cases h with
    | lst hs ha => exact .lst (Evl.ex_l e hs) (dpma e ds _ ha)
  | .tuple ds, _, h => by
    cases h with
    | tup hs ha => exact .tup (Evl.ex_t e hs) (dpma e ds _ ha)
  | .dict _, _, h => by cases h
theorem dpma {K : Fr0} {H H' : Hp} (e : Ex H H') : ∀ (ds : List D) (vs : List V), DpAll K.f H vs ds → DpAll K.f H' vs ds
  | [], _, h => by cases h; exact .nil
  | d :: ds, _, h => by
    cases h with
    | cons h1 h2 => exact .cons (dpm e d _ h1) (dpma e ds _ h2)
end
section
variable {K : Fr0} {L : List Addr} {H : Hp} {p : Addr} {vs : List V} {ds : List D}
theorem hide_new {o : HO} (tr : ∀ a ∈ L, ∃ o, H a = some o) (hp : H p = none) : hide L (upd H p o) p = some o := by
  refine hide_some.mpr ⟨fun z => ?_, upd_same⟩
  obtain ⟨o, q⟩ := tr p z
  rw [hp] at q
  cases q
theorem new_lst (tr : ∀ a ∈ L, ∃ o, H a = some o) (hp : H p = none) (h : RpAll K (hide L H) vs ds) : Rp K (hide L (upd H p (.lst vs))) (.ref p) (.list ds) :=
  .lst (.inl (.inl (hide_new tr hp))) (dpa_ex (hide_ex (Ex.new hp)) _ _ h)
theorem new_tup (tr : ∀ a ∈ L, ∃ o, H a = some o) (hp : H p = none) (h : RpAll K (hide L H) vs ds) : Rp K (hide L (upd H p (.tup vs))) (.ref p) (.tuple ds) :=
  .tup (.inl (.inl (hide_new tr hp))) (dpa_ex (hide_ex (Ex.new hp)) _ _ h)
theorem sqt_le (h : SqT K.f (hide L H) p vs) : SqT K.f H p vs := Evl.ex_t (hide_le L H) h
theorem sql_le (h : SqL K.f (hide L H) p vs) : SqL K.f H p vs := Evl.ex_l (hide_le L H) h
theorem rp_list {v : V} (h : Rp K (hide L H) v (.list ds)) : ∃ a xs, v = .ref a ∧ SqL K.f H a xs ∧ RpAll K (hide L H) xs ds := by
  cases h with
  | lst h1 h2 => exact ⟨_, _, rfl, sql_le h1, h2⟩
theorem rp_tuple {v : V} (h : Rp K (hide L H) v (.tuple ds)) : ∃ a xs, v = .ref a ∧ SqT K.f H a xs ∧ RpAll K (hide L H) xs ds := by
  cases h with
  | tup h1 h2 => exact ⟨_, _, rfl, sqt_le h1, h2⟩
theorem rp_int {v : V} {i : Int} (h : Rp K H v (.int i)) : v = .int i := by cases h; rfl
theorem rp_bool {v : V} {i : Bool} (h : Rp K H v (.bool i)) : v = .bl i := by cases h; rfl
theorem rp_str {v : V} {i : Str} (h : Rp K H v (.str i)) : v = .str i := by cases h; rfl
theorem rp_none {v : V} (h : Rp K H v .none) : v = .non := by cases h; rfl
end
theorem dp_le {K : Fr0} {L : List Addr} {H : Hp} {v : V} {d : D} (h : Dp K.f (hide L H) v d) : Dp K.f H v d := by
  exact dpm (hide_le L H) d v h
def gAdd : D → D → Option D
  | .int i, .int j => some (.int (i + j))
  | .str x, .str y => if x.length + y.length ≤ sizeLine then some (.str (x ++ y)) else none
  | .tuple xs, .tuple ys => if xs.length + ys.length ≤ sizeLine then some (.tuple (xs ++ ys)) else none
  | .list xs, .list ys => if xs.length + ys.length ≤ sizeLine then some (.list (xs ++ ys)) else none
  | _, _ => none
def gSub : D → D → Option D
  | .int i, .int j => some (.int (i - j))
  | _, _ => none
/-- one of the factors is small -/
def gMul : D → D → Option D
  | .int i, .int j => if (-(2 ^ 64) < i ∧ i < 2 ^ 64) ∨ (-(2 ^ 64) < j ∧ j < 2 ^ 64) then some (.int (i * j)) else none
  | .tuple xs, .int k => if xs ≠ [] ∧ 2 ≤ k ∧ k ≤ 1000 ∧ xs.length ≤ 1000 then some (.tuple (List.replicate k.toNat xs).flatten) else none
  | _, _ => none
def gMod : D → D → Option D
  | .int i, .int j => if 0 < j then some (.int (i % j)) else none
  | _, _ => none
def gPow : D → D → Option D
  | .int i, .int j => if 0 ≤ j ∧ j ≤ 1000000 ∧ i.natAbs < 2 ^ 64 then some (.int (i ^ j.toNat)) else none
  | _, _ => none
def gCmp (p : Int → Int → Bool) : D → D → Option D
  | .int i, .int j => some (.bool (p i j))
  | _, _ => none
abbrev gLt := gCmp fun i j => decide (i < j)
abbrev gLe := gCmp fun i j => decide (i ≤ j)
abbrev gGe := gCmp fun i j => decide (j ≤ i)
def gEq (x y : D) : Option D := if SeqAt.shaped x = true ∧ SeqAt.shaped y = true then some (.bool (PyData.eqv x y)) else none
def gNe (x y : D) : Option D := if SeqAt.shaped x = true ∧ SeqAt.shaped y = true then some (.bool (!PyData.eqv x y)) else none
def gIsN : D → D → Option D
  | x, .none => some (.bool (match x with | .none => true | _ => false))
  | _, _ => none
def flatD : D → Bool
  | .none | .bool _ | .int _ | .str _ => true
  | _ => false
def gIn : D → D → Option D
  | x, .list ys => if flatD x = true ∧ ys.all flatD = true then some (.bool (ys.any fun y => PyData.eqv y x)) else none
  | x, .tuple ys => if flatD x = true ∧ ys.all flatD = true then some (.bool (ys.any fun y => PyData.eqv y x)) else none
  | _, _ => none
def gNotIn : D → D → Option D
  | x, .list ys => if flatD x = true ∧ ys.all flatD = true then some (.bool (!ys.any fun y => PyData.eqv y x)) else none
  | x, .tuple ys => if flatD x = true ∧ ys.all flatD = true then some (.bool (!ys.any fun y => PyData.eqv y x)) else none
  | _, _ => none
def gIx : D → D → Option D
  | .list xs, .int i => atI xs i
  | .tuple xs, .int i => atI xs i
  | _, _ => none
def gLen : D → Option D
  | .list xs => some (.int xs.length)
  | .tuple xs => some (.int xs.length)
  | .str x => if x.length ≤ sizeLine then some (.int x.length) else none
  | _ => none
def gTuple : D → Option D
  | .list xs => some (.tuple xs)
  | .tuple xs => some (.tuple xs)
  | _ => none
def gMin2 : D → D → Option D
  | .int i, .int j => some (.int (if j < i then j else i))
  | _, _ => none
def boolsD : List D → Option (List Bool)
  | [] => some []
  | .bool b :: r => (boolsD r).map (b :: ·)
  | _ :: _ => none
def intsD : List D → Option (List Int)
  | [] => some []
  | .int b :: r => (intsD r).map (b :: ·)
  | _ :: _ => none
theorem boolsD_eq : ∀ {ds : List D} {bs : List Bool}, boolsD ds = some bs → ds = bs.map PyData.bool
  | [], _, h => by cases h; rfl
  | .bool b :: r, bs, h => by
    unfold boolsD at h
    cases e : boolsD r with
    | none => rw [e] at h; cases h
    | some cs =>
      rw [e] at h
      cases h
      rw [boolsD_eq e]
      rfl
  | .none :: _, _, h => by cases h
  | .int _ :: _, _, h => by cases h
  | .str _ :: _, _, h => by cases h
  | .list _ :: _, _, h => by cases h
  | .tuple _ :: _, _, h => by cases h
  | .dict _ :: _, _, h => by cases h
theorem intsD_eq : ∀ {ds : List D} {bs : List Int}, intsD ds = some bs → ds = bs.map PyData.int
  | [], _, h => by cases h; rfl
  | .int b :: r, bs, h => by
    unfold intsD at h
    cases e : intsD r with
    | none => rw [e] at h; cases h
    | some cs =>
      rw [e] at h
      cases h
      rw [intsD_eq e]
      rfl
  | .none :: _, _, h => by cases h
  | .bool _ :: _, _, h => by cases h
  | .str _ :: _, _, h => by cases h
  | .list _ :: _, _, h => by cases h
  | .tuple _ :: _, _, h => by cases h
  | .dict _ :: _, _, h => by cases h
def gAll : D → Option D
  | .list xs => (boolsD xs).map fun bs => .bool (bs.all id)
  | _ => none
def gAny : D → Option D
  | .list xs => (boolsD xs).map fun bs => .bool (bs.any id)
  | _ => none
def isort (ns : List Int) : List Int := ns.mergeSort (fun a b => decide (a ≤ b))
theorem isort_of {ns ns' : List Int} (hp : ns'.Perm ns) (hs : ns'.Pairwise (· ≤ ·)) : ns' = isort ns := by
  have h1 : (isort ns).Perm ns := List.mergeSort_perm _ _
  have h2 : (isort ns).Pairwise (fun a b => decide (a ≤ b) = true) := List.pairwise_mergeSort (fun a b c h1 h2 => by simp at *; omega) (fun a b => by simp; omega) ns
  have h3 : (isort ns).Pairwise (· ≤ ·) := h2.imp fun h => by simpa using h
  exact List.Perm.eq_of_pairwise (fun a b _ _ h1 h2 => Int.le_antisymm h1 h2) hs h3 (hp.trans h1.symm)
def opOr (r r' : R2) : R2 := fun x y H Q => r x y H Q ∨ r' x y H Q
section
variable {K : Fr0} {X : Cx}
theorem or_op {f : Value → Value → Sem Value} {r r' : R2} (h : OpR X f r) (h' : OpR X f r') : OpR X f (opOr r r') := by
  intro pins s σ H x y v u Q I rx ry q
  rcases q with q | q
  · exact h pins s σ H x y v u Q I rx ry q
  · exact h' pins s σ H x y v u Q I rx ry q
def rCatR (K : PySem.W.Frag) : R2 := fun x y H Q => ∃ l b xs zs, x = V.ref l ∧ y = V.ref b ∧ SqL K H l xs ∧ SqL K H b zs ∧ xs.length + zs.length ≤ sizeLine ∧ ∀ p, H p = none → Q (.ref p) (upd H p (.lst (xs ++ zs)))
theorem op_catR : OpR X (binaryOp .Add) (rCatR X.K) := by
  intro pins s σ H x y v u Q I rx ry q0
  obtain ⟨la, lb, as, bs, ex, ey, sa, sb, hsum, kq⟩ := q0
  subst ex ey
  cases rx
  cases ry
  obtain ⟨its, ra, ⟨⟨c1, d1, w1, s1⟩, n1, g1, e1, e2, e3⟩, _⟩ := I.list sa
  obtain ⟨its2, rb, ⟨⟨c2, d2, w2, s2⟩, n2, g2, f1, f2, f3⟩, _⟩ := I.list sb
  simp only at e1 e2 e3 f1 f2 f3
  subst e1 e2 e3 f1 f2 f3
  have len1 := ra.length
  have len2 := rb.length
  have both : its.toArray ++ its2.toArray = (its ++ its2).toArray := by simp
  refine concat_meets ⟨_, g1, rfl⟩ ⟨_, g2, rfl⟩ noFill_list_add seq_list_add PySem.F.slot_list_add PySem.F.entry_list_add (PySem.F.args_list_add_2 _ _) (PyProof.Rows.list_addW la lb its.toArray its2.toArray n1 n2 none none s1 s2 (by rw [List.size_toArray, List.size_toArray]; omega)) ⟨g1, g2, ?_⟩
  rw [both]
  exact ⟨.ref _, _, I.lnew (t' := s.toks) (ra.append rb) (by rw [List.length_append]; omega), rfl, kq _ I.fresh⟩
def rAdd (K : PySem.W.Frag) : R2 := opOr (rI0 fun i j => .int (i + j)) (opOr (rCatR K) (opOr (rCatA K) fun x y H Q => ∃ i j, x = V.str i ∧ y = V.str j ∧ i.length + j.length ≤ sizeLine ∧ Q (.str (i ++ j)) H))
theorem op_addA : OpR X (binaryOp .Add) (rAdd X.K) := or_op op_add (or_op op_catR (or_op op_catA op_add_str))
theorem rd_add : R2D K (rAdd K.f) gAdd := by
  intro L H x y dx dy d Q tr hx hy hg k
  unfold gAdd at hg
  split at hg
  · cases hg
    exact .inl ⟨_, _, rp_int hx, rp_int hy, k _ _ (Ex.refl _) (.int _)⟩
  · split at hg
    · cases hg
      rename_i hz
      exact .inr (.inr (.inr ⟨_, _, rp_str hx, rp_str hy, hz, k _ _ (Ex.refl _) (.str _)⟩))
    · cases hg
  · split at hg
    · cases hg
      rename_i xs ys hz
      obtain ⟨a, vs, rfl, h1, h2⟩ := rp_tuple hx
      obtain ⟨b, us, rfl, h3, h4⟩ := rp_tuple hy
      have e1 := dpa_len h2
      have e2 := dpa_len h4
      refine .inr (.inr (.inl ⟨a, b, vs, us, rfl, rfl, h1, h3, by omega, fun z => ?_, fun z1 z2 => ?_, fun _ _ p hp => k _ _ (Ex.new hp) (new_tup tr hp (dpa_app h2 h4))⟩))
      · subst z
        have : xs = [] := List.eq_nil_of_length_eq_zero (by simpa using e1.symm)
        subst this
        exact k _ _ (Ex.refl _) hy
      · subst z2
        have : ys = [] := List.eq_nil_of_length_eq_zero (by simpa using e2.symm)
        subst this
        rw [List.append_nil] at k
        exact k _ _ (Ex.refl _) hx
    · cases hg
  · split at hg
    · cases hg
      rename_i xs ys hz
      obtain ⟨a, vs, rfl, h1, h2⟩ := rp_list hx
      obtain ⟨b, us, rfl, h3, h4⟩ := rp_list hy
      have e1 := dpa_len h2
      have e2 := dpa_len h4
      exact .inr (.inl ⟨a, b, vs, us, rfl, rfl, h1, h3, by omega, fun p hp => k _ _ (Ex.new hp) (new_lst tr hp (dpa_app h2 h4))⟩)
    · cases hg
  · cases hg
theorem rd_I0 {g : Int → Int → Int} {gd : D → D → Option D} (h : ∀ x y d, gd x y = some d → ∃ i j, x = .int i ∧ y = .int j ∧ d = .int (g i j)) : R2D K (rI0 fun i j => .int (g i j)) gd := by
  intro L H x y dx dy d Q tr hx hy hg k
  obtain ⟨i, j, rfl, rfl, rfl⟩ := h _ _ _ hg
  exact ⟨i, j, rp_int hx, rp_int hy, k _ _ (Ex.refl _) (.int _)⟩
theorem rd_I {C : Int → Int → Prop} {g : Int → Int → Int} {gd : D → D → Option D} (h : ∀ x y d, gd x y = some d → ∃ i j, x = .int i ∧ y = .int j ∧ C i j ∧ d = .int (g i j)) : R2D K (rI C fun i j => .int (g i j)) gd := by
  intro L H x y dx dy d Q tr hx hy hg k
  obtain ⟨i, j, rfl, rfl, hc, rfl⟩ := h _ _ _ hg
  exact ⟨i, j, rp_int hx, rp_int hy, hc, k _ _ (Ex.refl _) (.int _)⟩
theorem rd_sub : R2D K (rI0 fun i j => .int (i - j)) gSub := rd_I0 fun x y d h => by
  unfold gSub at h
  split at h
  · cases h; exact ⟨_, _, rfl, rfl, rfl⟩
  · cases h
theorem rd_pow : R2D K (rI CPow fun i j => .int (i ^ j.toNat)) gPow := rd_I fun x y d h => by
  unfold gPow at h
  split at h
  · split at h
    · cases h; exact ⟨_, _, rfl, rfl, by assumption, rfl⟩
    · cases h
  · cases h
theorem rd_cmp {p : Int → Int → Bool} : R2D K (rI0 fun i j => .bl (p i j)) (gCmp p) := by
  intro L H x y dx dy d Q tr hx hy hg k
  unfold gCmp at hg
  split at hg
  · cases hg
    exact ⟨_, _, rp_int hx, rp_int hy, k _ _ (Ex.refl _) (.bl _)⟩
  · cases hg
theorem rp_rep {H : Hp} {vs : List V} {ds : List D} (h : RpAll K H vs ds) : ∀ n : Nat, RpAll K H (List.replicate n vs).flatten (List.replicate n ds).flatten
  | 0 => .nil
  | n + 1 => by
    rw [List.replicate_succ, List.replicate_succ, List.flatten_cons, List.flatten_cons]
    exact dpa_app h (rp_rep h n)
def rMulA (K : PySem.W.Frag) : R2 := opOr (rI CMul fun i j => .int (i * j)) (rRepT K)
theorem op_mulA : OpR X (binaryOp .Mult) (rMulA X.K) := or_op op_mul op_repT
theorem rd_mul : R2D K (rMulA K.f) gMul := by
  intro L H x y dx dy d Q tr hx hy hg k
  unfold gMul at hg
  split at hg
  · split at hg
    · cases hg
      exact .inl ⟨_, _, rp_int hx, rp_int hy, by assumption, k _ _ (Ex.refl _) (.int _)⟩
    · cases hg
  · split at hg
    · cases hg
      rename_i xs kk hz
      obtain ⟨a, vs, rfl, h1, h2⟩ := rp_tuple hx
      have e1 := dpa_len h2
      refine .inr ⟨a, kk, vs, rfl, rp_int hy, h1, fun z => hz.1 ?_, hz.2.1, hz.2.2.1, by omega, fun p hp => k _ _ (Ex.new hp) (new_tup tr hp (rp_rep h2 _))⟩
      subst z
      exact List.eq_nil_of_length_eq_zero (by simpa using e1.symm)
    · cases hg
  · cases hg
theorem rd_eq : R2D K (rEqD K.f) gEq := by
  intro L H x y dx dy d Q tr hx hy hg k
  unfold gEq at hg
  split at hg
  · cases hg
    rename_i hz
    have c1 : dx.canLay0 = true := by
      have := hz.1
      unfold SeqAt.shaped at this
      simp at this
      exact this.1
    have c2 : dy.canLay0 = true := by
      have := hz.2
      unfold SeqAt.shaped at this
      simp at this
      exact this.1
    exact ⟨dx, dy, dp_le (rp_dp _ _ c1 hx), dp_le (rp_dp _ _ c2 hy), hz.1, hz.2, k _ _ (Ex.refl _) (.bl _)⟩
  · cases hg
theorem rd_ne : R2D K (rNeD K.f) gNe := by
  intro L H x y dx dy d Q tr hx hy hg k
  unfold gNe at hg
  split at hg
  · cases hg
    rename_i hz
    have c1 : dx.canLay0 = true := by
      have := hz.1
      unfold SeqAt.shaped at this
      simp at this
      exact this.1
    have c2 : dy.canLay0 = true := by
      have := hz.2
      unfold SeqAt.shaped at this
      simp at this
      exact this.1
    exact ⟨dx, dy, dp_le (rp_dp _ _ c1 hx), dp_le (rp_dp _ _ c2 hy), hz.1, hz.2, k _ _ (Ex.refl _) (.bl _)⟩
  · cases hg
/-- flat data, and the value at it -/
theorem flat_val {H : Hp} {v : V} {d : D} (h : Rp K H v d) (f : flatD d = true) : flatV v = true := by
  cases h <;> first | rfl | cases f
theorem flat_eqv {H : Hp} {v u : V} {d e : D} (h : Rp K H v d) (g : Rp K H u e) (f : flatD d = true) (f2 : flatD e = true) : eqV v u = PyData.eqv d e := by
  cases h <;> cases g <;> first | rfl | cases f | cases f2 | skip
theorem flat_all {H : Hp} : ∀ {vs : List V} {ds : List D}, RpAll K H vs ds → ds.all flatD = true → vs.all flatV = true
  | _, [], h, _ => by cases h; rfl
  | _, d :: ds, h, f => by
    rw [List.all_cons, Bool.and_eq_true] at f
    cases h with
    | cons h1 h2 =>
      rw [List.all_cons, Bool.and_eq_true]
      exact ⟨flat_val h1 f.1, flat_all h2 f.2⟩
theorem flat_in {H : Hp} {x : V} {dx : D} (hx : Rp K H x dx) (f : flatD dx = true) : ∀ {vs : List V} {ds : List D}, RpAll K H vs ds → ds.all flatD = true → inV x vs = ds.any fun y => PyData.eqv y dx
  | _, [], h, _ => by cases h; rfl
  | _, d :: ds, h, g => by
    rw [List.all_cons, Bool.and_eq_true] at g
    cases h with
    | cons h1 h2 =>
      show (eqV _ x || inV x _) = _
      rw [flat_eqv h1 hx g.1 f, flat_in hx f h2 g.2]
      rfl
theorem rd_in : R2D K (rIn K.f false) gIn := by
  intro L H x y dx dy d Q tr hx hy hg k
  unfold gIn at hg
  split at hg
  · split at hg
    · cases hg
      rename_i ys hz
      obtain ⟨a, vs, rfl, h1, h2⟩ := rp_list hy
      refine ⟨a, vs, rfl, .inl h1, flat_val hx hz.1, flat_all h2 hz.2, ?_⟩
      rw [flat_in hx hz.1 h2 hz.2]
      exact k _ _ (Ex.refl _) (.bl _)
    · cases hg
  · split at hg
    · cases hg
      rename_i ys hz
      obtain ⟨a, vs, rfl, h1, h2⟩ := rp_tuple hy
      refine ⟨a, vs, rfl, .inr h1, flat_val hx hz.1, flat_all h2 hz.2, ?_⟩
      rw [flat_in hx hz.1 h2 hz.2]
      exact k _ _ (Ex.refl _) (.bl _)
    · cases hg
  · cases hg
theorem rd_notIn : R2D K (rIn K.f true) gNotIn := by
  intro L H x y dx dy d Q tr hx hy hg k
  unfold gNotIn at hg
  split at hg
  · split at hg
    · cases hg
      rename_i ys hz
      obtain ⟨a, vs, rfl, h1, h2⟩ := rp_list hy
      refine ⟨a, vs, rfl, .inl h1, flat_val hx hz.1, flat_all h2 hz.2, ?_⟩
      rw [flat_in hx hz.1 h2 hz.2]
      exact k _ _ (Ex.refl _) (.bl _)
    · cases hg
  · split at hg
    · cases hg
      rename_i ys hz
      obtain ⟨a, vs, rfl, h1, h2⟩ := rp_tuple hy
      refine ⟨a, vs, rfl, .inr h1, flat_val hx hz.1, flat_all h2 hz.2, ?_⟩
      rw [flat_in hx hz.1 h2 hz.2]
      exact k _ _ (Ex.refl _) (.bl _)
    · cases hg
  · cases hg
theorem atI_len {α β : Type} {xs : List α} {ys : List β} {i : Int} {y : β} (h : xs.length = ys.length) (e : atI ys i = some y) : ∃ j : Nat, ys[j]? = some y ∧ ∀ x, xs[j]? = some x → atI xs i = some x := by
  unfold atI at e
  cases q : ixN ys.length i with
  | none => rw [q] at e; cases e
  | some j =>
    rw [q] at e
    refine ⟨j, e, fun x hx => ?_⟩
    unfold atI
    rw [h, q]
    exact hx
def rIxA (K : PySem.W.Frag) : R2 := opOr (rIxL K) (rIxT K)
theorem ix_any : IxR X (rIxA X.K) := IxR.or ix_list ix_tup
theorem rd_ix : R2D K (rIxA K.f) gIx := by
  intro L H x y dx dy d Q tr hx hy hg k
  unfold gIx at hg
  split at hg
  · rename_i xs i
    obtain ⟨a, vs, rfl, h1, h2⟩ := rp_list hx
    obtain ⟨j, e1, e2⟩ := atI_len (dpa_len h2) hg
    obtain ⟨v, e3, e4⟩ := dpa_get' h2 e1
    exact .inl ⟨a, vs, i, v, rfl, rp_int hy, h1, e2 v e3, k _ _ (Ex.refl _) e4⟩
  · rename_i xs i
    obtain ⟨a, vs, rfl, h1, h2⟩ := rp_tuple hx
    obtain ⟨j, e1, e2⟩ := atI_len (dpa_len h2) hg
    obtain ⟨v, e3, e4⟩ := dpa_get' h2 e1
    exact .inr ⟨a, vs, i, v, rfl, rp_int hy, h1, e2 v e3, k _ _ (Ex.refl _) e4⟩
  · cases hg
theorem rd_min2 : R2D K (fun x y H Q => ∃ i j, [x, y] = [V.int i, V.int j] ∧ Q (.int (if j < i then j else i)) H) gMin2 := by
  intro L H x y dx dy d Q tr hx hy hg k
  unfold gMin2 at hg
  split at hg
  · cases hg
    exact ⟨_, _, by rw [rp_int hx, rp_int hy], k _ _ (Ex.refl _) (.int _)⟩
  · cases hg
def rLenA (K : PySem.W.Frag) : List V → Hp → VK → Prop := fun xs H Q => (∃ p ys, xs = [V.ref p] ∧ (SqL K H p ys ∨ SqT K H p ys) ∧ Q (.int ys.length) H) ∨ ∃ z, xs = [V.str z] ∧ z.length ≤ sizeLine ∧ Q (.int z.length) H
theorem call_lenA : CallR X (.builtin "len") (rLenA X.K) := by
  intro pins s σ H xs us Q I r h
  rcases h with h | h
  · exact call_len_seq pins s σ H xs us Q I r h
  · exact call_len_str pins s σ H xs us Q I r h
theorem r1_len : R1D K (fun x => rLenA K.f [x]) gLen := by
  intro L H x dx d Q tr hx hg k
  unfold gLen at hg
  split at hg
  · cases hg
    obtain ⟨a, vs, rfl, h1, h2⟩ := rp_list hx
    refine .inl ⟨a, vs, rfl, .inl h1, ?_⟩
    rw [dpa_len h2]
    exact k _ _ (Ex.refl _) (.int _)
  · cases hg
    obtain ⟨a, vs, rfl, h1, h2⟩ := rp_tuple hx
    refine .inl ⟨a, vs, rfl, .inr h1, ?_⟩
    rw [dpa_len h2]
    exact k _ _ (Ex.refl _) (.int _)
  · split at hg
    · cases hg
      exact .inr ⟨_, by rw [rp_str hx], by assumption, k _ _ (Ex.refl _) (.int _)⟩
    · cases hg
  · cases hg
theorem r1_tuple : R1D K (fun x H Q => ∃ p ys, [x] = [V.ref p] ∧ ((SqL K.f H p ys ∧ ∀ l, H l = none → Q (.ref l) (upd H l (.tup ys))) ∨ (SqT K.f H p ys ∧ Q (.ref p) H))) gTuple := by
  intro L H x dx d Q tr hx hg k
  unfold gTuple at hg
  split at hg
  · cases hg
    obtain ⟨a, vs, rfl, h1, h2⟩ := rp_list hx
    exact ⟨a, vs, rfl, .inl ⟨h1, fun l hl => k _ _ (Ex.new hl) (new_tup tr hl h2)⟩⟩
  · cases hg
    obtain ⟨a, vs, rfl, h1, h2⟩ := rp_tuple hx
    exact ⟨a, vs, rfl, .inr ⟨h1, k _ _ (Ex.refl _) hx⟩⟩
  · cases hg
theorem r1_all : R1D K (fun x => rAll K.f [x]) gAll := by
  intro L H x dx d Q tr hx hg k
  unfold gAll at hg
  split at hg
  · rename_i xs
    cases e : boolsD xs with
    | none => rw [e] at hg; cases hg
    | some bs =>
      rw [e] at hg
      cases hg
      obtain ⟨a, vs, rfl, h1, h2⟩ := rp_list hx
      rw [boolsD_eq e] at h2
      rw [dpa_bools_eq h2] at h1
      exact ⟨a, bs, rfl, h1, k _ _ (Ex.refl _) (.bl _)⟩
  · cases hg
theorem r1_any : R1D K (fun x => rAny K.f [x]) gAny := by
  intro L H x dx d Q tr hx hg k
  unfold gAny at hg
  split at hg
  · rename_i xs
    cases e : boolsD xs with
    | none => rw [e] at hg; cases hg
    | some bs =>
      rw [e] at hg
      cases hg
      obtain ⟨a, vs, rfl, h1, h2⟩ := rp_list hx
      rw [boolsD_eq e] at h2
      rw [dpa_bools_eq h2] at h1
      exact ⟨a, bs, rfl, h1, k _ _ (Ex.refl _) (.bl _)⟩
  · cases hg
end
end PD
namespace PD
open PySem L2
open Evl (Ex)
abbrev FL := Rho → (List D → Rho → Prop) → Prop
def DL (K : Fr0) (M : Mk0) (f : FL) : TA := fun σ H Q => ∃ P F L ρ, R K M P F L ρ σ H ∧ f ρ fun ds ρ' => ∀ vs L' H', Ex (hide L H) (hide L' H') → R K M P F L' ρ' σ H' → RpAll K (hide L' H') vs ds → Q vs H'
structure PDL (X : Cx) (M : Mk0) (es : List Expr) (f : FL) : Prop where
  pa : PA X es (DL X.k0 M f)
  mono : ∀ ρ k k', (∀ d ρ', k d ρ' → k' d ρ') → f ρ k → f ρ k'
structure PDW (X : Cx) (M : Mk0) (e : Expr) (f : FT) : Prop where
  pw : PW X e (DT X.k0 M f)
  mono : ∀ ρ k k', (∀ d ρ', k d ρ' → k' d ρ') → f ρ k → f ρ k'
theorem PW.wk {X : Cx} {e : Expr} {t t' : TT} (h : PW X e t) (w : ∀ σ H Q, t' σ H Q → t σ H Q) : PW X e t' := ⟨fun wh pins s σ H Q I q => h.run wh pins s σ H Q I (w σ H Q q)⟩
theorem PI.wk {X : Cx} {tg it : Expr} {t t' : TI} (h : PI X tg it t) (w : ∀ σ H Q, t' σ H Q → t σ H Q) : PI X tg it t' := ⟨fun pins s σ H Q I q => h.run pins s σ H Q I (w σ H Q q)⟩
theorem PTs.wk {X : Cx} {es : List Expr} {t t' : TT} (h : PTs X es t) (w : ∀ σ H Q, t' σ H Q → t σ H Q) : PTs X es t' := ⟨fun pins s σ H Q I q => h.run pins s σ H Q I (w σ H Q q)⟩
section
variable {X : Cx} {M : Mk0} {a b c e o : Expr} {es rest : List Expr} {fa fb fc : FE} {fl : FL} {ft fu : FT} {pos : Pos}
def flNil : FL := fun ρ k => k [] ρ
def flCons (fa : FE) (fl : FL) : FL := fun ρ k => fa ρ fun d ρ1 => fl ρ1 fun ds ρ2 => k (d :: ds) ρ2
theorem pdl_nil : PDL X M [] flNil := by
  refine ⟨PA.wk pa_nil fun σ H Q ⟨P, F, L, ρ, r, k⟩ => ?_, fun ρ k k' h q => h _ _ q⟩
  exact k [] L H (Ex.refl _) r .nil
theorem pdl_cons (ha : PD X M a fa) (hl : PDL X M es fl) (hs : starEach (a :: es) X.env = (false, eval a X.env) :: starEach es X.env := by rfl) : PDL X M (a :: es) (flCons fa fl) := by
  refine ⟨PA.wk (pa_cons ha.pe hl.pa hs) fun σ H Q ⟨P, F, L, ρ, r, k⟩ => ?_, fun ρ k k' h q => ha.mono _ _ _ (fun d ρ1 q => hl.mono _ _ _ (fun ds ρ2 q => h _ _ q) q) q⟩
  refine ⟨P, F, L, ρ, r, ha.mono _ _ _ (fun d ρ1 q v L1 H1 e1 r1 d1 => ?_) k⟩
  exact ⟨P, F, L1, ρ1, r1, hl.mono _ _ _ (fun ds ρ2 q vs L2 H2 e2 r2 d2 => q (v :: vs) L2 H2 (e1.trans e2) r2 (.cons (dp_ex e2 _ _ d1) d2)) q⟩
def fTup (fl : FL) : FE := fun ρ k => fl ρ fun ds ρ1 => ds.length ≤ 100000 ∧ k (.tuple ds) ρ1
def fLst (fl : FL) : FE := fun ρ k => fl ρ fun ds ρ1 => ds.length ≤ 100000 ∧ k (.list ds) ρ1
theorem pd_tup {x1} (h : PDL X M es fl) : PD X M (.Tuple es x1 pos) (fTup fl) := by
  refine ⟨PE.wk (pe_tup h.pa) fun σ H Q ⟨P, F, L, ρ, r, k⟩ => ?_, fun ρ k k' g q => h.mono _ _ _ (fun ds ρ1 q => ⟨q.1, g _ _ q.2⟩) q⟩
  refine ⟨P, F, L, ρ, r, h.mono _ _ _ (fun ds ρ1 q vs L1 H1 e1 r1 d1 => ⟨Evl.sz_of (by rw [dpa_len d1]; exact q.1), fun p hp => ?_⟩) k⟩
  exact q.2 (.ref p) L1 _ (e1.trans (hide_ex (Ex.new hp))) (r1.laid hp) (new_tup r1.tr hp d1)
theorem pd_lst (h : PDL X M es fl) : PD X M (.List es pos) (fLst fl) := by
  refine ⟨PE.wk (pe_lst h.pa) fun σ H Q ⟨P, F, L, ρ, r, k⟩ => ?_, fun ρ k k' g q => h.mono _ _ _ (fun ds ρ1 q => ⟨q.1, g _ _ q.2⟩) q⟩
  refine ⟨P, F, L, ρ, r, h.mono _ _ _ (fun ds ρ1 q vs L1 H1 e1 r1 d1 => ⟨Evl.sz_of (by rw [dpa_len d1]; exact q.1), fun p hp => ?_⟩) k⟩
  exact q.2 (.ref p) L1 _ (e1.trans (hide_ex (Ex.new hp))) (r1.laid hp) (new_lst r1.tr hp d1)
/-- a value that is a bool, as a test -/
def ftB (fa : FE) : FT := fun ρ k => fa ρ fun d ρ1 => ∃ b, d = .bool b ∧ k b ρ1
theorem ftB_mono (ma : ∀ ρ k k', (∀ d ρ', k d ρ' → k' d ρ') → fa ρ k → fa ρ k') (ρ : Rho) (k k' : Bool → Rho → Prop) (h : ∀ d ρ', k d ρ' → k' d ρ') (q : ftB fa ρ k) : ftB fa ρ k' :=
  ma _ _ _ (fun d ρ1 ⟨b, h1, h2⟩ => ⟨b, h1, h _ _ h2⟩) q
/-- a comparison as a test -/
theorem pdt_cmp {op : CmpOp} {r : R2} {g : D → D → Option D} (ho : OpR X (compareOp op) r) (hg : R2D X.k0 r g) (ha : PD X M a fa) (hb : PD X M b fb) (hm : behindInMarks op b = false) : PDT X M (.Compare a [op] [b] pos) (ftB (fOp g fa fb)) := by
  refine ⟨PT.wk (pt_cmpR ho ha.pe hb.pe hm) fun σ H Q h => ?_, ftB_mono (fOp_mono ha.mono hb.mono)⟩
  obtain ⟨P, F, L, ρ, r0, k⟩ := h
  refine dOp (M := M) hg ha.mono hb.mono σ H _ ⟨P, F, L, ρ, r0, fOp_mono ha.mono hb.mono _ _ _ (fun d ρ1 ⟨b, h1, h2⟩ v L1 H1 e1 r1 d1 => ?_) k⟩
  subst h1
  exact ⟨b, rp_bool d1, h2 L1 H1 e1 r1⟩
def fChain (g g' : D → D → Option D) (fa fb fc : FE) : FE := fun ρ k => fa ρ fun x ρ1 => fb ρ1 fun y ρ2 => ∃ t, g x y = some (.bool t) ∧ if t = true then fc ρ2 fun z ρ3 => ∃ d, g' y z = some d ∧ k d ρ3 else k (.bool false) ρ2
theorem fChain_mono {g g' : D → D → Option D} (ma : ∀ ρ k k', (∀ d ρ', k d ρ' → k' d ρ') → fa ρ k → fa ρ k') (mb : ∀ ρ k k', (∀ d ρ', k d ρ' → k' d ρ') → fb ρ k → fb ρ k') (mc : ∀ ρ k k', (∀ d ρ', k d ρ' → k' d ρ') → fc ρ k → fc ρ k')
    (ρ : Rho) (k k' : KD) (h : ∀ d ρ', k d ρ' → k' d ρ') (q : fChain g g' fa fb fc ρ k) : fChain g g' fa fb fc ρ k' :=
  ma _ _ _ (fun x ρ1 q => mb _ _ _ (fun y ρ2 ⟨t, h1, h2⟩ => ⟨t, h1, by
    cases t with
    | true => exact mc _ _ _ (fun z ρ3 ⟨d, h3, h4⟩ => ⟨d, h3, h _ _ h4⟩) h2
    | false => exact h _ _ h2⟩) q) q
theorem dChain {r r' : R2} {g g' : D → D → Option D} (hg : R2D X.k0 r g) (hg' : R2D X.k0 r' g') (ma : ∀ ρ k k', (∀ d ρ', k d ρ' → k' d ρ') → fa ρ k → fa ρ k') (mb : ∀ ρ k k', (∀ d ρ', k d ρ' → k' d ρ') → fb ρ k → fb ρ k') (mc : ∀ ρ k k', (∀ d ρ', k d ρ' → k' d ρ') → fc ρ k → fc ρ k')
    (σ : L2.St) (H : Hp) (Q : VK) (h : DE X.k0 M (fChain g g' fa fb fc) σ H Q) : tChain r r' (DE X.k0 M fa) (DE X.k0 M fb) (DE X.k0 M fc) σ H Q := by
  obtain ⟨P, F, L, ρ, r0, k⟩ := h
  refine ⟨P, F, L, ρ, r0, ma _ _ _ (fun x ρ1 q v L1 H1 e1 r1 d1 => ?_) k⟩
  refine ⟨P, F, L1, ρ1, r1, mb _ _ _ (fun y ρ2 ⟨t, ht, q2⟩ u L2 H2 e2 r2 d2 => ?_) q⟩
  refine hg L2 H2 v u x y (.bool t) _ r2.tr (dp_ex e2 _ _ d1) d2 ht fun w H3 e3 d3 => ⟨t, rp_bool d3, ?_⟩
  cases t with
  | true =>
    show DE X.k0 M fc σ H3 _
    refine ⟨P, F, L2, ρ2, r2.ex e3, mc _ _ _ (fun z ρ3 ⟨d, hd, q3⟩ w' L4 H4 e4 r4 d4 => ?_) q2⟩
    refine hg' L4 H4 u w' y z d Q r4.tr (dp_ex e4 _ _ (dp_ex (hide_ex e3) _ _ d2)) d4 hd fun w5 H5 e5 d5 => q3 w5 L4 H5 (((e1.trans e2).trans (hide_ex e3)).trans (e4.trans (hide_ex e5))) (r4.ex e5) d5
  | false =>
    show Q (.bl false) H3
    exact q2 (.bl false) L2 H3 ((e1.trans e2).trans (hide_ex e3)) (r2.ex e3) (.bl false)
theorem pd_chain {op op' : CmpOp} {r r' : R2} {g g' : D → D → Option D} (ho : OpR X (compareOp op) r) (ho' : OpR X (compareOp op') r') (hg : R2D X.k0 r g) (hg' : R2D X.k0 r' g') (ha : PD X M a fa) (hb : PD X M b fb) (hc : PD X M c fc)
    (hm : lastMarks [op, op'] [b, c] = false := by with_unfolding_all rfl) : PD X M (.Compare a [op, op'] [b, c] pos) (fChain g g' fa fb fc) :=
  ⟨PE.wk (pe_chain ho ho' ha.pe hb.pe hc.pe hm) (dChain hg hg' ha.mono hb.mono hc.mono), fChain_mono ha.mono hb.mono hc.mono⟩
theorem pdt_chain {op op' : CmpOp} {r r' : R2} {g g' : D → D → Option D} (ho : OpR X (compareOp op) r) (ho' : OpR X (compareOp op') r') (hg : R2D X.k0 r g) (hg' : R2D X.k0 r' g') (ha : PD X M a fa) (hb : PD X M b fb) (hc : PD X M c fc)
    (hm : lastMarks [op, op'] [b, c] = false := by with_unfolding_all rfl) : PDT X M (.Compare a [op, op'] [b, c] pos) (ftB (fChain g g' fa fb fc)) := by
  refine ⟨PT.wk (pt_chain ho ho' ha.pe hb.pe hc.pe hm) fun σ H Q h => ?_, ftB_mono (fChain_mono ha.mono hb.mono hc.mono)⟩
  obtain ⟨P, F, L, ρ, r0, k⟩ := h
  refine dChain (M := M) hg hg' ha.mono hb.mono hc.mono σ H _ ⟨P, F, L, ρ, r0, fChain_mono ha.mono hb.mono hc.mono _ _ _ (fun d ρ1 ⟨b, h1, h2⟩ v L1 H1 e1 r1 d1 => ?_) k⟩
  subst h1
  exact ⟨b, rp_bool d1, h2 L1 H1 e1 r1⟩
/-- truth of any value -/
def truD : D → Option Bool
  | .none => some false
  | .bool b => some b
  | .int i => some (i != 0)
  | .str x => if x.length ≤ sizeLine then some ((x.length : Int) != 0) else none
  | .list xs => some (!xs.isEmpty)
  | .tuple xs => some (!xs.isEmpty)
  | .dict ps => none
def ftT (fa : FE) : FT := fun ρ k => fa ρ fun d ρ1 => ∃ b, truD d = some b ∧ k b ρ1
theorem pdt_truth (ha : PD X M e fa) (he : ∀ whole, isTrue e X.env whole = (do let v ← whole; standAt e.pos; holding [v] (truthy v)) := by intro _; rfl) : PDT X M e (ftT fa) := by
  refine ⟨PT.wk (pt_truth ha.pe he) fun σ H Q ⟨P, F, L, ρ, r, k⟩ => ?_, fun ρ k k' h q => ha.mono _ _ _ (fun d ρ1 ⟨b, h1, h2⟩ => ⟨b, h1, h _ _ h2⟩) q⟩
  refine ⟨P, F, L, ρ, r, ha.mono _ _ _ (fun d ρ1 ⟨b, h1, h2⟩ v L1 H1 e1 r1 d1 => ⟨b, ?_, h2 L1 H1 e1 r1⟩) k⟩
  cases d with
  | none => cases h1; rw [rp_none d1]; rfl
  | bool x => cases h1; rw [rp_bool d1]; rfl
  | int x => cases h1; rw [rp_int d1]; rfl
  | str x =>
    have h1' : (if x.length ≤ sizeLine then some ((x.length : Int) != 0) else none) = some b := h1
    by_cases hz : x.length ≤ sizeLine
    · rw [if_pos hz] at h1'
      cases h1'
      rw [rp_str d1]
      exact ⟨hz, rfl⟩
    · rw [if_neg hz] at h1'
      cases h1'
  | list xs =>
    cases h1
    obtain ⟨a, vs, rfl, g1, g2⟩ := rp_list d1
    refine .inl ⟨vs, g1, ?_⟩
    cases g2 <;> rfl
  | tuple xs =>
    cases h1
    obtain ⟨a, vs, rfl, g1, g2⟩ := rp_tuple d1
    refine .inr (.inl ⟨vs, g1, ?_⟩)
    cases g2 <;> rfl
  | dict ps => cases h1
def ftAnd (ft fu : FT) : FT := fun ρ k => ft ρ fun c ρ1 => if c = true then fu ρ1 k else k false ρ1
def ftOr (ft fu : FT) : FT := fun ρ k => ft ρ fun c ρ1 => if c = true then k true ρ1 else fu ρ1 k
def ftNot (ft : FT) : FT := fun ρ k => ft ρ fun c ρ1 => k (!c) ρ1
theorem pdw_or1 (h : PDT X M a ft) : PDW X M (.BoolOp .Or [a] pos) ft := ⟨pw_or1 h.pt, h.mono⟩
theorem ftOr_mono (ma : ∀ ρ k k', (∀ d ρ', k d ρ' → k' d ρ') → ft ρ k → ft ρ k') (mb : ∀ ρ k k', (∀ d ρ', k d ρ' → k' d ρ') → fu ρ k → fu ρ k') (ρ : Rho) (k k' : Bool → Rho → Prop) (h : ∀ d ρ', k d ρ' → k' d ρ') (q : ftOr ft fu ρ k) : ftOr ft fu ρ k' :=
  ma _ _ _ (fun c ρ1 q => by
    cases c with
    | true => exact h _ _ q
    | false => exact mb _ _ _ h q) q
theorem pdw_or (ha : PDT X M a ft) (hb : PDW X M (.BoolOp .Or (b :: rest) pos) fu) : PDW X M (.BoolOp .Or (a :: b :: rest) pos) (ftOr ft fu) := by
  refine ⟨PW.wk (pw_or ha.pt hb.pw) fun σ H Q ⟨P, F, L, ρ, r, k⟩ => ?_, ftOr_mono ha.mono hb.mono⟩
  refine ⟨P, F, L, ρ, r, ha.mono _ _ _ (fun c ρ1 q L1 H1 e1 r1 => ?_) k⟩
  cases c with
  | true => exact q L1 H1 e1 r1
  | false => exact ⟨P, F, L1, ρ1, r1, hb.mono _ _ _ (fun d ρ2 q L2 H2 e2 r2 => q L2 H2 (e1.trans e2) r2) q⟩
theorem PDW.pt (h : PDW X M e ft) : PDT X M e ft := ⟨PW.pt h.pw, h.mono⟩
theorem pdt_not (ha : PDT X M a ft) : PDT X M (.UnaryOp .Not a pos) (ftNot ft) := by
  refine ⟨PT.wk (pt_not ha.pt) fun σ H Q ⟨P, F, L, ρ, r, k⟩ => ?_, fun ρ k k' h q => ha.mono _ _ _ (fun c ρ1 q => h _ _ q) q⟩
  exact ⟨P, F, L, ρ, r, ha.mono _ _ _ (fun c ρ1 q L1 H1 e1 r1 => q L1 H1 e1 r1) k⟩
def fAnd (fa fb : FE) : FE := fun ρ k => fa ρ fun d ρ1 => ∃ b, d = .bool b ∧ if b = true then fb ρ1 k else k (.bool false) ρ1
def fOr (fa fb : FE) : FE := fun ρ k => fa ρ fun d ρ1 => ∃ b, d = .bool b ∧ if b = true then k (.bool true) ρ1 else fb ρ1 k
def fNot (fa : FE) : FE := fun ρ k => fa ρ fun d ρ1 => ∃ b, d = .bool b ∧ k (.bool (!b)) ρ1
def fIf (ft : FT) (fa fb : FE) : FE := fun ρ k => ft ρ fun c ρ1 => if c = true then fa ρ1 k else fb ρ1 k
theorem pd_one {op} (h : PD X M a fa) : PD X M (.BoolOp op [a] pos) fa := ⟨pe_one h.pe, h.mono⟩
theorem pd_and (ha : PD X M a fa) (hb : PD X M (.BoolOp .And (b :: rest) pos) fb) : PD X M (.BoolOp .And (a :: b :: rest) pos) (fAnd fa fb) := by
  refine ⟨PE.wk (pe_and ha.pe hb.pe) fun σ H Q ⟨P, F, L, ρ, r, k⟩ => ?_, fun ρ k k' h q => ha.mono _ _ _ (fun d ρ1 ⟨t, h1, h2⟩ => ⟨t, h1, by
    cases t with
    | true => exact hb.mono _ _ _ h h2
    | false => exact h _ _ h2⟩) q⟩
  refine ⟨P, F, L, ρ, r, ha.mono _ _ _ (fun d ρ1 ⟨t, h1, h2⟩ v L1 H1 e1 r1 d1 => ?_) k⟩
  subst h1
  refine ⟨t, rp_bool d1, ?_⟩
  cases t with
  | true => exact ⟨P, F, L1, ρ1, r1, hb.mono _ _ _ (fun d ρ2 q w L2 H2 e2 r2 d2 => q w L2 H2 (e1.trans e2) r2 d2) h2⟩
  | false => exact h2 _ L1 H1 e1 r1 (.bl false)
def fSl (g : D → Option Int → Option Int → Option D) (fa : FE) (fl fh : Rho → (Option Int → Rho → Prop) → Prop) : FE := fun ρ k => fa ρ fun x ρ1 => fl ρ1 fun l ρ2 => fh ρ2 fun h ρ3 => ∃ d, g x l h = some d ∧ k d ρ3
abbrev FO := Rho → (Option Int → Rho → Prop) → Prop
def DO (K : Fr0) (M : Mk0) (f : FO) : TO := fun σ H Q => ∃ P F L ρ, R K M P F L ρ σ H ∧ f ρ fun b ρ' => ∀ L' H', Ex (hide L H) (hide L' H') → R K M P F L' ρ' σ H' → Q b H'
structure PDO (X : Cx) (M : Mk0) (e : Option Expr) (f : FO) : Prop where
  po : PO X e (DO X.k0 M f)
  mono : ∀ ρ k k', (∀ d ρ', k d ρ' → k' d ρ') → f ρ k → f ρ k'
def foNone : FO := fun ρ k => k none ρ
def foSome (fa : FE) : FO := fun ρ k => fa ρ fun d ρ1 => ∃ i, d = .int i ∧ k (some i) ρ1
theorem PO.wk {e : Option Expr} {t t' : TO} (h : PO X e t) (w : ∀ σ H Q, t' σ H Q → t σ H Q) : PO X e t' := ⟨fun pins s σ H Q I q => h.run pins s σ H Q I (w σ H Q q)⟩
theorem pdo_none : PDO X M none foNone := ⟨PO.wk po_none fun σ H Q ⟨P, F, L, ρ, r, k⟩ => k L H (Ex.refl _) r, fun ρ k k' h q => h _ _ q⟩
theorem pdo_some (ha : PD X M a fa) : PDO X M (some a) (foSome fa) := by
  refine ⟨PO.wk (po_some ha.pe) fun σ H Q ⟨P, F, L, ρ, r, k⟩ => ?_, fun ρ k k' h q => ha.mono _ _ _ (fun d ρ1 ⟨i, h1, h2⟩ => ⟨i, h1, h _ _ h2⟩) q⟩
  refine ⟨P, F, L, ρ, r, ha.mono _ _ _ (fun d ρ1 ⟨i, h1, h2⟩ v L1 H1 e1 r1 d1 => ?_) k⟩
  subst h1
  exact ⟨i, rp_int d1, h2 L1 H1 e1 r1⟩
def cutD (xs : List D) (lo hi : Option Int) : List D := (xs.drop (HT.sIx xs.length 0 lo)).take (HT.sIx xs.length xs.length hi - HT.sIx xs.length 0 lo)
def gSl : D → Option Int → Option Int → Option D
  | .list xs, lo, hi => some (.list (cutD xs lo hi))
  | .tuple xs, lo, hi => some (.tuple (cutD xs lo hi))
  | _, _, _ => none
def rSlAny (K : PySem.W.Frag) : V → Option Int → Option Int → Hp → VK → Prop := fun x lo hi H Q => rSlL K x lo hi H Q ∨ rSlA K x lo hi H Q
theorem sl_any : SlR X (rSlAny X.K) := SlR.or sl_list sl_tupA
theorem dpa_cut {K : Fr0} {H : Hp} {vs : List V} {ds : List D} (h : RpAll K H vs ds) (lo hi : Option Int) : RpAll K H (cutV vs lo hi) (cutD ds lo hi) := by
  unfold cutV cutD
  rw [dpa_len h]
  exact dpa_take _ (dpa_drop _ h)
theorem pd_slice {p2 : Pos} {lo hi : Option Expr} {fl fh : FO} (ha : PD X M a fa) (hl : PDO X M lo fl) (hh : PDO X M hi fh) : PD X M (.Subscript a (.Slice lo hi none p2) pos) (fSl gSl fa fl fh) := by
  refine ⟨PE.wk (pe_slice sl_any ha.pe hl.po hh.po) fun σ H Q ⟨P, F, L, ρ, r, k⟩ => ?_, fun ρ k k' h q => ha.mono _ _ _ (fun d ρ1 q => hl.mono _ _ _ (fun l ρ2 q => hh.mono _ _ _ (fun u ρ3 ⟨d, h1, h2⟩ => ⟨d, h1, h _ _ h2⟩) q) q) q⟩
  refine ⟨P, F, L, ρ, r, ha.mono _ _ _ (fun x ρ1 q v L1 H1 e1 r1 d1 => ?_) k⟩
  refine ⟨P, F, L1, ρ1, r1, hl.mono _ _ _ (fun l ρ2 q L2 H2 e2 r2 => ?_) q⟩
  refine ⟨P, F, L2, ρ2, r2, hh.mono _ _ _ (fun u ρ3 ⟨d, hd, q⟩ L3 H3 e3 r3 => ?_) q⟩
  have d3 := dp_ex e3 _ _ (dp_ex e2 _ _ d1)
  have ex := (e1.trans e2).trans e3
  cases x with
  | list xs =>
    cases hd
    obtain ⟨a, vs, rfl, g1, g2⟩ := rp_list d3
    exact .inl ⟨a, vs, rfl, g1, fun p hp => q (.ref p) L3 _ (ex.trans (hide_ex (Ex.new hp))) (r3.laid hp) (new_lst r3.tr hp (dpa_cut g2 _ _))⟩
  | tuple xs =>
    cases hd
    obtain ⟨a, vs, rfl, g1, g2⟩ := rp_tuple d3
    refine .inr ⟨a, vs, rfl, g1, fun z => ?_, fun _ p hp => q (.ref p) L3 _ (ex.trans (hide_ex (Ex.new hp))) (r3.laid hp) (new_tup r3.tr hp (dpa_cut g2 _ _))⟩
    refine q (.ref a) L3 H3 ex r3 ?_
    have hc : cutD xs l u = xs := by
      unfold cutD
      rw [← dpa_len g2, z.1, z.2, dpa_len g2, List.drop_zero, Nat.sub_zero, List.take_length]
    rw [hc]
    exact d3
  | none => cases hd
  | bool _ => cases hd
  | int _ => cases hd
  | str _ => cases hd
  | dict _ => cases hd
end
end PD
namespace PD
open PySem L2
open Evl (Ex)
section
variable {K : Fr0} {M : Mk0} {P : Option Addr} {F : Hp} {L L' : List Addr} {ρ : Rho} {σ : L2.St} {H H' : Hp} {p : Addr} {o : HO}
theorem ex_pin (hp : H p = none) : Ex (hide L H) (hide (p :: L) (upd H p o)) := fun a b hb => by
  obtain ⟨h3, h4⟩ := hide_some.mp hb
  have n : a ≠ p := ne_of_none h4 hp
  exact hide_some.mpr ⟨fun z => (List.mem_cons.mp z).elim n h3, by rw [upd_ne n]; exact h4⟩
theorem R.pinNew (r : R K M P F L ρ σ H) (hp : H p = none) : R K M P (upd F p o) (p :: L) ρ σ (upd H p o) := by
  have r1 := r.hideMore (o := o) hp
  have pL : p ∉ L := r.notL hp
  refine ⟨r1.len, r1.sl, fun a u h => ?_, r1.tr, r1.apart, fun i xs l h1 h2 => ?_, fun q hq => ?_, r.tb.move (ex_pin hp) fun P' ps h1 h2 h3 => ⟨by rw [upd_ne (ne_of_none h3 hp)]; exact h1, List.mem_cons_of_mem _ h2, by rw [upd_ne (ne_of_none h3 hp)]; exact h3⟩⟩
  · by_cases e : a = p
    · subst e
      rw [upd_same] at h
      cases h
      exact ⟨upd_same, List.mem_cons_self⟩
    · rw [upd_ne e] at h
      exact r1.fr a u h
  · obtain ⟨l', vs, h3, h4, _⟩ := r.getOwn h1
    rw [h2] at h3
    cases h3
    rw [upd_ne (show l ≠ p from fun e => pL (by rw [← e]; exact h4))]
    exact r.ownF i xs l h1 h2
  · obtain ⟨A, a1, a2, a3⟩ := r.m q hq
    refine ⟨A, M.loc (fun a ha b hb => by rw [upd_ne (ne_of_none hb hp)]; exact hb) a1, fun a ha => ⟨List.mem_cons_of_mem _ (a2 a ha).1, ?_⟩, a3⟩
    rw [upd_ne (show a ≠ p from fun e => pL (by rw [← e]; exact (a2 a ha).1))]
    exact (a2 a ha).2
theorem R.pinned (r : R K M P (upd F p o) L ρ σ H) : H p = some o ∧ p ∈ L := r.fr p o upd_same
theorem R.pinOwn (r : R K M P (upd F p o) L ρ σ H) : ¬ Own ρ σ p := fun ⟨i, xs, h1, h2⟩ => by
  have := r.ownF i xs p h1 h2
  rw [upd_same] at this
  cases this
theorem R.unpin (r : R K M P (upd F p o) L ρ σ H) (hF : F p = none) : R K M P F L ρ σ H := by
  have up : ∀ {a}, upd F p o a = none → F a = none := fun {a} h => by
    by_cases e : a = p
    · rw [e]; exact hF
    · rw [upd_ne e] at h; exact h
  refine ⟨r.len, r.sl, fun a u h => ?_, r.tr, r.apart, fun i xs l h1 h2 => up (r.ownF i xs l h1 h2), fun q hq => ?_, r.tb.move (Ex.refl _) fun P' ps h1 h2 h3 => ⟨up h1, h2, h3⟩⟩
  · refine r.fr a u ?_
    rw [upd_ne (fun e => by rw [e, hF] at h; cases h)]
    exact h
  · obtain ⟨A, a1, a2, a3⟩ := r.m q hq
    exact ⟨A, a1, fun a ha => ⟨(a2 a ha).1, up (a2 a ha).2⟩, a3⟩
/-- the held list becomes data -/
theorem R.reveal (r : R K M P (upd F p o) L ρ σ H) (hF : F p = none) : R K M P F (L.filter fun a => decide (a ≠ p)) ρ σ H := by
  have sub : ∀ a ∈ (L.filter fun a => decide (a ≠ p)), a ∈ L := fun a ha => (List.mem_filter.mp ha).1
  have inn : ∀ a ∈ L, a ≠ p → a ∈ (L.filter fun a => decide (a ≠ p)) := fun a ha n => List.mem_filter.mpr ⟨ha, decide_eq_true n⟩
  have ex : Ex (hide L H) (hide (L.filter fun a => decide (a ≠ p)) H) := hide_sub sub
  have up : ∀ {a}, upd F p o a = none → F a = none ∧ a ≠ p := fun {a} h => by
    have e : a ≠ p := fun e => by rw [e, upd_same] at h; cases h
    rw [upd_ne e] at h
    exact ⟨h, e⟩
  refine ⟨r.len, fun i s u e1 e2 => ?_, fun a u h => ?_, fun a h => r.tr a (sub a h), r.apart, fun i xs l h1 h2 => (up (r.ownF i xs l h1 h2)).1, fun q hq => ?_, r.tb.move ex fun P' ps h1 h2 h3 => ⟨(up h1).1, inn _ h2 (up h1).2, h3⟩⟩
  · have q := r.sl i s u e1 e2
    cases s with
    | no => trivial
    | d x =>
      obtain ⟨v, g3, g4⟩ := q
      exact ⟨v, g3, dp_ex ex _ _ g4⟩
    | own xs =>
      obtain ⟨l, vs, g3, g4, g5, g6⟩ := q
      exact ⟨l, vs, g3, inn l g4 (up (r.ownF i xs l e1 (by rw [e2, g3]))).2, g5, g6.up ex⟩
    | st => exact q
    | raw v => exact q
    | exc a d fl => exact ⟨q.1, q.2.up ex⟩
  · have e : a ≠ p := fun e => by rw [e, hF] at h; cases h
    have q := r.fr a u (by rw [upd_ne e]; exact h)
    exact ⟨q.1, inn a q.2 e⟩
  · obtain ⟨A, a1, a2, a3⟩ := r.m q hq
    exact ⟨A, a1, fun a ha => ⟨inn a (a2 a ha).1 (up (a2 a ha).2).2, (up (a2 a ha).2).1⟩, a3⟩
/-- what is held changes -/
theorem R.repin {o' : HO} (r : R K M P (upd F p o) L ρ σ H) : R K M P (upd F p o') L ρ σ (upd H p o') := by
  have hL := r.pinned.2
  have hh : hide L (upd H p o') = hide L H := by
    funext a
    unfold hide
    by_cases ha : a ∈ L
    · rw [if_pos ha, if_pos ha]
    · rw [if_neg ha, if_neg ha, upd_ne (show a ≠ p from fun e => ha (by rw [e]; exact hL))]
  have up : ∀ {a}, upd F p o a = none → upd F p o' a = none ∧ a ≠ p := fun {a} h => by
    have e : a ≠ p := fun e => by rw [e, upd_same] at h; cases h
    rw [upd_ne e] at h
    rw [upd_ne e]
    exact ⟨h, e⟩
  refine ⟨r.len, fun i s u e1 e2 => ?_, fun a u h => ?_, fun a h => ?_, r.apart, fun i xs l h1 h2 => (up (r.ownF i xs l h1 h2)).1, fun q hq => ?_, r.tb.move (by rw [hh]; exact Ex.refl _) fun P' ps h1 h2 h3 => ⟨(up h1).1, h2, by rw [upd_ne (up h1).2]; exact h3⟩⟩
  · have q := r.sl i s u e1 e2
    cases s with
    | no => trivial
    | d x =>
      obtain ⟨v, g3, g4⟩ := q
      exact ⟨v, g3, by rw [hh]; exact g4⟩
    | own xs =>
      obtain ⟨l, vs, g3, g4, g5, g6⟩ := q
      exact ⟨l, vs, g3, g4, by rw [upd_ne (up (r.ownF i xs l e1 (by rw [e2, g3]))).2]; exact g5, by rw [hh]; exact g6⟩
    | st => exact q
    | raw v => exact q
    | exc a d fl => exact ⟨q.1, by rw [hh]; exact q.2⟩
  · by_cases e : a = p
    · subst e
      rw [upd_same] at h
      cases h
      exact ⟨upd_same, hL⟩
    · rw [upd_ne e] at h
      have q := r.fr a u (by rw [upd_ne e]; exact h)
      exact ⟨by rw [upd_ne e]; exact q.1, q.2⟩
  · by_cases e : a = p
    · subst e
      exact ⟨o', upd_same⟩
    · obtain ⟨u, q⟩ := r.tr a h
      exact ⟨u, by rw [upd_ne e]; exact q⟩
  · obtain ⟨A, a1, a2, a3⟩ := r.m q hq
    exact ⟨A, M.loc (fun a ha b hb => by rw [upd_ne (up (a2 a ha).2).2]; exact hb) a1, fun a ha => ⟨(a2 a ha).1, (up (a2 a ha).2).1⟩, a3⟩
theorem hide_repin {o' : HO} (hL : p ∈ L) : hide L (upd H p o') = hide L H := by
  funext a
  unfold hide
  by_cases ha : a ∈ L
  · rw [if_pos ha, if_pos ha]
  · rw [if_neg ha, if_neg ha, upd_ne (show a ≠ p from fun e => ha (by rw [e]; exact hL))]
/-- the held list goes to a slot, as its own -/
theorem R.toOwnC {o : HO} {ds : Ow} (r : R K M P (upd F p o) L ρ σ H) (hF : F p = none) (hd : OwAt K (hide L H) p o ds) (i : Nat) : R K M P F L (ρ.set i (.own ds)) (σ.set i (some (.ref p))) H := by
  have hno := r.pinOwn
  have r0 := r.unpin hF
  have pin := r.pinned
  refine ⟨by simp [r0.len], fun j t u h1 h2 => ?_, r0.fr, r0.tr, fun a b xs ys l hab h1 h2 h3 h4 => ?_, fun c zs l h h3 => ?_, fun q hq => ?_, r0.tb⟩
  · by_cases e : j = i
    · subst e
      have hj : j < ρ.sl.length := by simpa using (List.getElem?_eq_some_iff.mp h1).1
      rw [show (ρ.set j (.own ds)).sl = ρ.sl.set j (.own ds) from rfl, List.getElem?_set_self hj] at h1
      rw [List.getElem?_set_self (by rw [r0.len]; exact hj)] at h2
      cases h1
      cases h2
      exact ⟨p, o, rfl, pin.2, pin.1, hd⟩
    · rw [show (ρ.set i (.own ds)).sl = ρ.sl.set i (.own ds) from rfl, List.getElem?_set_ne (fun q => e q.symm)] at h1
      rw [List.getElem?_set_ne (fun q => e q.symm)] at h2
      exact r0.sl j t u h1 h2
  · -- apart
    have look : ∀ {c : Nat} {zs : Ow}, c ≠ i → (ρ.set i (.own ds)).sl[c]? = some (.own zs) → (σ.set i (some (.ref p)))[c]? = some (some (.ref l)) → ρ.sl[c]? = some (.own zs) ∧ σ[c]? = some (some (.ref l)) := fun {c zs} hc g1 g2 => by
      rw [show (ρ.set i (.own ds)).sl = ρ.sl.set i (.own ds) from rfl, List.getElem?_set_ne (fun q => hc q.symm)] at g1
      rw [List.getElem?_set_ne (fun q => hc q.symm)] at g2
      exact ⟨g1, g2⟩
    have atp : ∀ {c : Nat}, c = i → (σ.set i (some (.ref p)))[c]? = some (some (V.ref l)) → l = p := fun {c} hc g => by
      subst hc
      have hlt : c < σ.length := by simpa using (List.getElem?_eq_some_iff.mp g).1
      rw [List.getElem?_set_self hlt] at g
      cases g
      rfl
    by_cases ha : a = i
    · have e := atp ha h3
      subst e
      have hb : b ≠ i := fun z => hab (ha.trans z.symm)
      obtain ⟨g1, g2⟩ := look hb h2 h4
      exact hno ⟨b, ys, g1, g2⟩
    · obtain ⟨g1, g2⟩ := look ha h1 h3
      by_cases hb : b = i
      · have e := atp hb h4
        subst e
        exact hno ⟨a, xs, g1, g2⟩
      · obtain ⟨g3, g4⟩ := look hb h2 h4
        exact r0.apart a b xs ys l hab g1 g3 g2 g4
  · by_cases hc : c = i
    · subst hc
      have hlt : c < σ.length := by simpa using (List.getElem?_eq_some_iff.mp h3).1
      rw [List.getElem?_set_self hlt] at h3
      cases h3
      exact hF
    · rw [show (ρ.set i (.own ds)).sl = ρ.sl.set i (.own ds) from rfl, List.getElem?_set_ne (fun q => hc q.symm)] at h
      rw [List.getElem?_set_ne (fun q => hc q.symm)] at h3
      exact r0.ownF c zs l h h3
  · obtain ⟨A, a1, a2, a3⟩ := r.m q hq
    refine ⟨A, a1, fun a ha => ⟨(a2 a ha).1, ?_⟩, fun c zs l h h3 hl => ?_⟩
    · have q := (a2 a ha).2
      rw [upd_ne (fun e => by rw [e, upd_same] at q; cases q)] at q
      exact q
    · by_cases hc : c = i
      · subst hc
        have hlt : c < σ.length := by simpa using (List.getElem?_eq_some_iff.mp h3).1
        rw [List.getElem?_set_self hlt] at h3
        cases h3
        have q := (a2 p hl).2
        rw [upd_same] at q
        cases q
      · rw [show (ρ.set i (.own ds)).sl = ρ.sl.set i (.own ds) from rfl, List.getElem?_set_ne (fun q => hc q.symm)] at h
        rw [List.getElem?_set_ne (fun q => hc q.symm)] at h3
        exact a3 c zs l h h3 hl
theorem R.toOwn {vs : List V} {ds : List D} (r : R K M P (upd F p (.lst vs)) L ρ σ H) (hF : F p = none) (hd : RpAll K (hide L H) vs ds) (i : Nat) : R K M P F L (ρ.set i (.own ds)) (σ.set i (some (.ref p))) H :=
  r.toOwnC (ds := .l ds) hF ⟨vs, rfl, hd⟩ i
/-- what is a slot's own is taken into the hand -/
theorem R.ofOwnC {ds : Ow} {i : Nat} (r : R K M P F L ρ σ H) (h : ρ.sl[i]? = some (.own ds)) : ∃ p u, σ[i]? = some (some (.ref p)) ∧ H p = some u ∧ F p = none ∧ p ∈ L ∧ OwAt K (hide L H) p u ds ∧ R K M P (upd F p u) L (ρ.set i .no) σ H := by
  obtain ⟨p, vs, h1, h2, h3, h4⟩ := r.getOwn h
  have hF := r.ownF i ds p h h1
  have look : ∀ {c : Nat} {zs : Ow}, (ρ.set i .no).sl[c]? = some (.own zs) → c ≠ i ∧ ρ.sl[c]? = some (.own zs) := fun {c zs} g => by
    by_cases hc : c = i
    · subst hc
      have hj : c < ρ.sl.length := by simpa using (List.getElem?_eq_some_iff.mp g).1
      rw [show (ρ.set c .no).sl = ρ.sl.set c .no from rfl, List.getElem?_set_self hj] at g
      cases g
    · rw [show (ρ.set i .no).sl = ρ.sl.set i .no from rfl, List.getElem?_set_ne (fun q => hc q.symm)] at g
      exact ⟨hc, g⟩
  refine ⟨p, vs, h1, h3, hF, h2, h4, by simp [r.len], fun j t u e1 e2 => ?_, fun a u e => ?_, r.tr, fun a b xs ys l hab e1 e2 e3 e4 => r.apart a b xs ys l hab (look e1).2 (look e2).2 e3 e4, fun c zs l e1 e2 => ?_, fun q hq => ?_, r.tb.move (Ex.refl _) fun P' ps k1 k2 k3 => ⟨by rw [upd_ne (fun z => r.notOwnT k3 ⟨i, ds, h, by rw [h1, z]⟩)]; exact k1, k2, k3⟩⟩
  · by_cases e : j = i
    · subst e
      have hj : j < ρ.sl.length := by simpa using (List.getElem?_eq_some_iff.mp e1).1
      rw [show (ρ.set j .no).sl = ρ.sl.set j .no from rfl, List.getElem?_set_self hj] at e1
      cases e1
      trivial
    · rw [show (ρ.set i .no).sl = ρ.sl.set i .no from rfl, List.getElem?_set_ne (fun q => e q.symm)] at e1
      exact r.sl j t u e1 e2
  · by_cases e3 : a = p
    · subst e3
      rw [upd_same] at e
      cases e
      exact ⟨h3, h2⟩
    · rw [upd_ne e3] at e
      exact r.fr a u e
  · obtain ⟨g1, g2⟩ := look e1
    have : l ≠ p := fun z => r.apart c i zs ds p g1 g2 h (by rw [← z]; exact e2) h1
    rw [upd_ne this]
    exact r.ownF c zs l g2 e2
  · obtain ⟨A, a1, a2, a3⟩ := r.m q hq
    refine ⟨A, a1, fun a ha => ⟨(a2 a ha).1, ?_⟩, fun c zs l e1 e2 => a3 c zs l (look e1).2 e2⟩
    rw [upd_ne (fun z => a3 i ds p h h1 (by rw [← z]; exact ha))]
    exact (a2 a ha).2
theorem R.ofOwn {ds : List D} {i : Nat} (r : R K M P F L ρ σ H) (h : ρ.sl[i]? = some (.own ds)) : ∃ p vs, σ[i]? = some (some (.ref p)) ∧ H p = some (.lst vs) ∧ F p = none ∧ p ∈ L ∧ RpAll K (hide L H) vs ds ∧ R K M P (upd F p (.lst vs)) L (ρ.set i .no) σ H := by
  obtain ⟨p, u, h1, h2, h3, h4, ⟨vs, h5, h6⟩, h7⟩ := r.ofOwnC h
  subst h5
  exact ⟨p, vs, h1, h2, h3, h4, h6, h7⟩
end
end PD
namespace PD
open PySem L2
open Evl (Ex)
/-- a new list, held by hand -/
def DNw (K : Fr0) (M : Mk0) (f : FN) : TE := fun σ H Q => ∃ P F L ρ, R K M P F L ρ σ H ∧ f ρ fun ds ρ' => ∀ p vs L' H', Ex (hide L H) (hide L' H') → F p = none → R K M P (upd F p (.lst vs)) L' ρ' σ H' → RpAll K (hide L' H') vs ds → Q (.ref p) H'
structure PN (X : Cx) (M : Mk0) (e : Expr) (f : FN) : Prop where
  pe : PE X e (DNw X.k0 M f)
  mono : ∀ ρ k k', (∀ d ρ', k d ρ' → k' d ρ') → f ρ k → f ρ k'
theorem filter_ne {L : List Addr} {p : Addr} : p ∉ (L.filter fun a => decide (a ≠ p)) := fun h => of_decide_eq_true (List.mem_filter.mp h).2 rfl
/-- what was the def's own, as data -/
def ow : Ow → D
  | .l xs => .list xs
  | .d _ ps => .dict ps
  | .o _ C ps => .dict ((.list [], .int (C : Nat)) :: ps)
theorem OwAt.rp {K : Fr0} {H : Hp} {p : Addr} {u : HO} (hp : H p = some u) : ∀ {c : Ow}, OwAt K H p u c → Rp K H (.ref p) (ow c)
  | .l _, ⟨vs, h1, h2⟩ => .lst (.inl (.inl (by rw [hp, h1]))) h2
  | .d true _, ⟨o, xs, h1, h2⟩ => .dctN (by rw [hp, h1]) h2
  | .d false _, ⟨o, xs, h1, h2⟩ => .dct (by rw [hp, h1]) h2
  | .o _ _ _, ⟨_, dx, fs, h1, h2⟩ => .obj (by rw [hp, h1]) h2
theorem reveal_own {K : Fr0} {M : Mk0} {P : Option Addr} {F : Hp} {L L' : List Addr} {ρ : Rho} {σ : L2.St} {H H' : Hp} {p : Addr} {u : HO} {c : Ow} (e : Ex (hide L H) (hide L' H')) (hF : F p = none)
    (r : R K M P (upd F p u) L' ρ σ H') (hd : OwAt K (hide L' H') p u c) :
    ∃ L2, Ex (hide L H) (hide L2 H') ∧ R K M P F L2 ρ σ H' ∧ Rp K (hide L2 H') (.ref p) (ow c) ∧ hide L2 H' p = some u := by
  have ex : Ex (hide L' H') (hide (L'.filter fun a => decide (a ≠ p)) H') := hide_sub fun a ha => (List.mem_filter.mp ha).1
  have see : hide (L'.filter fun a => decide (a ≠ p)) H' p = some u := hide_some.mpr ⟨filter_ne, r.pinned.1⟩
  exact ⟨_, e.trans ex, r.reveal hF, (hd.up ex).rp see, see⟩
/-- a new list as data, still seen -/
theorem reveal_at {K : Fr0} {M : Mk0} {P : Option Addr} {F : Hp} {L L' : List Addr} {ρ : Rho} {σ : L2.St} {H H' : Hp} {p : Addr} {vs : List V} {ds : List D} (e : Ex (hide L H) (hide L' H')) (hF : F p = none)
    (r : R K M P (upd F p (.lst vs)) L' ρ σ H') (hd : RpAll K (hide L' H') vs ds) :
    ∃ L2, Ex (hide L H) (hide L2 H') ∧ R K M P F L2 ρ σ H' ∧ Rp K (hide L2 H') (.ref p) (.list ds) ∧ hide L2 H' p = some (.lst vs) := by
  have ex : Ex (hide L' H') (hide (L'.filter fun a => decide (a ≠ p)) H') := hide_sub fun a ha => (List.mem_filter.mp ha).1
  have see : hide (L'.filter fun a => decide (a ≠ p)) H' p = some (HO.lst vs) := hide_some.mpr ⟨filter_ne, r.pinned.1⟩
  exact ⟨_, e.trans ex, r.reveal hF, .lst (.inl (.inl see)) (dpa_ex ex _ _ hd), see⟩
/-- a new list as data -/
theorem reveal_rp {K : Fr0} {M : Mk0} {P : Option Addr} {F : Hp} {L L' : List Addr} {ρ : Rho} {σ : L2.St} {H H' : Hp} {p : Addr} {vs : List V} {ds : List D} (e : Ex (hide L H) (hide L' H')) (hF : F p = none)
    (r : R K M P (upd F p (.lst vs)) L' ρ σ H') (hd : RpAll K (hide L' H') vs ds) :
    ∃ L2, Ex (hide L H) (hide L2 H') ∧ R K M P F L2 ρ σ H' ∧ Rp K (hide L2 H') (.ref p) (.list ds) := by
  obtain ⟨L2, h1, h2, h3, _⟩ := reveal_at e hF r hd
  exact ⟨L2, h1, h2, h3⟩
def fOfN (f : FN) : FE := fun ρ k => f ρ fun ds ρ1 => k (.list ds) ρ1
section
variable {X : Cx} {M : Mk0} {a b c e o tg iter : Expr} {es rest : List Expr} {fa fb fc : FE} {fl : FL} {ft fu : FT} {fn : FN} {pos : Pos}
theorem dOfN (mf : ∀ ρ k k', (∀ d ρ', k d ρ' → k' d ρ') → fn ρ k → fn ρ k') (σ : L2.St) (H : Hp) (Q : VK) (h : DE X.k0 M (fOfN fn) σ H Q) : DNw X.k0 M fn σ H Q := by
  obtain ⟨P, F, L, ρ, r, k⟩ := h
  refine ⟨P, F, L, ρ, r, mf _ _ _ (fun ds ρ1 q p vs L1 H1 e1 hF r1 d1 => ?_) k⟩
  obtain ⟨L2, e2, r2, d2⟩ := reveal_rp e1 hF r1 d1
  exact q (.ref p) L2 H1 e2 r2 d2
theorem pd_ofN (h : PN X M e fn) : PD X M e (fOfN fn) := ⟨PE.wk h.pe (dOfN h.mono), fun ρ k k' g q => h.mono _ _ _ (fun ds ρ1 q => g _ _ q) q⟩
/-- what gives a new list at a free address -/
theorem new_pin {K : Fr0} {P : Option Addr} {F : Hp} {L : List Addr} {ρ : Rho} {σ : L2.St} {H : Hp} (r : R K M P F L ρ σ H) {vs : List V} {ds : List D} (d : RpAll K (hide L H) vs ds) {p : Addr} (hp : H p = none) :
    Ex (hide L H) (hide (p :: L) (upd H p (.lst vs))) ∧ F p = none ∧ R K M P (upd F p (.lst vs)) (p :: L) ρ σ (upd H p (.lst vs)) ∧ RpAll K (hide (p :: L) (upd H p (.lst vs))) vs ds := by
  have ex : Ex (hide L H) (hide (p :: L) (upd H p (.lst vs))) := fun a b hb => by
    obtain ⟨h3, h4⟩ := hide_some.mp hb
    have n : a ≠ p := ne_of_none h4 hp
    exact hide_some.mpr ⟨fun z => by
      rcases List.mem_cons.mp z with z | z
      · exact n z
      · exact h3 z, by rw [upd_ne n]; exact h4⟩
  refine ⟨ex, ?_, r.pinNew hp, dpa_ex ex _ _ d⟩
  cases q : F p with
  | none => rfl
  | some o =>
    have := (r.fr p o q).1
    rw [hp] at this
    cases this
def fnLst (fl : FL) : FN := fun ρ k => fl ρ fun ds ρ1 => ds.length ≤ 100000 ∧ k ds ρ1
theorem pn_lst (h : PDL X M es fl) : PN X M (.List es pos) (fnLst fl) := by
  refine ⟨PE.wk (pe_lst h.pa) fun σ H Q ⟨P, F, L, ρ, r, k⟩ => ?_, fun ρ k k' g q => h.mono _ _ _ (fun ds ρ1 q => ⟨q.1, g _ _ q.2⟩) q⟩
  refine ⟨P, F, L, ρ, r, h.mono _ _ _ (fun ds ρ1 q vs L1 H1 e1 r1 d1 => ⟨Evl.sz_of (by rw [dpa_len d1]; exact q.1), fun p hp => ?_⟩) k⟩
  obtain ⟨e2, hF, r2, d2⟩ := new_pin r1 d1 hp
  exact q.2 p vs _ _ (e1.trans e2) hF r2 d2
/-- a built-in type or function that makes a list of its argument -/
def RN1 (K : Fr0) (r : V → Hp → VK → Prop) (g : D → Option (List D)) : Prop := ∀ (L : List Addr) (H : Hp) (x : V) (dx : D) (ds : List D) (Q : VK), Rp K (hide L H) x dx → g dx = some ds →
  (∀ p vs, H p = none → RpAll K (hide L H) vs ds → Q (.ref p) (upd H p (.lst vs))) → r x H Q
def fn1 (g : D → Option (List D)) (fa : FE) : FN := fun ρ k => fa ρ fun d ρ1 => ∃ ds, g d = some ds ∧ k ds ρ1
theorem dn1 {r : V → Hp → VK → Prop} {g : D → Option (List D)} (hg : RN1 X.k0 r g) (ma : ∀ ρ k k', (∀ d ρ', k d ρ' → k' d ρ') → fa ρ k → fa ρ k') (σ : L2.St) (H : Hp) (Q : VK) (h : DNw X.k0 M (fn1 g fa) σ H Q) :
    DE X.k0 M fa σ H fun x H1 => r x H1 Q := by
  obtain ⟨P, F, L, ρ, r0, k⟩ := h
  refine ⟨P, F, L, ρ, r0, ma _ _ _ (fun d ρ1 ⟨ds, hd, q⟩ v L1 H1 e1 r1 d1 => ?_) k⟩
  refine hg L1 H1 v d ds Q d1 hd fun p vs hp hv => ?_
  obtain ⟨e2, hF, r2, d2⟩ := new_pin r1 hv hp
  exact q p vs _ _ (e1.trans e2) hF r2 d2
theorem pn_t1 {x : Str} {p : Pos} {id : String} {r : List V → Hp → VK → Prop} {g : D → Option (List D)} (hc : CallR X (.type id) r) (hg' : RN1 X.k0 (fun x => r [x]) g) (hg : Gl X x) (hm : X.mg x = none) (hv : bootBuiltins x = some (.type id)) (ha : PD X M a fa)
    (hn : x ≠ "__name__" := by decide) (hdb : (x == ("__debug__" : Str)) = false := by decide) (hs : starEach [a] X.env = (false, eval a X.env) :: starEach [] X.env := by rfl) :
    PN X M (.Call (.Name x p) [a] [] pos) (fn1 g fa) := by
  refine ⟨PE.wk (pe_callTy hc hg hm hv (pa_cons ha.pe pa_nil hs) hn hdb hs) fun σ H Q h => dn1 (r := fun x => r [x]) hg' ha.mono σ H Q h, fun ρ k k' g q => ha.mono _ _ _ (fun d ρ1 ⟨ds, h1, h2⟩ => ⟨ds, h1, g _ _ h2⟩) q⟩
theorem pn_b1 {x : Str} {p : Pos} {id : String} {r : List V → Hp → VK → Prop} {g : D → Option (List D)} (hc : CallR X (.builtin id) r) (hg' : RN1 X.k0 (fun x => r [x]) g) (hg : Gl X x) (hm : X.mg x = none) (hv : bootBuiltins x = some (.builtin id)) (ha : PD X M a fa)
    (hn : x ≠ "__name__" := by decide) (hdb : (x == ("__debug__" : Str)) = false := by decide) (hs : starEach [a] X.env = (false, eval a X.env) :: starEach [] X.env := by rfl) :
    PN X M (.Call (.Name x p) [a] [] pos) (fn1 g fa) := by
  refine ⟨PE.wk (pe_callB hc hg hm hv (pa_cons ha.pe pa_nil hs) hn hdb hs) fun σ H Q h => dn1 (r := fun x => r [x]) hg' ha.mono σ H Q h, fun ρ k k' g q => ha.mono _ _ _ (fun d ρ1 ⟨ds, h1, h2⟩ => ⟨ds, h1, g _ _ h2⟩) q⟩
def nList : D → Option (List D)
  | .list xs => some xs
  | .tuple xs => some xs
  | _ => none
def nSorted : D → Option (List D)
  | .list xs => (intsD xs).map fun ns => (isort ns).map PyData.int
  | _ => none
theorem rn_list {K : Fr0} : RN1 K (fun x H Q => ∃ p ys, [x] = [V.ref p] ∧ (SqL K.f H p ys ∨ SqT K.f H p ys) ∧ ∀ l, H l = none → Q (.ref l) (upd H l (.lst ys))) nList := by
  intro L H x dx ds Q hx hg k
  cases dx with
  | list xs =>
    cases hg
    obtain ⟨a, vs, rfl, h1, h2⟩ := rp_list hx
    exact ⟨a, vs, rfl, .inl h1, fun l hl => k l vs hl h2⟩
  | tuple xs =>
    cases hg
    obtain ⟨a, vs, rfl, h1, h2⟩ := rp_tuple hx
    exact ⟨a, vs, rfl, .inr h1, fun l hl => k l vs hl h2⟩
  | none => cases hg
  | bool _ => cases hg
  | int _ => cases hg
  | str _ => cases hg
  | dict _ => cases hg
theorem rn_sorted {K : Fr0} : RN1 K (fun x => rSortedI K.f [x]) nSorted := by
  intro L H x dx ds Q hx hg k
  cases dx with
  | list xs =>
    unfold nSorted at hg
    simp only at hg
    cases e : intsD xs with
    | none => rw [e] at hg; cases hg
    | some ns =>
      rw [e] at hg
      cases hg
      obtain ⟨a, vs, rfl, h1, h2⟩ := rp_list hx
      rw [intsD_eq e] at h2
      rw [dpa_ints_eq h2] at h1
      refine ⟨a, ns, rfl, h1, fun ns' p hp hs hn => ?_⟩
      rw [isort_of hp hs]
      exact k p _ hn (dpa_ints _)
  | tuple _ => cases hg
  | none => cases hg
  | bool _ => cases hg
  | int _ => cases hg
  | str _ => cases hg
  | dict _ => cases hg
/-- only the slots of vs changed -/
def OnlyAt (vs : List Nat) (σ σ' : L2.St) : Prop := σ'.length = σ.length ∧ ∀ i, i ∉ vs → σ'[i]? = σ[i]?
theorem OnlyAt.refl {vs : List Nat} {σ : L2.St} : OnlyAt vs σ σ := ⟨rfl, fun _ _ => rfl⟩
theorem OnlyAt.trans {vs : List Nat} {σ σ1 σ2 : L2.St} (a : OnlyAt vs σ σ1) (b : OnlyAt vs σ1 σ2) : OnlyAt vs σ σ2 := ⟨b.1.trans a.1, fun i h => (b.2 i h).trans (a.2 i h)⟩
theorem OnlyAt.mono {vs ws : List Nat} {σ σ1 : L2.St} (a : OnlyAt vs σ σ1) (h : ∀ i ∈ vs, i ∈ ws) : OnlyAt ws σ σ1 := ⟨a.1, fun i g => a.2 i fun z => g (h i z)⟩
theorem wipe_get (σ : L2.St) : ∀ (vs : List Nat) (i : Nat), (wipe σ vs)[i]? = if i ∈ vs then (if i < σ.length then some none else none) else σ[i]?
  | [], i => by simp [wipe]
  | v :: vs, i => by
    unfold wipe
    by_cases e : v = i
    · subst e
      by_cases hl : v < σ.length
      · rw [List.getElem?_set_self (by rw [wipe_length]; exact hl), if_pos List.mem_cons_self, if_pos hl]
      · rw [if_pos List.mem_cons_self, if_neg hl]
        exact List.getElem?_eq_none (by simp [wipe_length]; omega)
    · rw [List.getElem?_set_ne e, wipe_get σ vs i]
      by_cases hm : i ∈ vs
      · rw [if_pos hm, if_pos (List.mem_cons_of_mem _ hm)]
      · rw [if_neg hm, if_neg]
        intro z
        rcases List.mem_cons.mp z with z | z
        · exact e z.symm
        · exact hm z
theorem wipe_only {vs : List Nat} {σ σ' : L2.St} (h : OnlyAt vs σ σ') : wipe σ' vs = wipe σ vs := by
  apply List.ext_getElem?
  intro i
  rw [wipe_get, wipe_get, h.1]
  by_cases hm : i ∈ vs
  · rw [if_pos hm, if_pos hm]
  · rw [if_neg hm, if_neg hm]
    exact h.2 i hm
theorem wipe_self (vs : List Nat) (σ : L2.St) : OnlyAt vs σ (wipe σ vs) := ⟨wipe_length σ vs, fun i h => by rw [wipe_get, if_neg h]⟩
def DGt (K : Fr0) (M : Mk0) (vs : List Nat) (f : FG) : TG := fun v σ H Q => ∃ P F L ρ d, R K M P F L ρ σ H ∧ Rp K (hide L H) v d ∧ f d ρ fun ρ' => ∀ σ' L' H', Ex (hide L H) (hide L' H') → R K M P F L' ρ' σ' H' → OnlyAt vs σ σ' → Q σ' H'
abbrev FGs := List D → Rho → (Rho → Prop) → Prop
def DGts (K : Fr0) (M : Mk0) (vs : List Nat) (f : FGs) : TGs := fun us σ H Q => ∃ P F L ρ ds, R K M P F L ρ σ H ∧ RpAll K (hide L H) us ds ∧ f ds ρ fun ρ' => ∀ σ' L' H', Ex (hide L H) (hide L' H') → R K M P F L' ρ' σ' H' → OnlyAt vs σ σ' → Q σ' H'
structure PG1 (X : Cx) (M : Mk0) (tg : Expr) (vs : List Nat) (f : FG) : Prop where
  pg : PG X tg (DGt X.k0 M vs f)
  mono : ∀ d ρ k k', (∀ ρ', k ρ' → k' ρ') → f d ρ k → f d ρ k'
structure PGn (X : Cx) (M : Mk0) (ts : List Expr) (n : Nat) (vs : List Nat) (f : FGs) : Prop where
  pg : PGs X ts (DGts X.k0 M vs f)
  mono : ∀ d ρ k k', (∀ ρ', k ρ' → k' ρ') → f d ρ k → f d ρ k'
theorem PGs.wk {ts : List Expr} {t t' : TGs} (h : PGs X ts t) (w : ∀ v σ H Q, t' v σ H Q → t v σ H Q) : PGs X ts t' := ⟨fun pins s σ H v u Q I r q => h.run pins s σ H v u Q I r (w v σ H Q q)⟩
def fgN (i : Nat) : FG := fun d ρ k => k (ρ.set i (.d d))
theorem pg1_name {i : Nat} {x : Str} (h : PG X (.Name x pos) (gName i)) : PG1 X M (.Name x pos) [i] (fgN i) := by
  refine ⟨PG.wk h fun v σ H Q ⟨P, F, L, ρ, d, r, hd, k⟩ => ?_, fun d ρ k k' g q => g _ q⟩
  refine k (σ.set i (some v)) L H (Ex.refl _) (r.setD i (.d d) (some v) ⟨v, rfl, hd⟩ fun xs z => nomatch z) ⟨by simp, fun j hj => ?_⟩
  exact List.getElem?_set_ne fun z => hj (by rw [z]; exact List.mem_singleton.mpr rfl)
def fgNil : FGs := fun ds ρ k => ds = [] ∧ k ρ
def fgCons (g : FG) (gs : FGs) : FGs := fun ds ρ k => ∃ d r, ds = d :: r ∧ g d ρ fun ρ1 => gs r ρ1 k
theorem pgn_nil : PGn X M [] 0 [] fgNil := by
  refine ⟨PGs.wk pgs_nil fun us σ H Q ⟨P, F, L, ρ, ds, r, hd, e, k⟩ => ?_, fun d ρ k k' g q => ⟨q.1, g _ q.2⟩⟩
  subst e
  cases hd
  exact ⟨rfl, k σ L H (Ex.refl _) r OnlyAt.refl⟩
theorem pgn_cons {n : Nat} {vs ws : List Nat} {g : FG} {gs : FGs} (h : PG1 X M tg vs g) (hs : PGn X M es n ws gs) (ht : PGs X (tg :: es) (gCons (DGt X.k0 M vs g) (DGts X.k0 M ws gs))) : PGn X M (tg :: es) (n + 1) (vs ++ ws) (fgCons g gs) := by
  refine ⟨PGs.wk ht fun us σ H Q ⟨P, F, L, ρ, ds, r, hd, d, rest, e, k⟩ => ?_, fun ds ρ k k' g' ⟨d, r, e, q⟩ => ⟨d, r, e, h.mono _ _ _ _ (fun ρ1 q => hs.mono _ _ _ _ g' q) q⟩⟩
  subst e
  cases hd with
  | cons h1 h2 =>
    refine ⟨_, _, rfl, P, F, L, ρ, d, r, h1, h.mono _ _ _ _ (fun ρ1 q σ1 L1 H1 e1 r1 o1 => ?_) k⟩
    refine ⟨P, F, L1, ρ1, rest, r1, dpa_ex e1 _ _ h2, hs.mono _ _ _ _ (fun ρ2 q σ2 L2 H2 e2 r2 o2 => ?_) q⟩
    exact q σ2 L2 H2 (e1.trans e2) r2 ((o1.mono fun i z => List.mem_append_left _ z).trans (o2.mono fun i z => List.mem_append_right _ z))
def fgTup (n : Nat) (gs : FGs) : FG := fun d ρ k => ∃ ds, d = .tuple ds ∧ ds.length = n ∧ gs ds ρ k
theorem pg1_tup {n k : Nat} {vs : List Nat} {gs : FGs} (h : PGn X M es n vs gs) (ht : PG X (.Tuple es k pos) (gTup X.K n (DGts X.k0 M vs gs))) : PG1 X M (.Tuple es k pos) vs (fgTup n gs) := by
  refine ⟨PG.wk ht fun v σ H Q ⟨P, F, L, ρ, d, r, hd, ds, e, hl, k⟩ => ?_, fun d ρ k k' g ⟨ds, e, hl, q⟩ => ⟨ds, e, hl, h.mono _ _ _ _ g q⟩⟩
  subst e
  obtain ⟨a, us, rfl, h1, h2⟩ := rp_tuple hd
  exact ⟨a, us, rfl, h1, by rw [dpa_len h2]; exact hl, P, F, L, ρ, ds, r, h2, k⟩
end
end PD
namespace PD
open PySem L2
open Evl (Ex)
section
variable {X : Cx} {M : Mk0} {a b c e o tg iter : Expr} {es rest : List Expr} {fa fb fc : FE} {fl : FL} {ft fu : FT} {fn : FN} {fs fs' : FS} {st : Stmt} {sts : List Stmt} {pos : Pos}
def fsNext : FS := fun ρ P => P.nx ρ
def fsSeq (f g : FS) : FS := fun ρ P => f ρ { P with nx := fun ρ' => g ρ' P }
theorem pds_nil : PDs X M [] fsNext := ⟨PSs.wk pss_nil fun D σ H ⟨P, F, L, ρ, r, k⟩ => k σ L H (Ex.refl _) r, fun ρ k k' h q => h.nx _ q⟩
theorem fsSeq_mono {f g : FS} (mf : ∀ ρ k k', Post.Le k k' → f ρ k → f ρ k') (mg : ∀ ρ k k', Post.Le k k' → g ρ k → g ρ k') (ρ : Rho) (k k' : Post) (h : Post.Le k k') (q : fsSeq f g ρ k) : fsSeq f g ρ k' :=
  mf ρ { k with nx := fun ρ' => g ρ' k } { k' with nx := fun ρ' => g ρ' k' } ⟨fun ρ1 q => mg ρ1 k k' h q, h.rt, h.bk, h.ct⟩ q
theorem postLe_frz {K : Fr0} {P : Option Addr} {F : Hp} {L L1 : List Addr} {H H1 : Hp} (e1 : Ex (hide L H) (hide L1 H1)) (D : Ends) : Post.Le (postOf K M P F L H D) (postOf K M P F L1 H1 D) :=
  ⟨fun ρ2 q σ2 L2 H2 e2 r2 => q σ2 L2 H2 (e1.trans e2) r2, fun d ρ2 q v σ2 L2 H2 e2 r2 d2 => q v σ2 L2 H2 (e1.trans e2) r2 d2, fun ρ2 q σ2 L2 H2 e2 r2 => q σ2 L2 H2 (e1.trans e2) r2, fun ρ2 q σ2 L2 H2 e2 r2 => q σ2 L2 H2 (e1.trans e2) r2⟩
theorem pds_cons (h : PDS X M st fs) (hs : PDs X M sts fs') : PDs X M (st :: sts) (fsSeq fs fs') := by
  refine ⟨PSs.wk (pss_cons h.ps hs.ps) fun D σ H ⟨P, F, L, ρ, r, k⟩ => ?_, fsSeq_mono h.mono hs.mono⟩
  refine ⟨P, F, L, ρ, r, h.mono ρ _ (postOf X.k0 M P F L H { D with nx := DS X.k0 M fs' D }) ?_ k⟩
  refine ⟨fun ρ1 q σ1 L1 H1 e1 r1 => ?_, fun d ρ1 q => q, fun ρ1 q => q, fun ρ1 q => q⟩
  exact ⟨P, F, L1, ρ1, r1, hs.mono _ _ _ (postLe_frz e1 D) q⟩
theorem pds_one (h : PDS X M st fs) : PDs X M [st] fs := ⟨pss_one h.ps, h.mono⟩
def fsNever : FS := fun _ _ => False
theorem pds_never : PDS X M st fsNever := ⟨PS.wk ps_never fun D σ H ⟨_, _, _, _, _, k⟩ => k, fun _ _ _ _ q => q⟩
def fsRet (fa : FE) : FS := fun ρ P => fa ρ P.rt
theorem pds_ret (h : PD X M e fa) : PDS X M (.Return (some e) pos) (fsRet fa) := by
  refine ⟨PS.wk (ps_ret h.pe) fun D σ H ⟨P, F, L, ρ, r, k⟩ => ?_, fun ρ k k' g q => h.mono _ _ _ g.rt q⟩
  exact ⟨P, F, L, ρ, r, h.mono _ _ _ (fun d ρ1 q v L1 H1 e1 r1 d1 => q v σ L1 H1 e1 r1 d1) k⟩
def fsDrop (fa : FE) : FS := fun ρ P => fa ρ fun _ ρ1 => P.nx ρ1
theorem pds_expr (h : PD X M e fa) (hs : swapsWith e none pos.line X.env = pure false := by rfl) : PDS X M (.Expr e pos) (fsDrop fa) := by
  refine ⟨PS.wk (ps_expr h.pe hs) fun D σ H ⟨P, F, L, ρ, r, k⟩ => ?_, fun ρ k k' g q => h.mono _ _ _ (fun _ ρ1 q => g.nx _ q) q⟩
  exact ⟨P, F, L, ρ, r, h.mono _ _ _ (fun d ρ1 q v L1 H1 e1 r1 d1 => q σ L1 H1 e1 r1) k⟩
def fsIf (ft : FT) (f g : FS) : FS := fun ρ P => ft ρ fun b ρ1 => if b = true then f ρ1 P else g ρ1 P
theorem pds_if {ss ts : List Stmt} (ht : PDT X M c ft) (hf : PDs X M ss fs) (hg : PDs X M ts fs') : PDS X M (.If c ss ts pos) (fsIf ft fs fs') := by
  refine ⟨PS.wk (ps_if ht.pt hf.ps hg.ps) fun D σ H ⟨P, F, L, ρ, r, k⟩ => ?_, fun ρ k k' h q => ht.mono _ _ _ (fun t ρ1 q => by
    cases t with
    | true => exact hf.mono _ _ _ h q
    | false => exact hg.mono _ _ _ h q) q⟩
  refine ⟨P, F, L, ρ, r, ht.mono _ _ _ (fun t ρ1 q L1 H1 e1 r1 => ?_) k⟩
  have le : ∀ D : Ends, Post.Le (postOf X.k0 M P F L H D) (postOf X.k0 M P F L1 H1 D) := fun D => ⟨fun ρ2 q σ2 L2 H2 e2 r2 => q σ2 L2 H2 (e1.trans e2) r2, fun d ρ2 q v σ2 L2 H2 e2 r2 d2 => q v σ2 L2 H2 (e1.trans e2) r2 d2, fun ρ2 q σ2 L2 H2 e2 r2 => q σ2 L2 H2 (e1.trans e2) r2, fun ρ2 q σ2 L2 H2 e2 r2 => q σ2 L2 H2 (e1.trans e2) r2⟩
  cases t with
  | true => exact ⟨P, F, L1, ρ1, r1, hf.mono _ _ _ (le D) q⟩
  | false => exact ⟨P, F, L1, ρ1, r1, hg.mono _ _ _ (le D) q⟩
/-- target = value, of data -/
def fsAsg (fa : FE) (g : FG) : FS := fun ρ P => fa ρ fun d ρ1 => g d ρ1 P.nx
theorem fsAsg_mono {g : FG} (ma : ∀ ρ k k', (∀ d ρ', k d ρ' → k' d ρ') → fa ρ k → fa ρ k') (mg : ∀ d ρ k k', (∀ ρ', k ρ' → k' ρ') → g d ρ k → g d ρ k') (ρ : Rho) (k k' : Post) (h : Post.Le k k') (q : fsAsg fa g ρ k) : fsAsg fa g ρ k' :=
  ma _ _ _ (fun d ρ1 q => mg _ _ _ _ h.nx q) q
theorem dAsg {g : FG} {vs : List Nat} (ma : ∀ ρ k k', (∀ d ρ', k d ρ' → k' d ρ') → fa ρ k → fa ρ k') (mg : ∀ d ρ k k', (∀ ρ', k ρ' → k' ρ') → g d ρ k → g d ρ k') (D : Ends) (σ : L2.St) (H : Hp) (h : DS X.k0 M (fsAsg fa g) D σ H) :
    tAsg (DE X.k0 M fa) (DGt X.k0 M vs g) D σ H := by
  obtain ⟨P, F, L, ρ, r, k⟩ := h
  refine ⟨P, F, L, ρ, r, ma _ _ _ (fun d ρ1 q v L1 H1 e1 r1 d1 => ?_) k⟩
  exact ⟨P, F, L1, ρ1, d, r1, d1, mg _ _ _ _ (fun ρ2 q σ2 L2 H2 e2 r2 _ => q σ2 L2 H2 (e1.trans e2) r2) q⟩
theorem pds_asg {g : FG} {vs : List Nat} (ha : PD X M e fa) (hg : PG1 X M tg vs g) (hs : swapsWithSole [tg] e pos.line X.env = pure false := by rfl) (hw : swappedStores [tg] e X.env = pure none := by rfl)
    (h1 : (assignEach [tg] X.env).map (·.2) = [assign tg X.env] := by rfl) : PDS X M (.Assign [tg] e pos) (fsAsg fa g) :=
  ⟨PS.wk (ps_asg ha.pe hg.pg hs hw h1) (dAsg ha.mono hg.mono), fsAsg_mono ha.mono hg.mono⟩
/-- x = a new list, that the def goes on filling -/
def fsOwn (i : Nat) (fn : FN) : FS := fun ρ P => fn ρ fun ds ρ1 => P.nx (ρ1.set i (.own ds))
theorem dOwn {i : Nat} (mn : ∀ ρ k k', (∀ d ρ', k d ρ' → k' d ρ') → fn ρ k → fn ρ k') (D : Ends) (σ : L2.St) (H : Hp) (h : DS X.k0 M (fsOwn i fn) D σ H) : tAsg (DNw X.k0 M fn) (gName i) D σ H := by
  obtain ⟨P, F, L, ρ, r, k⟩ := h
  refine ⟨P, F, L, ρ, r, mn _ _ _ (fun ds ρ1 q p vs L1 H1 e1 hF r1 d1 => ?_) k⟩
  exact q _ L1 H1 e1 (r1.toOwn hF d1 i)
theorem pds_own {i : Nat} {x : Str} {px : Pos} (hn : PN X M e fn) (hg : PG X (.Name x px) (gName i)) (hs : swapsWithSole [.Name x px] e pos.line X.env = pure false := by rfl) (hw : swappedStores [.Name x px] e X.env = pure none := by rfl)
    (h1 : (assignEach [.Name x px] X.env).map (·.2) = [assign (.Name x px) X.env] := by rfl) : PDS X M (.Assign [.Name x px] e pos) (fsOwn i fn) :=
  ⟨PS.wk (ps_asg hn.pe hg hs hw h1) (dOwn hn.mono), fun ρ k k' h q => hn.mono _ _ _ (fun ds ρ1 q => h.nx _ q) q⟩
/-- x.append(e), x a list of the def's own -/
def fsApp (i : Nat) (fa : FE) : FS := fun ρ P => fa ρ fun d ρ1 => ∃ xs : List D, ρ1.sl[i]? = some (.own xs) ∧ xs.length < 1000000 ∧ P.nx (ρ1.set i (.own (xs ++ [d])))
theorem set_set_id {l : L2.St} {i : Nat} {v : Option V} (h : l[i]? = some v) : l.set i v = l := by
  apply List.ext_getElem?
  intro j
  by_cases e : i = j
  · subst e
    rw [List.getElem?_set_self (List.getElem?_eq_some_iff.mp h).1, h]
  · rw [List.getElem?_set_ne e]
theorem pds_app {i : Nat} {x : Str} {px pa pc : Pos} (ha : PD X M e fa)
    (hp : PE X (.Call (.Attribute (.Name x px) "append" pa) [e] [] pc) (tBM X.K "list" rAppend (tVar i) (tCons (DE X.k0 M fa) tNil)))
    (hs : swapsWith (.Call (.Attribute (.Name x px) "append" pa) [e] [] pc) none pos.line X.env = pure false := by rfl) :
    PDS X M (.Expr (.Call (.Attribute (.Name x px) "append" pa) [e] [] pc) pos) (fun ρ P => (∃ xs : List D, ρ.sl[i]? = some (.own xs)) ∧ fsApp i fa ρ P) := by
  refine ⟨PS.wk (ps_expr hp hs) fun D σ H ⟨P, F, L, ρ, r, ⟨xs0, h0⟩, k⟩ => ?_, fun ρ k k' h q => ⟨q.1, ha.mono _ _ _ (fun d ρ1 ⟨xs, h1, h2, q⟩ => ⟨xs, h1, h2, h.nx _ q⟩) q.2⟩⟩
  obtain ⟨l, u, g1, g2, g3, vs, g5, g4⟩ := r.getOwn h0
  subst g5
  refine ⟨.ref l, g1, ?_⟩
  refine ⟨.inl ⟨rfl, vs, .inl (.inl g3)⟩, ?_⟩
  refine ⟨P, F, L, ρ, r, ha.mono _ _ _ (fun d ρ1 ⟨xs, h1, h2, q⟩ v L1 H1 e1 r1 d1 => ?_) k⟩
  obtain ⟨p, us, f1, f2, f3, f4, f5, f6⟩ := r1.ofOwn h1
  rw [g1] at f1
  cases f1
  have hl := dpa_len f5
  refine ⟨l, us, v, rfl, rfl, f2, by rw [sizeLine_eq]; omega, ?_⟩
  have hh := hide_repin (H := H1) (o' := HO.lst (us ++ [v])) f4
  have r2 := f6.repin (o' := .lst (us ++ [v]))
  have r3 := r2.toOwn f3 (by rw [hh]; exact dpa_app f5 (.cons d1 .nil)) i
  rw [set_set_id g1] at r3
  have es : (ρ1.set i .no).set i (.own (xs ++ [d])) = ρ1.set i (.own (xs ++ [d])) := by
    show Rho.mk ((ρ1.sl.set i .no).set i (.own (xs ++ [d]))) ρ1.n = _
    rw [List.set_set]
  rw [es] at r3
  exact q σ L1 _ (by rw [hh]; exact e1) r3
/-- a list of the def's own is no longer filled -/
def frz (i : Nat) (ρ : Rho) : Rho := match ρ.sl[i]? with
  | some (.own c) => ρ.set i (.d (ow c))
  | _ => ρ
theorem R.freeze {K : Fr0} {P : Option Addr} {F : Hp} {L : List Addr} {ρ : Rho} {σ : L2.St} {H : Hp} (i : Nat) (r : R K M P F L ρ σ H) : ∃ L', Ex (hide L H) (hide L' H) ∧ R K M P F L' (PD.frz i ρ) σ H := by
  unfold PD.frz
  split
  · rename_i xs h
    obtain ⟨p, u, f1, f2, f3, f4, f5, f6⟩ := r.ofOwnC h
    obtain ⟨L2, e2, r2, d2, _⟩ := reveal_own (Ex.refl _) f3 f6 f5
    refine ⟨L2, e2, ?_⟩
    have r3 := r2.setD i (.d (ow xs)) (some (.ref p)) ⟨_, rfl, d2⟩ fun xs z => nomatch z
    rw [set_set_id f1] at r3
    have es : (ρ.set i .no).set i (.d (ow xs)) = ρ.set i (.d (ow xs)) := by
      show Rho.mk ((ρ.sl.set i .no).set i (.d (ow xs))) ρ.n = _
      rw [List.set_set]
    rw [es] at r3
    exact r3
  · exact ⟨L, Ex.refl _, r⟩
theorem pds_frz1 (i : Nat) (h : PDS X M st fs) : PDS X M st (fun ρ P => fs (frz i ρ) P) := by
  refine ⟨PS.wk h.ps fun D σ H ⟨P, F, L, ρ, r, k⟩ => ?_, fun ρ k k' g q => h.mono _ _ _ g q⟩
  obtain ⟨L1, e1, r1⟩ := r.freeze i
  exact ⟨P, F, L1, _, r1, h.mono _ _ _ (postLe_frz e1 D) k⟩
def dropOwn (s : Sl) : Sl := match s with
  | .own _ => .no
  | s => s
def lendR (i : Nat) (ρ : Rho) : Rho := ⟨(frz i ρ).sl.map dropOwn, ρ.n⟩
theorem bare_drop (l : List Sl) (n : Nat) : Bare ⟨l.map dropOwn, n⟩ := fun i xs h => by
  have h : (l.map dropOwn)[i]? = some (.own xs) := h
  rw [List.getElem?_map] at h
  cases e : l[i]? with
  | none => rw [e] at h; cases h
  | some s =>
    rw [e] at h
    cases s <;> cases h
/-- all lists of one's own set aside -/
theorem R.aside {K : Fr0} {P : Option Addr} {F : Hp} {L : List Addr} {ρ : Rho} {σ : L2.St} {H : Hp} (r : R K M P F L ρ σ H) : R K M P (keepF ρ σ F H) L ⟨ρ.sl.map dropOwn, ρ.n⟩ σ H := by
  refine r.frame (bare_drop _ _) rfl (by simp [r.len]) fun i s o h1 h2 => ?_
  have h1 : (ρ.sl.map dropOwn)[i]? = some s := h1
  rw [List.getElem?_map] at h1
  cases e : ρ.sl[i]? with
  | none => rw [e] at h1; cases h1
  | some t =>
    rw [e] at h1
    have q := r.sl i t o e h2
    cases t <;> (cases h1; first | trivial | exact q)
/-- what is hidden again behind the loan -/
def Lent (K : Fr0) (c : Option Sl) (L' L'' : List Addr) (H0 H' : Hp) : Prop := L'' = L' ∨ ∃ p u o, c = some (.own o) ∧ L'' = p :: L' ∧ hide L' H' p = some u ∧ OwAt K H0 p u o
theorem R.lend {K : Fr0} {P : Option Addr} {F : Hp} {L : List Addr} {ρ : Rho} {σ : L2.St} {H : Hp} (i : Nat) (r : R K M P F L ρ σ H) :
    ∃ F1 L1, R K M P F1 L1 (lendR i ρ) σ H ∧ ∀ ρc L' H', Ex (hide L1 H) (hide L' H') → R K M P F1 L' ρc σ H' → ∃ L'', Ex (hide L H) (hide L'' H') ∧ R K M P F L'' ⟨ρ.sl, ρc.n⟩ σ H' ∧ Lent K ρ.sl[i]? L' L'' (hide L H) H' := by
  by_cases hx : ∃ xs, ρ.sl[i]? = some (.own xs)
  · obtain ⟨xs, hx⟩ := hx
    obtain ⟨p, u, f1, f2, f3, f4, f5, f6⟩ := r.ofOwnC hx
    have ef : frz i ρ = ρ.set i (.d (ow xs)) := by
      unfold frz
      rw [hx]
    have en : (ρ.set i .no).n = ρ.n := rfl
    -- set aside, reveal p, give it to the slot
    have a1 := f6.aside
    -- p is still held: it is not own now
    have hno := f6.pinOwn
    have kF : keepF (ρ.set i .no) σ (upd F p u) H = upd (keepF (ρ.set i .no) σ F H) p u := by
      funext a
      by_cases ha : a = p
      · subst ha
        rw [keepF_not hno, upd_same, upd_same]
      · rw [upd_ne ha]
        by_cases ho : Own (ρ.set i .no) σ a
        · rw [keepF_own ho, keepF_own ho]
        · rw [keepF_not ho, keepF_not ho, upd_ne ha]
    rw [kF] at a1
    have kp : keepF (ρ.set i .no) σ F H p = none := by rw [keepF_not hno]; exact f3
    obtain ⟨L2, e2, r2, d2, hp⟩ := reveal_own (Ex.refl _) kp a1 f5
    have r3 := r2.setD i (.d (ow xs)) (some (.ref p)) ⟨_, rfl, d2⟩ fun xs z => nomatch z
    rw [set_set_id f1] at r3
    have es : (⟨(ρ.set i .no).sl.map dropOwn, (ρ.set i .no).n⟩ : Rho).set i (.d (ow xs)) = lendR i ρ := by
      unfold lendR
      rw [ef]
      show Rho.mk (((ρ.sl.set i .no).map dropOwn).set i (.d (ow xs))) ρ.n = Rho.mk ((ρ.sl.set i (.d (ow xs))).map dropOwn) ρ.n
      congr 1
      rw [List.map_set, List.map_set, List.set_set]
      rfl
    rw [es] at r3
    refine ⟨_, L2, r3, fun ρc L' H' ex rc => ?_⟩
    -- p's list is still there, seen
    have hp' := hide_some.mp (ex _ _ hp)
    -- hide p again
    have exL : Ex (hide L H) (hide (p :: L') H') := fun a u hu => by
      obtain ⟨g1, g2⟩ := hide_some.mp hu
      have ne : a ≠ p := fun z => g1 (by rw [z]; exact f4)
      obtain ⟨g3, g4⟩ := hide_some.mp (ex a u (e2 a u hu))
      exact hide_some.mpr ⟨fun z => by
        rcases List.mem_cons.mp z with z | z
        · exact ne z
        · exact g3 z, g4⟩
    refine ⟨p :: L', exL, ?_, .inr ⟨p, u, xs, hx, rfl, hide_some.mpr hp', f5⟩⟩
    -- rebuild
    refine ⟨r.len, fun j s o h1 h2 => ?_, fun a u h => ?_, fun a h => ?_, r.apart, r.ownF, fun q hq => ?_, rc.tb.moveC (fun c o hc => ?_) fun P' ps k1 k2 k3 => ⟨?_, List.mem_cons_of_mem _ k2, k3⟩⟩
    · have q := r.sl j s o h1 h2
      cases s with
      | no => trivial
      | d x =>
        obtain ⟨v, g3, g4⟩ := q
        exact ⟨v, g3, dp_ex exL _ _ g4⟩
      | own ys =>
        obtain ⟨l, us, g3, g4, g5, g6⟩ := q
        by_cases hj : j = i
        · subst hj
          have ez : l = p := by
            rw [h2, g3] at f1
            cases f1
            rfl
          rw [ez, f2] at g5
          cases g5
          exact ⟨p, u, by rw [g3, ez], List.mem_cons_self, hp'.2, by rw [ez] at g6; exact g6.up exL⟩
        · have ho : Own (ρ.set i .no) σ l := ⟨j, ys, by
            rw [show (ρ.set i .no).sl = ρ.sl.set i .no from rfl, List.getElem?_set_ne (fun z => hj z.symm)]
            exact h1, by rw [h2, g3]⟩
          have hf := rc.fr l us (by rw [keepF_own ho]; exact g5)
          exact ⟨l, us, g3, List.mem_cons_of_mem _ hf.2, hf.1, g6.up exL⟩
      | st => exact q
      | raw v => exact q
      | exc a d fl => exact ⟨q.1, q.2.up exL⟩
    · have hno2 : ¬ Own (ρ.set i .no) σ a := fun ⟨j, ys, h1, h2⟩ => by
        have := f6.ownF j ys a h1 h2
        have hap : a ≠ p := fun z => by rw [z, upd_same] at this; cases this
        rw [upd_ne hap, h] at this
        cases this
      have q := rc.fr a u (by rw [keepF_not hno2]; exact h)
      exact ⟨q.1, List.mem_cons_of_mem _ q.2⟩
    · rcases List.mem_cons.mp h with z | z
      · rw [z]
        exact ⟨_, hp'.2⟩
      · exact rc.tr a z
    · obtain ⟨A, a1', a2', a3'⟩ := rc.m q hq
      have hA : ∀ a ∈ A, ¬ Own (ρ.set i .no) σ a := fun a ha ho => by
        have q := (a2' a ha).2
        rw [keepF_own ho] at q
        obtain ⟨j, ys, h1, h2⟩ := ho
        obtain ⟨l, us, g6, _, g8, _⟩ := f6.getOwn h1
        rw [h2] at g6
        cases g6
        rw [g8] at q
        cases q
      refine ⟨A, a1', fun a ha => ⟨List.mem_cons_of_mem _ (a2' a ha).1, ?_⟩, fun j ys l h1 h2 hl => ?_⟩
      · have q := (a2' a ha).2
        rw [keepF_not (hA a ha)] at q
        exact q
      · by_cases hj : j = i
        · subst hj
          rw [h2] at f1
          cases f1
          exact hp'.1 (a2' _ hl).1
        · exact hA l hl ⟨j, ys, by
            rw [show (ρ.set i .no).sl = ρ.sl.set i .no from rfl, List.getElem?_set_ne (fun z => hj z.symm)]
            exact h1, h2⟩
    · obtain ⟨c1, c2⟩ := hide_some.mp hc
      refine hide_some.mpr ⟨fun z => ?_, c2⟩
      rcases List.mem_cons.mp z with z | z
      · rw [z, hp'.2] at c2
        cases c2
        exact OwAt.notFrz f5
      · exact c1 z
    · cases z : F P' with
      | none => rfl
      | some o =>
        have hno2 : ¬ Own (ρ.set i .no) σ P' := fun ⟨j, ys, h1, h2⟩ => by
          have := f6.ownF j ys P' h1 h2
          have hap : P' ≠ p := fun z => by rw [z, upd_same] at this; cases this
          rw [upd_ne hap, z] at this
          cases this
        rw [keepF_not hno2, z] at k1
        cases k1
  · have ef : frz i ρ = ρ := by
      unfold frz
      split
      · rename_i xs h
        exact absurd ⟨xs, h⟩ hx
      · rfl
    refine ⟨_, L, by
      have := r.aside
      unfold lendR
      rw [ef]
      exact this, fun ρc L' H' ex rc => ⟨L', ex, r.back rc ex, .inl rfl⟩⟩
def ftLend (i : Nat) (ft : FT) : FT := fun ρ k => ft (lendR i ρ) fun b ρ' => k b ⟨ρ.sl, ρ'.n⟩
theorem pdt_lend (i : Nat) (h : PDT X M e ft) : PDT X M e (ftLend i ft) := by
  refine ⟨PT.wk h.pt fun σ H Q ⟨P, F, L, ρ, r, k⟩ => ?_, fun ρ k k' g q => h.mono _ _ _ (fun b ρ1 q => g _ _ q) q⟩
  obtain ⟨F1, L1, r1, back⟩ := r.lend i
  refine ⟨P, F1, L1, _, r1, h.mono _ _ _ (fun b ρ1 q L2 H2 e2 r2 => ?_) k⟩
  obtain ⟨L3, e3, r3, _⟩ := back ρ1 L2 H2 e2 r2
  exact q L3 H2 e3 r3
def fLend (i : Nat) (fa : FE) : FE := fun ρ k => fa (lendR i ρ) fun d ρ' => flatD d = true ∧ k d ⟨ρ.sl, ρ'.n⟩
end
end PD
namespace PD
open PySem L2
open Evl (Ex)
/-- what an iterator gives: the data ds, one by one, whatever is made meanwhile -/
def Walks (K : Fr0) (J : It) (L : List Addr) (H : Hp) (ds : List D) : Prop :=
  ∀ L2 H2, Ex (hide L H) (hide L2 H2) → (∀ a ∈ L2, ∃ o, H2 a = some o) → ∀ i,
    (∀ d, ds[i]? = some d → J.go i H2 ∧ ∀ x H3, J.yld i H2 x H3 → Ex H2 H3 ∧ Rp K (hide L2 H3) x d) ∧ (ds.length ≤ i → J.stop i H2)
theorem Walks.mono {K : Fr0} {J : It} {L L' : List Addr} {H H' : Hp} {ds : List D} (w : Walks K J L H ds) (e : Ex (hide L H) (hide L' H')) : Walks K J L' H' ds := fun L2 H2 e2 tr => w L2 H2 (e.trans e2) tr
abbrev FI := Rho → (List D → Rho → Prop) → Prop
def DI (K : Fr0) (M : Mk0) (f : FI) : TI := fun σ H Q => ∃ P F L ρ, R K M P F L ρ σ H ∧ f ρ fun ds ρ' => ∀ J L' H', Ex (hide L H) (hide L' H') → R K M P F L' ρ' σ H' → Walks K J L' H' ds → Q J H'
structure PDI (X : Cx) (M : Mk0) (tg iter : Expr) (f : FI) : Prop where
  pi : PI X tg iter (DI X.k0 M f)
  mono : ∀ ρ k k', (∀ d ρ', k d ρ' → k' d ρ') → f ρ k → f ρ k'
def forD (g : FG) (fb : FS) : List D → Rho → Post → Prop
  | [], ρ, P => P.nx ρ
  | x :: xs, ρ, P => g x ρ fun ρ1 => fb ρ1 { nx := fun ρ' => forD g fb xs ρ' P, ct := fun ρ' => forD g fb xs ρ' P, bk := P.nx, rt := P.rt }
def whD (ft : FT) (fb : FS) (ρ : Rho) (P : Post) : Prop := ∃ W : Nat → Rho → Prop, (∃ m, W m ρ) ∧ ∀ m ρ, W m ρ →
  ft ρ fun b ρ1 => if b = true then fb ρ1 { nx := fun ρ' => ∃ m', m' < m ∧ W m' ρ', ct := fun ρ' => ∃ m', m' < m ∧ W m' ρ', bk := P.nx, rt := P.rt } else P.nx ρ1
def wipeR (vs : List Nat) (ρ : Rho) : Rho := ⟨vs.foldr (fun v l => l.set v .no) ρ.sl, ρ.n⟩
/-- a comprehension: what is made so far, one by one -/
def compD (g : FG) (ft : FT) (fe : FE) (vs : List Nat) : List D → List D → Rho → (List D → Rho → Prop) → Prop
  | [], acc, ρ, k => k acc ρ
  | x :: xs, acc, ρ, k => g x (wipeR vs ρ) fun ρ1 => ft ρ1 fun b ρ2 => if b = true then fe ρ2 fun y ρ3 => compD g ft fe vs xs (acc ++ [y]) ⟨ρ.sl, ρ3.n⟩ k else compD g ft fe vs xs acc ⟨ρ.sl, ρ2.n⟩ k
def ftYes : FT := fun ρ k => k true ρ
theorem R.wipe {K : Fr0} {M : Mk0} {P : Option Addr} {F : Hp} {L : List Addr} {ρ : Rho} {σ : L2.St} {H : Hp} (r : R K M P F L ρ σ H) : ∀ vs : List Nat, R K M P F L (wipeR vs ρ) (wipe σ vs) H
  | [] => r
  | v :: vs => (r.wipe vs).setD v .no none trivial fun xs z => nomatch z
section
variable {X : Cx} {M : Mk0} {a b c e o tg iter elt : Expr} {es rest ifs : List Expr} {fa fb fc fe : FE} {fl : FL} {ft fu : FT} {fn : FN} {fs fs' : FS} {fi : FI} {g : FG} {st : Stmt} {sts body : List Stmt} {pos : Pos}
theorem forD_mono (mg : ∀ d ρ k k', (∀ ρ', k ρ' → k' ρ') → g d ρ k → g d ρ k') (mb : ∀ ρ k k', Post.Le k k' → fs ρ k → fs ρ k') : ∀ (ds : List D) (ρ : Rho) (k k' : Post), Post.Le k k' → forD g fs ds ρ k → forD g fs ds ρ k'
  | [], ρ, k, k', h, q => h.nx _ q
  | d :: ds, ρ, k, k', h, q => mg _ _ _ _ (fun ρ1 q => mb ρ1 { nx := fun ρ' => forD g fs ds ρ' k, ct := fun ρ' => forD g fs ds ρ' k, bk := k.nx, rt := k.rt } { nx := fun ρ' => forD g fs ds ρ' k', ct := fun ρ' => forD g fs ds ρ' k', bk := k'.nx, rt := k'.rt }
      ⟨fun ρ2 q => forD_mono mg mb ds _ _ _ h q, h.rt, h.nx, fun ρ2 q => forD_mono mg mb ds _ _ _ h q⟩ q) q
def fsFor (fi : FI) (g : FG) (fb : FS) : FS := fun ρ P => fi ρ fun ds ρ1 => forD g fb ds ρ1 P
theorem dFor {vs : List Nat} (mi : ∀ ρ k k', (∀ d ρ', k d ρ' → k' d ρ') → fi ρ k → fi ρ k') (mg : ∀ d ρ k k', (∀ ρ', k ρ' → k' ρ') → g d ρ k → g d ρ k') (mb : ∀ ρ k k', Post.Le k k' → fs ρ k → fs ρ k')
    (D' : Ends) (σ : L2.St) (H : Hp) (h : DS X.k0 M (fsFor fi g fs) D' σ H) : tFor (DI X.k0 M fi) (DGt X.k0 M vs g) (DS X.k0 M fs) D' σ H := by
  obtain ⟨P, F, L, ρ, r, k⟩ := h
  refine ⟨P, F, L, ρ, r, mi _ _ _ (fun ds ρ1 q J L1 H1 e1 r1 w => ?_) k⟩
  refine ⟨fun i m σ' H' => m = ds.length - i ∧ i ≤ ds.length ∧ ∃ L' ρ', Ex (hide L1 H1) (hide L' H') ∧ R X.k0 M P F L' ρ' σ' H' ∧ forD g fs (ds.drop i) ρ' (postOf X.k0 M P F L H D'), ⟨ds.length, by simp, Nat.zero_le _, L1, ρ1, Ex.refl _, r1, by simpa using q⟩, ?_⟩
  rintro i m σ' H' ⟨rfl, hi, L', ρ', e', r', q'⟩
  have ww := w L' H' e' r'.tr i
  by_cases hlt : i < ds.length
  · have hd : ds[i]? = some ds[i] := List.getElem?_eq_getElem hlt
    obtain ⟨go, yl⟩ := ww.1 _ hd
    rw [List.drop_eq_getElem_cons hlt] at q'
    refine .inr ⟨go, fun σ2 H2 => ∃ L2 ρ2, Ex (hide L1 H1) (hide L2 H2) ∧ R X.k0 M P F L2 ρ2 σ2 H2 ∧ forD g fs (ds.drop (i + 1)) ρ2 (postOf X.k0 M P F L H D'), fun σ2 H2 ⟨L2, ρ2, e2, r2, q2⟩ => ⟨ds.length - (i + 1), by omega, rfl, hlt, L2, ρ2, e2, r2, q2⟩, fun x H2 y => ?_⟩
    obtain ⟨e2, d2⟩ := yl x H2 y
    refine ⟨P, F, L', ρ', ds[i], r'.ex e2, d2, mg _ _ _ _ (fun ρ3 q3 σ3 L3 H3 e3 r3 _ => ?_) q'⟩
    have e13 : Ex (hide L1 H1) (hide L3 H3) := (e'.trans (hide_ex e2)).trans e3
    refine ⟨P, F, L3, ρ3, r3, mb ρ3 { nx := fun ρ' => forD g fs (ds.drop (i + 1)) ρ' (postOf X.k0 M P F L H D'), ct := fun ρ' => forD g fs (ds.drop (i + 1)) ρ' (postOf X.k0 M P F L H D'), bk := (postOf X.k0 M P F L H D').nx, rt := (postOf X.k0 M P F L H D').rt } _ ⟨fun ρ4 q4 σ4 L4 H4 e4 r4 => ⟨L4, ρ4, e13.trans e4, r4, q4⟩, fun d ρ4 q4 v σ4 L4 H4 e4 r4 d4 => q4 v σ4 L4 H4 ((e1.trans e13).trans e4) r4 d4, fun ρ4 q4 σ4 L4 H4 e4 r4 => q4 σ4 L4 H4 ((e1.trans e13).trans e4) r4, fun ρ4 q4 σ4 L4 H4 e4 r4 => ⟨L4, ρ4, e13.trans e4, r4, q4⟩⟩ q3⟩
  · have e : ds.length ≤ i := by omega
    rw [List.drop_eq_nil_of_le e] at q'
    exact .inl ⟨ww.2 e, q' σ' L' H' (e1.trans e') r'⟩
theorem pds_for {vs : List Nat} (hp : PassesOwn (model X.prog X.w) X.A X.env X.xe) (hc : X.calm = true) (hi : PDI X M tg iter fi) (hg : PG1 X M tg vs g) (hb : PDs X M body fs) (hs : ∀ x, foldedSetIterable iter X.env x = pure x := by intro _; rfl) :
    PDS X M (.For tg iter body [] pos) (fsFor fi g fs) :=
  ⟨PS.wk (ps_for hp hc hi.pi hg.pg hb.ps hs) (dFor hi.mono hg.mono hb.mono), fun ρ k k' h q => hi.mono _ _ _ (fun ds ρ1 q => forD_mono hg.mono hb.mono ds _ _ _ h q) q⟩
theorem pds_while (hp : PassesOwn (model X.prog X.w) X.A X.env X.xe) (ht : PDT X M c ft) (hb : PDs X M body fs) : PDS X M (.While c body [] pos) (whD ft fs) := by
  refine ⟨PS.wk (ps_while hp ht.pt hb.ps) fun D' σ H ⟨P, F, L, ρ, r, W, ⟨m0, w0⟩, turn⟩ => ?_, fun ρ k k' h ⟨W, w0, turn⟩ => ⟨W, w0, fun m ρ w => ht.mono _ _ _ (fun t ρ1 q => by
    cases t with
    | true => exact hb.mono ρ1 { nx := fun ρ' => ∃ m', m' < m ∧ W m' ρ', ct := fun ρ' => ∃ m', m' < m ∧ W m' ρ', bk := k.nx, rt := k.rt } { nx := fun ρ' => ∃ m', m' < m ∧ W m' ρ', ct := fun ρ' => ∃ m', m' < m ∧ W m' ρ', bk := k'.nx, rt := k'.rt } ⟨fun _ q => q, h.rt, h.nx, fun _ q => q⟩ q
    | false => exact h.nx _ q) (turn m ρ w)⟩⟩
  refine ⟨fun m σ' H' => ∃ L' ρ', Ex (hide L H) (hide L' H') ∧ R X.k0 M P F L' ρ' σ' H' ∧ W m ρ', ⟨m0, L, ρ, Ex.refl _, r, w0⟩, ?_⟩
  rintro m σ' H' ⟨L', ρ', e', r', w'⟩
  refine ⟨P, F, L', ρ', r', ht.mono _ _ _ (fun t ρ1 q L1 H1 e1 r1 => ?_) (turn m ρ' w')⟩
  cases t with
  | true =>
    refine ⟨fun σ2 H2 => ∃ m', m' < m ∧ ∃ L2 ρ2, Ex (hide L H) (hide L2 H2) ∧ R X.k0 M P F L2 ρ2 σ2 H2 ∧ W m' ρ2, fun σ2 H2 ⟨m', hm, L2, ρ2, e2, r2, w2⟩ => ⟨m', hm, L2, ρ2, e2, r2, w2⟩, P, F, L1, ρ1, r1, hb.mono _ _ _ ?_ q⟩
    exact ⟨fun ρ2 ⟨m', hm, w2⟩ σ2 L2 H2 e2 r2 => ⟨m', hm, L2, ρ2, (e'.trans e1).trans e2, r2, w2⟩, fun d ρ2 q v σ2 L2 H2 e2 r2 d2 => q v σ2 L2 H2 ((e'.trans e1).trans e2) r2 d2, fun ρ2 q σ2 L2 H2 e2 r2 => q σ2 L2 H2 ((e'.trans e1).trans e2) r2, fun ρ2 ⟨m', hm, w2⟩ σ2 L2 H2 e2 r2 => ⟨m', hm, L2, ρ2, (e'.trans e1).trans e2, r2, w2⟩⟩
  | false => exact q σ' L1 H1 (e'.trans e1) r1
def seqD : D → Option (List D)
  | .list xs => some xs
  | .tuple xs => some xs
  | _ => none
def fiSeq (fa : FE) : FI := fun ρ k => fa ρ fun d ρ1 => ∃ ds, seqD d = some ds ∧ k ds ρ1
theorem fiSeq_mono (ma : ∀ ρ k k', (∀ d ρ', k d ρ' → k' d ρ') → fa ρ k → fa ρ k') (ρ : Rho) (k k' : List D → Rho → Prop) (h : ∀ d ρ', k d ρ' → k' d ρ') (q : fiSeq fa ρ k) : fiSeq fa ρ k' :=
  ma _ _ _ (fun d ρ1 ⟨ds, h1, h2⟩ => ⟨ds, h1, h _ _ h2⟩) q
theorem walks_l {K : Fr0} {a : Addr} {vs : List V} {L : List Addr} {H : Hp} {ds : List D} (h : SqL K.f (hide L H) a vs) (hd : RpAll K (hide L H) vs ds) : Walks K (Itl K.f a) L H ds := by
  intro L2 H2 e tr i
  have h2 : SqL K.f H2 a vs := sql_le (Evl.ex_l e h)
  have d2 := dpa_ex e _ _ hd
  refine ⟨fun d hi => ?_, fun hl => ⟨vs, h2, by rw [dpa_len hd]; exact hl⟩⟩
  obtain ⟨v, hv, dv⟩ := dpa_get' d2 hi
  refine ⟨⟨vs, v, h2, hv⟩, fun x H3 ⟨e3, y⟩ => ?_⟩
  subst e3
  have := y vs h2
  rw [hv] at this
  cases this
  exact ⟨Ex.refl _, dv⟩
theorem walks_t {K : Fr0} {a : Addr} {vs : List V} {L : List Addr} {H : Hp} {ds : List D} (h : SqT K.f (hide L H) a vs) (hd : RpAll K (hide L H) vs ds) : Walks K (Itt K.f a) L H ds := by
  intro L2 H2 e tr i
  have h2 : SqT K.f H2 a vs := sqt_le (Evl.ex_t e h)
  have d2 := dpa_ex e _ _ hd
  refine ⟨fun d hi => ?_, fun hl => ⟨vs, h2, by rw [dpa_len hd]; exact hl⟩⟩
  obtain ⟨v, hv, dv⟩ := dpa_get' d2 hi
  refine ⟨⟨vs, v, h2, hv⟩, fun x H3 ⟨e3, y⟩ => ?_⟩
  subst e3
  have := y vs h2
  rw [hv] at this
  cases this
  exact ⟨Ex.refl _, dv⟩
def iSeq (K : PySem.W.Frag) (tl : TE) : TI := fun σ H R => tl σ H fun x H1 => ∃ a, x = V.ref a ∧ ((∃ xs, SqL K H1 a xs) ∧ R (Itl K a) H1 ∨ (∃ xs, SqT K H1 a xs) ∧ R (Itt K a) H1)
theorem pi_seq {l : Expr} {tl : TE} (hl : PE X l tl) : PI X tg l (iSeq X.K tl) := by
  refine ⟨fun pins s σ H R0 I h => ?_⟩
  refine thn (hl.run pins s σ H _ I h) fun v s1 ⟨x, H1, I1, r1, q1⟩ => ?_
  obtain ⟨a, e, q⟩ := q1
  subst e
  rcases q with ⟨⟨xs, hq⟩, q⟩ | ⟨⟨xs, hq⟩, q⟩
  · exact pi_list_tail I1 r1 hq q
  · exact pi_tup_tail I1 r1 hq q
where
  pi_list_tail {pins : List (Addr × Obj)} {s1 : Shared} {σ : L2.St} {H1 : Hp} {a : Addr} {xs : List V} {v : Value} {R0 : It → Hp → Prop} (I1 : Inv X pins σ H1 s1) (r1 : RelV (.ref a) v) (hq : SqL X.K H1 a xs) (q : R0 (Itl X.K a) H1) :
      wpAny (model X.prog X.w) X.A (pyIter v) (PIE X pins σ tg R0) X.xe s1 := by
    cases r1
    obtain ⟨its, rv, p, hz⟩ := I1.list hq
    refine wpAny_pyIter_list p.isList ?_
    refine ⟨s1.heap.objs.size, [s1.heap.objs.size], _, _, H1, rfl, I1.kept (t' := s1.toks) fun b o e => Heap.get?_push_of_some _ e, turn_list a _, ⟨_, Heap.get?_push_size _ rfl, rfl, rfl⟩, fun b hb => ?_, q⟩
    have e : b = s1.heap.objs.size := by simpa using hb
    subst e
    exact I1.fpOk (Nat.le_refl _) (I1.hok.fresh (Nat.le_refl _))
  pi_tup_tail {pins : List (Addr × Obj)} {s1 : Shared} {σ : L2.St} {H1 : Hp} {a : Addr} {xs : List V} {v : Value} {R0 : It → Hp → Prop} (I1 : Inv X pins σ H1 s1) (r1 : RelV (.ref a) v) (hq : SqT X.K H1 a xs) (q : R0 (Itt X.K a) H1) :
      wpAny (model X.prog X.w) X.A (pyIter v) (PIE X pins σ tg R0) X.xe s1 := by
    cases r1
    obtain ⟨its, rv, p, hz⟩ := I1.tuple hq
    refine wpAny_pyIter_tuple (show s1.heap.IsTuple a its.toArray from p) ?_
    refine ⟨s1.heap.objs.size, [s1.heap.objs.size], _, _, H1, rfl, I1.kept (t' := s1.toks) fun b o e => Heap.get?_push_of_some _ e, turn_tuple a _, ⟨_, Heap.get?_push_size _ rfl, rfl, rfl⟩, fun b hb => ?_, q⟩
    have e : b = s1.heap.objs.size := by simpa using hb
    subst e
    exact I1.fpOk (Nat.le_refl _) (I1.hok.fresh (Nat.le_refl _))
theorem pdi_seq (h : PD X M iter fa) : PDI X M tg iter (fiSeq fa) := by
  refine ⟨PI.wk (pi_seq h.pe) fun σ H Q ⟨P, F, L, ρ, r, k⟩ => ?_, fiSeq_mono h.mono⟩
  refine ⟨P, F, L, ρ, r, h.mono _ _ _ (fun d ρ1 ⟨ds, h1, q⟩ v L1 H1 e1 r1 d1 => ?_) k⟩
  cases d with
  | list xs =>
    cases h1
    cases d1 with
    | lst g1 g2 => exact ⟨_, rfl, .inl ⟨⟨_, sql_le g1⟩, q _ L1 H1 e1 r1 (walks_l g1 g2)⟩⟩
  | tuple xs =>
    cases h1
    cases d1 with
    | tup g1 g2 => exact ⟨_, rfl, .inr ⟨⟨_, sqt_le g1⟩, q _ L1 H1 e1 r1 (walks_t g1 g2)⟩⟩
  | none => cases h1
  | bool _ => cases h1
  | int _ => cases h1
  | str _ => cases h1
  | dict _ => cases h1
/-- range(n), range(a, b) -/
def rangeD (lo hi : Int) : List D := (List.range (hi - lo).toNat).map fun (i : Nat) => PyData.int (lo + i)
def fiRange1 (fl : FL) : FI := fun ρ k => fl ρ fun ds ρ1 => ∃ j, ds = [.int j] ∧ -(2 ^ 62) ≤ j ∧ j < 2 ^ 62 ∧ k (rangeD 0 j) ρ1
def fiRange2 (fl : FL) : FI := fun ρ k => fl ρ fun ds ρ1 => ∃ i j, ds = [.int i, .int j] ∧ (-(2 ^ 62) ≤ i ∧ i < 2 ^ 62 ∧ -(2 ^ 62) ≤ j ∧ j < 2 ^ 62) ∧ k (rangeD i j) ρ1
theorem rangeD_length (lo hi : Int) : (rangeD lo hi).length = (hi - lo).toNat := by
  unfold rangeD
  rw [List.length_map, List.length_range]
theorem rangeD_get {lo hi : Int} {i : Nat} {d : D} (h : (rangeD lo hi)[i]? = some d) : i < (hi - lo).toNat ∧ d = .int (lo + i) := by
  have hl : i < (hi - lo).toNat := by
    have := (List.getElem?_eq_some_iff.mp h).1
    rwa [rangeD_length] at this
  refine ⟨hl, ?_⟩
  unfold rangeD at h
  rw [List.getElem?_map, List.getElem?_range hl] at h
  cases h
  rfl
theorem walks_r {K : Fr0} {lo hi : Int} {L : List Addr} {H : Hp} : Walks K (Itr lo (hi - lo).toNat) L H (rangeD lo hi) := by
  intro L2 H2 e tr i
  refine ⟨fun d hi => ?_, fun hl => by rw [rangeD_length] at hl; exact hl⟩
  obtain ⟨h1, h2⟩ := rangeD_get hi
  subst h2
  refine ⟨h1, fun x H3 ⟨e3, y⟩ => ?_⟩
  subst e3 y
  exact ⟨Ex.refl _, .int _⟩
theorem pdi_range1 {p : Pos} (hg : Gl X "range") (hm : X.mg "range" = none) (ha : PDL X M [a] fl) (hs : starEach [a] X.env = [(false, eval a X.env)] := by rfl) : PDI X M tg (.Call (.Name "range" p) [a] [] pos) (fiRange1 fl) := by
  refine ⟨PI.wk (pi_range1 hg hm ha.pa hs) fun σ H Q ⟨P, F, L, ρ, r, k⟩ => ?_, fun ρ k k' h q => ha.mono _ _ _ (fun ds ρ1 ⟨j, h1, h2, h3, q⟩ => ⟨j, h1, h2, h3, h _ _ q⟩) q⟩
  refine ⟨P, F, L, ρ, r, ha.mono _ _ _ (fun ds ρ1 ⟨j, h1, h2, h3, q⟩ vs L1 H1 e1 r1 d1 => ?_) k⟩
  subst h1
  cases d1 with
  | cons g1 g2 =>
    cases g2
    refine ⟨j, by rw [rp_int g1], h2, h3, ?_⟩
    have := q (Itr 0 (j - 0).toNat) L1 H1 e1 r1 walks_r
    simpa using this
/-- zip(a, b): two lists, or two tuples -/
def zipD : D → D → Option (List D)
  | .list xs, .list ys => some (List.zipWith (fun x y => PyData.tuple [x, y]) xs ys)
  | .tuple xs, .tuple ys => some (List.zipWith (fun x y => PyData.tuple [x, y]) xs ys)
  | _, _ => none
def fiZip (fl : FL) : FI := fun ρ k => fl ρ fun ds ρ1 => ∃ x y zs, ds = [x, y] ∧ zipD x y = some zs ∧ k zs ρ1
theorem zip_get {xs ys : List D} {i : Nat} {d : D} (h : (List.zipWith (fun x y => PyData.tuple [x, y]) xs ys)[i]? = some d) : ∃ x y, xs[i]? = some x ∧ ys[i]? = some y ∧ d = .tuple [x, y] := by
  rw [List.getElem?_zipWith] at h
  cases e1 : xs[i]? with
  | none => rw [e1] at h; cases h
  | some x =>
    cases e2 : ys[i]? with
    | none => rw [e1, e2] at h; cases h
    | some y =>
      rw [e1, e2] at h
      cases h
      exact ⟨x, y, rfl, rfl, rfl⟩
theorem pair_new {K : Fr0} {L : List Addr} {H : Hp} {T : Addr} {u v : V} {x y : D} (tr : ∀ a ∈ L, ∃ o, H a = some o) (hT : H T = none) (h1 : Rp K (hide L H) u x) (h2 : Rp K (hide L H) v y) : Rp K (hide L (upd H T (.tup [u, v]))) (.ref T) (.tuple [x, y]) :=
  new_tup tr hT (.cons h1 (.cons h2 .nil))
theorem walks_z {K : Fr0} {a b : Addr} {us vs : List V} {L : List Addr} {H : Hp} {xs ys : List D} (h : SqL K.f (hide L H) a us) (hd : RpAll K (hide L H) us xs) (h' : SqL K.f (hide L H) b vs) (hd' : RpAll K (hide L H) vs ys) :
    Walks K (Itz K.f a b) L H (List.zipWith (fun x y => PyData.tuple [x, y]) xs ys) := by
  intro L2 H2 e tr i
  have g1 : SqL K.f H2 a us := sql_le (Evl.ex_l e h)
  have g2 : SqL K.f H2 b vs := sql_le (Evl.ex_l e h')
  have d1 := dpa_ex e _ _ hd
  have d2 := dpa_ex e _ _ hd'
  refine ⟨fun d hi => ?_, fun hl => ⟨us, vs, g1, g2, ?_⟩⟩
  · obtain ⟨x, y, hx, hy, rfl⟩ := zip_get hi
    obtain ⟨u, hu, du⟩ := dpa_get' d1 hx
    obtain ⟨v, hv, dv⟩ := dpa_get' d2 hy
    refine ⟨⟨us, vs, u, v, g1, g2, hu, hv⟩, fun z H3 ⟨T, u', v', e1, hT, e3, q1, q2⟩ => ?_⟩
    have e4 := q1 us g1
    have e5 := q2 vs g2
    rw [hu] at e4
    rw [hv] at e5
    cases e4
    cases e5
    subst e1 e3
    exact ⟨Ex.new hT, pair_new tr hT du dv⟩
  · rw [List.length_zipWith, ← dpa_len hd, ← dpa_len hd'] at hl
    omega
theorem walks_zt {K : Fr0} {a b : Addr} {us vs : List V} {L : List Addr} {H : Hp} {xs ys : List D} (h : SqT K.f (hide L H) a us) (hd : RpAll K (hide L H) us xs) (h' : SqT K.f (hide L H) b vs) (hd' : RpAll K (hide L H) vs ys) :
    Walks K (RZ.ItzT K.f a b) L H (List.zipWith (fun x y => PyData.tuple [x, y]) xs ys) := by
  intro L2 H2 e tr i
  have g1 : SqT K.f H2 a us := sqt_le (Evl.ex_t e h)
  have g2 : SqT K.f H2 b vs := sqt_le (Evl.ex_t e h')
  have d1 := dpa_ex e _ _ hd
  have d2 := dpa_ex e _ _ hd'
  refine ⟨fun d hi => ?_, fun hl => ⟨us, vs, g1, g2, ?_⟩⟩
  · obtain ⟨x, y, hx, hy, rfl⟩ := zip_get hi
    obtain ⟨u, hu, du⟩ := dpa_get' d1 hx
    obtain ⟨v, hv, dv⟩ := dpa_get' d2 hy
    refine ⟨⟨us, vs, u, v, g1, g2, hu, hv⟩, fun z H3 ⟨T, u', v', e1, hT, e3, q1, q2⟩ => ?_⟩
    have e4 := q1 us g1
    have e5 := q2 vs g2
    rw [hu] at e4
    rw [hv] at e5
    cases e4
    cases e5
    subst e1 e3
    exact ⟨Ex.new hT, pair_new tr hT du dv⟩
  · rw [List.length_zipWith, ← dpa_len hd, ← dpa_len hd'] at hl
    omega
theorem pdi_zip {kk : Nat} {p tpos : Pos} {elts : List Expr} (hg : Gl X "zip") (hm : X.mg "zip" = none) (ha : PDL X M [a, b] fl) (hs : starEach [a, b] X.env = (false, eval a X.env) :: starEach [b] X.env := by rfl) (hpl : (backTo pos (starEach [b] X.env)).any (·.1) = false := by rfl) :
    PDI X M (.Tuple elts kk tpos) (.Call (.Name "zip" p) [a, b] [] pos) (fiZip fl) := by
  refine ⟨PI.wk (RZ.pi_zipA hg hm ha.pa hs hpl) fun σ H Q ⟨P, F, L, ρ, r, k⟩ => ?_, fun ρ k k' h q => ha.mono _ _ _ (fun ds ρ1 ⟨x, y, zs, h1, h2, q⟩ => ⟨x, y, zs, h1, h2, h _ _ q⟩) q⟩
  refine ⟨P, F, L, ρ, r, ha.mono _ _ _ (fun ds ρ1 ⟨x, y, zs, h1, h2, q⟩ vs L1 H1 e1 r1 d1 => ?_) k⟩
  subst h1
  cases d1 with
  | cons g1 g2 =>
    cases g2 with
    | cons g3 g4 =>
      cases g4
      unfold zipD at h2
      split at h2
      · cases h2
        cases g1 with
        | lst a1 a2 =>
          cases g3 with
          | lst b1 b2 => exact ⟨_, _, _, _, rfl, .inl ⟨sql_le a1, sql_le b1, q _ L1 H1 e1 r1 (walks_z a1 a2 b1 b2)⟩⟩
      · cases h2
        cases g1 with
        | tup a1 a2 =>
          cases g3 with
          | tup b1 b2 => exact ⟨_, _, _, _, rfl, .inr ⟨sqt_le a1, sqt_le b1, q _ L1 H1 e1 r1 (walks_zt a1 a2 b1 b2)⟩⟩
      · cases h2
theorem enum_get {xs : List D} {i : Nat} {d : D} (h : (xs.zipIdx.map fun p => PyData.tuple [.int (p.2 : Nat), p.1])[i]? = some d) : ∃ x, xs[i]? = some x ∧ d = .tuple [.int (i : Nat), x] := by
  rw [List.getElem?_map, List.getElem?_zipIdx] at h
  cases e1 : xs[i]? with
  | none => rw [e1] at h; cases h
  | some x =>
    rw [e1] at h
    cases h
    exact ⟨x, rfl, by simp⟩
theorem walks_e {K : Fr0} {a : Addr} {us : List V} {L : List Addr} {H : Hp} {xs : List D} (h : SqL K.f (hide L H) a us) (hd : RpAll K (hide L H) us xs) : Walks K (Ite K.f a) L H (xs.zipIdx.map fun p => PyData.tuple [.int (p.2 : Nat), p.1]) := by
  intro L2 H2 e tr i
  have g1 : SqL K.f H2 a us := sql_le (Evl.ex_l e h)
  have d1 := dpa_ex e _ _ hd
  refine ⟨fun d hi => ?_, fun hl => ⟨us, g1, ?_⟩⟩
  · obtain ⟨x, hx, rfl⟩ := enum_get hi
    obtain ⟨u, hu, du⟩ := dpa_get' d1 hx
    refine ⟨⟨us, u, g1, hu⟩, fun z H3 ⟨T, u', e1, hT, e3, q1⟩ => ?_⟩
    have e4 := q1 us g1
    rw [hu] at e4
    cases e4
    subst e1 e3
    exact ⟨Ex.new hT, pair_new tr hT (.int _) du⟩
  · rw [List.length_map, List.length_zipIdx, ← dpa_len hd] at hl
    exact hl
end
end PD
namespace PD
open PySem L2
open Evl (Ex)
section
variable {X : Cx} {M : Mk0} {a b c e o tg iter elt : Expr} {es rest ifs : List Expr} {fa fb fc fe : FE} {fl : FL} {ft fu : FT} {fn : FN} {fs fs' : FS} {fi : FI} {g : FG} {st : Stmt} {sts body : List Stmt} {pos : Pos}
theorem compD_mono (mg : ∀ d ρ k k', (∀ ρ', k ρ' → k' ρ') → g d ρ k → g d ρ k') (mt : ∀ ρ k k', (∀ d ρ', k d ρ' → k' d ρ') → ft ρ k → ft ρ k') (me : ∀ ρ k k', (∀ d ρ', k d ρ' → k' d ρ') → fe ρ k → fe ρ k') {vs : List Nat} :
    ∀ (ds acc : List D) (ρ : Rho) (k k' : List D → Rho → Prop), (∀ d ρ', k d ρ' → k' d ρ') → compD g ft fe vs ds acc ρ k → compD g ft fe vs ds acc ρ k'
  | [], acc, ρ, k, k', h, q => h _ _ q
  | d :: ds, acc, ρ, k, k', h, q => mg _ _ _ _ (fun ρ1 q => mt _ _ _ (fun t ρ2 q => by
    cases t with
    | true => exact me _ _ _ (fun y ρ3 q => compD_mono mg mt me ds _ _ _ _ h q) q
    | false => exact compD_mono mg mt me ds _ _ _ _ h q) q) q
/-- all lists of one's own aside meanwhile; at most so many items -/
def fnComp (fi : FI) (g : FG) (ft : FT) (fe : FE) (vs : List Nat) : FN := fun ρ k => fi ρ fun ds ρ1 => ds.length ≤ 1000000 ∧ compD g ft fe vs ds [] ⟨ρ1.sl.map dropOwn, ρ1.n⟩ fun out ρ2 => k out ⟨ρ1.sl, ρ2.n⟩
theorem fnComp_mono {vs : List Nat} (mi : ∀ ρ k k', (∀ d ρ', k d ρ' → k' d ρ') → fi ρ k → fi ρ k') (mg : ∀ d ρ k k', (∀ ρ', k ρ' → k' ρ') → g d ρ k → g d ρ k') (mt : ∀ ρ k k', (∀ d ρ', k d ρ' → k' d ρ') → ft ρ k → ft ρ k') (me : ∀ ρ k k', (∀ d ρ', k d ρ' → k' d ρ') → fe ρ k → fe ρ k')
    (ρ : Rho) (k k' : List D → Rho → Prop) (h : ∀ d ρ', k d ρ' → k' d ρ') (q : fnComp fi g ft fe vs ρ k) : fnComp fi g ft fe vs ρ k' :=
  mi _ _ _ (fun ds ρ1 q => ⟨q.1, compD_mono mg mt me ds _ _ _ _ (fun out ρ2 q => h _ _ q) q.2⟩) q
theorem dComp {vs : List Nat} (mi : ∀ ρ k k', (∀ d ρ', k d ρ' → k' d ρ') → fi ρ k → fi ρ k') (mg : ∀ d ρ k k', (∀ ρ', k ρ' → k' ρ') → g d ρ k → g d ρ k') (mt : ∀ ρ k k', (∀ d ρ', k d ρ' → k' d ρ') → ft ρ k → ft ρ k') (me : ∀ ρ k k', (∀ d ρ', k d ρ' → k' d ρ') → fe ρ k → fe ρ k')
    (hgv : ∀ ρ d k, g d ρ k → True) (σ : L2.St) (H : Hp) (Q : VK) (h : DNw X.k0 M (fnComp fi g ft fe vs) σ H Q) : tLc (DI X.k0 M fi) (DGt X.k0 M vs g) (DT X.k0 M ft) (DE X.k0 M fe) vs σ H Q := by
  obtain ⟨P, F, L, ρ, r, k⟩ := h
  refine ⟨P, F, L, ρ, r, mi _ _ _ (fun ds ρ1 q J L1 H1 e1 r1 w => ?_) k⟩
  obtain ⟨hsz, q⟩ := q
  intro A hA
  -- the new list is held; the def's own lists are aside
  have r2 := r1.aside
  have r3 := r2.pinNew (o := HO.lst []) hA
  have e3 : Ex (hide L1 H1) (hide (A :: L1) (upd H1 A (.lst []))) := (new_pin (vs := []) (ds := []) r2 .nil hA).1
  refine ⟨fun i m H' => m = ds.length - i ∧ i ≤ ds.length ∧ ∃ L' n' acc us, Ex (hide L1 H1) (hide L' H') ∧ R X.k0 M P (upd (keepF ρ1 σ F H1) A (.lst us)) L' ⟨ρ1.sl.map dropOwn, n'⟩ σ H' ∧ RpAll X.k0 (hide L' H') us acc ∧ acc.length ≤ i ∧
      compD g ft fe vs (ds.drop i) acc ⟨ρ1.sl.map dropOwn, n'⟩ (fun out ρ2 => ∀ p vs L' H', Ex (hide L H) (hide L' H') → F p = none → R X.k0 M P (upd F p (.lst vs)) L' ⟨ρ1.sl, ρ2.n⟩ σ H' → RpAll X.k0 (hide L' H') vs out → Q (.ref p) H'),
    ⟨ds.length, by simp, Nat.zero_le _, A :: L1, ρ1.n, [], [], e3, r3, .nil, Nat.le_refl _, by simpa using q⟩, ?_⟩
  rintro i m H' ⟨rfl, hi, L', n', acc, us, e', r', d', ha, q'⟩
  have ww := w L' H' e' r'.tr i
  by_cases hlt : i < ds.length
  · have hd : ds[i]? = some ds[i] := List.getElem?_eq_getElem hlt
    obtain ⟨go, yl⟩ := ww.1 _ hd
    rw [List.drop_eq_getElem_cons hlt] at q'
    refine .inr ⟨go, fun H2 => ∃ L2 n2 acc2 us2, Ex (hide L1 H1) (hide L2 H2) ∧ R X.k0 M P (upd (keepF ρ1 σ F H1) A (.lst us2)) L2 ⟨ρ1.sl.map dropOwn, n2⟩ σ H2 ∧ RpAll X.k0 (hide L2 H2) us2 acc2 ∧ acc2.length ≤ i + 1 ∧
      compD g ft fe vs (ds.drop (i + 1)) acc2 ⟨ρ1.sl.map dropOwn, n2⟩ (fun out ρ2 => ∀ p vs L' H', Ex (hide L H) (hide L' H') → F p = none → R X.k0 M P (upd F p (.lst vs)) L' ⟨ρ1.sl, ρ2.n⟩ σ H' → RpAll X.k0 (hide L' H') vs out → Q (.ref p) H'),
      fun H2 ⟨L2, n2, acc2, us2, e2, r2', d2, a2, q2⟩ => ⟨ds.length - (i + 1), by omega, rfl, hlt, L2, n2, acc2, us2, e2, r2', d2, a2, q2⟩, fun x H2 y => ?_⟩
    obtain ⟨e2, d2⟩ := yl x H2 y
    have r4 := (r'.ex e2).wipe vs
    refine ⟨P, _, L', _, ds[i], r4, d2, mg _ _ _ _ (fun ρ5 q5 σ5 L5 H5 e5 r5 o5 => ?_) q'⟩
    refine ⟨by rw [wipe_only o5]; exact wipe_only (wipe_self vs σ), ?_⟩
    have e15 : Ex (hide L1 H1) (hide L5 H5) := (e'.trans (hide_ex e2)).trans e5
    have e'5 : Ex (hide L' H') (hide L5 H5) := (hide_ex e2).trans e5
    -- the state behind a part of the block, back in the comprehension's frame
    have back : ∀ {ρx σx Lx Hx}, Ex (hide L5 H5) (hide Lx Hx) → R X.k0 M P (upd (keepF ρ1 σ F H1) A (.lst us)) Lx ρx σx Hx → R X.k0 M P (upd (keepF ρ1 σ F H1) A (.lst us)) Lx ⟨ρ1.sl.map dropOwn, ρx.n⟩ σ Hx := fun {ρx σx Lx Hx} ex rx => by
      have e6 := (e'5.trans ex)
      refine ⟨r'.len, fun j s u h1 h2 => ?_, rx.fr, rx.tr, fun a b xs ys l _ h => absurd h (bare_drop ρ1.sl n' a xs), fun j xs l h => absurd h (bare_drop ρ1.sl n' j xs), fun p hp => ?_, rx.tb⟩
      · have q := r'.sl j s u h1 h2
        cases s with
        | no => trivial
        | d z =>
          obtain ⟨v, g3, g4⟩ := q
          exact ⟨v, g3, dp_ex e6 _ _ g4⟩
        | own xs => exact absurd h1 (bare_drop ρ1.sl n' j xs)
        | st => exact q
        | raw v => exact q
        | exc a d fl => exact ⟨q.1, q.2.up e6⟩
      · obtain ⟨B, b1, b2, b3⟩ := rx.m p hp
        exact ⟨B, b1, b2, fun j xs l h => absurd h (bare_drop ρ1.sl n' j xs)⟩
    refine ⟨P, _, L5, ρ5, r5, mt _ _ _ (fun t ρ6 q6 L6 H6 e6 r6 => ?_) q5⟩
    cases t with
    | true =>
      refine ⟨P, _, L6, ρ6, r6, me _ _ _ (fun z ρ7 q7 v L7 H7 e7 r7 d7 => ?_) q6⟩
      have pin := r7.pinned
      have d8 : RpAll X.k0 (hide L7 H7) us acc := dpa_ex (e'5.trans (e6.trans e7)) _ _ d'
      refine ⟨us, pin.1, by rw [dpa_len d8, sizeLine_eq]; omega, L7, ρ7.n, acc ++ [z], us ++ [v], ?_, ?_, ?_, by rw [List.length_append, List.length_singleton]; omega, q7⟩
      · rw [hide_repin pin.2]
        exact (e15.trans e6).trans e7
      · exact (back (e6.trans e7) r7).repin
      · rw [hide_repin pin.2]
        exact dpa_app d8 (.cons d7 .nil)
    | false =>
      exact ⟨L6, ρ6.n, acc, us, e15.trans e6, back e6 r6, dpa_ex (e'5.trans e6) _ _ d', by omega, q6⟩
  · have e : ds.length ≤ i := by omega
    rw [List.drop_eq_nil_of_le e] at q'
    refine .inl ⟨ww.2 e, ?_⟩
    -- give it out
    have hFA : F A = none := by
      cases z : F A with
      | none => rfl
      | some o =>
        have := (r1.fr A o z).1
        rw [hA] at this
        cases this
    have hno : ¬ Own ρ1 σ A := fun ⟨j, xs, h1, h2⟩ => by
      obtain ⟨l, vs', g1, g2, g3, _⟩ := r1.getOwn h1
      rw [h2] at g1
      cases g1
      rw [hA] at g3
      cases g3
    have kF : upd (keepF ρ1 σ F H1) A (.lst us) = keepF ρ1 σ (upd F A (.lst us)) H1 := by
      funext z
      by_cases hz : z = A
      · subst hz
        rw [upd_same, keepF_not hno, upd_same]
      · rw [upd_ne hz]
        by_cases ho : Own ρ1 σ z
        · rw [keepF_own ho, keepF_own ho]
        · rw [keepF_not ho, keepF_not ho, upd_ne hz]
    refine q' A us L' H' (e1.trans e') hFA ?_ d'
    -- R.back with A held
    refine ⟨r1.len, fun j s u h1 h2 => ?_, fun z u h => ?_, r'.tr, r1.apart, fun j xs l h1 h2 => ?_, fun p hp => ?_, r'.tb.move (Ex.refl _) fun P' ps k1 k2 k3 => ⟨?_, k2, k3⟩⟩
    · have q := r1.sl j s u h1 h2
      cases s with
      | no => trivial
      | d x =>
        obtain ⟨v, g3, g4⟩ := q
        exact ⟨v, g3, dp_ex e' _ _ g4⟩
      | own xs =>
        obtain ⟨l, vs', g3, g4, g5, g6⟩ := q
        have ho : Own ρ1 σ l := ⟨j, xs, h1, by rw [h2, g3]⟩
        have hf := r'.fr l vs' (by rw [kF, keepF_own ho]; exact g5)
        exact ⟨l, vs', g3, hf.2, hf.1, g6.up e'⟩
      | st => exact q
      | raw v => exact q
      | exc a d fl => exact ⟨q.1, q.2.up e'⟩
    · by_cases hz : z = A
      · subst hz
        rw [upd_same] at h
        cases h
        exact r'.pinned
      · rw [upd_ne hz] at h
        have hno2 : ¬ Own ρ1 σ z := fun ⟨j, xs, h1, h2⟩ => by
          have := r1.ownF j xs z h1 h2
          rw [h] at this
          cases this
        exact r'.fr z u (by rw [upd_ne hz, keepF_not hno2]; exact h)
    · have : l ≠ A := fun z => hno ⟨j, xs, h1, by rw [h2, z]⟩
      rw [upd_ne this]
      exact r1.ownF j xs l h1 h2
    · obtain ⟨B, b1, b2, _⟩ := r'.m p hp
      have hB : ∀ z ∈ B, ¬ Own ρ1 σ z := fun z hz ho => by
        have q := (b2 z hz).2
        rw [kF, keepF_own ho] at q
        obtain ⟨j, xs, h1, h2⟩ := ho
        obtain ⟨l, vs', g6, _, g8, _⟩ := r1.getOwn h1
        rw [h2] at g6
        cases g6
        rw [g8] at q
        cases q
      refine ⟨B, b1, fun z hz => ⟨(b2 z hz).1, ?_⟩, fun j xs l h1 h2 hl => hB l hl ⟨j, xs, h1, h2⟩⟩
      have q := (b2 z hz).2
      rw [kF, keepF_not (hB z hz)] at q
      exact q
    · have hz : P' ≠ A := fun z => by rw [z, upd_same] at k1; cases k1
      rw [upd_ne hz] at k1 ⊢
      cases z : F P' with
      | none => rfl
      | some o =>
        have hno2 : ¬ Own ρ1 σ P' := fun ⟨j, xs, h1, h2⟩ => by
          have := r1.ownF j xs P' h1 h2
          rw [z] at this
          cases this
        rw [keepF_not hno2, z] at k1
        cases k1
/-- the block of a comprehension -/
abbrev Blk (X : Cx) (scope : Scope) (s : Shared) (H : Hp) (C : Addr) (cl : List (Str × Addr)) (fp : List Addr) : Cx := X.blk s H scope (compEnvC scope cl C X.env) fp
structure PTn (X : Cx) (M : Mk0) (ifs : List Expr) (f : FT) : Prop where
  pt : PTs X ifs (DT X.k0 M f)
  mono : ∀ ρ k k', (∀ d ρ', k d ρ' → k' d ρ') → f ρ k → f ρ k'
theorem ptn_nil : PTn X M [] ftYes := ⟨PTs.wk pts_nil fun σ H Q ⟨P, F, L, ρ, r, k⟩ => k L H (Ex.refl _) r, fun ρ k k' h q => h _ _ q⟩
theorem ptn_one (h : PDT X M c ft) : PTn X M [c] ft := ⟨pts_one h.pt, h.mono⟩
theorem pn_lc {scope : Scope} {own : List (Str × Nat)} {vs : List Nat} (hc : X.calm = true) (hN : X.N.Nodup) (hi : PDI X M tg iter fi) (ok : BlkOk X.N X.env.scope scope own) (hv : own.map (·.2) = vs)
    (hg : ∀ s H C cl fp, PG1 (Blk X scope s H C cl fp) M tg vs g) (ht : ∀ s H C cl fp, PTn (Blk X scope s H C cl fp) M ifs ft) (he : ∀ s H C cl fp, PD (Blk X scope s H C cl fp) M elt fe)
    (w0 : Shared) (hs : ∀ x, foldedSetIterable iter X.env x = pure x := by intro _; rfl) : PN X M (.ListComp elt [⟨tg, iter, ifs, 0⟩] scope pos) (fnComp fi g ft fe vs) := by
  subst hv
  have h0 := hg w0 (fun _ => none) 0 [] []
  have t0 := ht w0 (fun _ => none) 0 [] []
  have e0 := he w0 (fun _ => none) 0 [] []
  refine ⟨PE.wk (pe_lc (te := DE X.k0 M fe) (tt := DT X.k0 M ft) (g := DGt X.k0 M (own.map (·.2)) g) hc hN hi.pi ok (fun s H C cl fp => (hg s H C cl fp).pg) (fun s H C cl fp => (ht s H C cl fp).pt) (fun s H C cl fp => (he s H C cl fp).pe) hs) fun σ H Q h => ?_, fnComp_mono hi.mono h0.mono t0.mono e0.mono⟩
  exact dComp hi.mono h0.mono t0.mono e0.mono (fun _ _ _ _ => trivial) σ H Q h
/-- y = [..] on one line: as data -/
theorem pds_setLc {i : Nat} {y : Str} {py spos : Pos} {scope : Scope} {own : List (Str × Nat)} {vs : List Nat} (hc : X.calm = true) (hN : X.N.Nodup) (hy : X.N[i]? = some y) (hyl : X.env.scope.names.lookup y = some .local)
    (hsw : swapsWith (.ListComp elt [⟨tg, iter, ifs, 0⟩] scope pos) (some (.Name y py)) spos.line X.env = pure true) (hi : PDI X M tg iter fi) (ok : BlkOk X.N X.env.scope scope own) (hv : own.map (·.2) = vs)
    (hg : ∀ s H C cl fp, PG1 (Blk X scope s H C cl fp) M tg vs g) (ht : ∀ s H C cl fp, PTn (Blk X scope s H C cl fp) M ifs ft) (he : ∀ s H C cl fp, PD (Blk X scope s H C cl fp) M elt fe)
    (w0 : Shared) (hs : ∀ x, foldedSetIterable iter X.env x = pure x := by intro _; rfl) :
    PDS X M (.Assign [.Name y py] (.ListComp elt [⟨tg, iter, ifs, 0⟩] scope pos) spos) (fsAsg (fOfN (fnComp fi g ft fe vs)) (fgN i)) := by
  subst hv
  have h0 := hg w0 (fun _ => none) 0 [] []
  have t0 := ht w0 (fun _ => none) 0 [] []
  have e0 := he w0 (fun _ => none) 0 [] []
  have mN := fnComp_mono (vs := own.map (·.2)) hi.mono h0.mono t0.mono e0.mono
  refine ⟨PS.wk (ps_setLc (te := DE X.k0 M fe) (tt := DT X.k0 M ft) (g := DGt X.k0 M (own.map (·.2)) g) hc hN hy hyl hsw hi.pi ok (fun s H C cl fp => (hg s H C cl fp).pg) (fun s H C cl fp => (ht s H C cl fp).pt) (fun s H C cl fp => (he s H C cl fp).pe) hs) fun D' σ H h => ?_,
    fsAsg_mono (fun ρ k k' h q => mN _ _ _ (fun ds ρ1 q => h _ _ q) q) fun d ρ k k' h q => h _ q⟩
  obtain ⟨P, F, L, ρ, r, k⟩ := h
  refine dComp hi.mono h0.mono t0.mono e0.mono (fun _ _ _ _ => trivial) σ H _ ?_
  refine dOfN mN σ H _ ⟨P, F, L, ρ, r, mN _ _ _ (fun ds ρ1 q v L1 H1 e1 r1 d1 => ?_) k⟩
  exact q (σ.set i (some v)) L1 H1 e1 (r1.setD i (.d (.list ds)) (some v) ⟨v, rfl, d1⟩ fun xs z => nomatch z)
/-- .. as a list of the def's own -/
theorem pds_ownLc {i : Nat} {y : Str} {py spos : Pos} {scope : Scope} {own : List (Str × Nat)} {vs : List Nat} (hc : X.calm = true) (hN : X.N.Nodup) (hy : X.N[i]? = some y) (hyl : X.env.scope.names.lookup y = some .local)
    (hsw : swapsWith (.ListComp elt [⟨tg, iter, ifs, 0⟩] scope pos) (some (.Name y py)) spos.line X.env = pure true) (hi : PDI X M tg iter fi) (ok : BlkOk X.N X.env.scope scope own) (hv : own.map (·.2) = vs)
    (hg : ∀ s H C cl fp, PG1 (Blk X scope s H C cl fp) M tg vs g) (ht : ∀ s H C cl fp, PTn (Blk X scope s H C cl fp) M ifs ft) (he : ∀ s H C cl fp, PD (Blk X scope s H C cl fp) M elt fe)
    (w0 : Shared) (hs : ∀ x, foldedSetIterable iter X.env x = pure x := by intro _; rfl) :
    PDS X M (.Assign [.Name y py] (.ListComp elt [⟨tg, iter, ifs, 0⟩] scope pos) spos) (fsOwn i (fnComp fi g ft fe vs)) := by
  subst hv
  have h0 := hg w0 (fun _ => none) 0 [] []
  have t0 := ht w0 (fun _ => none) 0 [] []
  have e0 := he w0 (fun _ => none) 0 [] []
  have mN := fnComp_mono (vs := own.map (·.2)) hi.mono h0.mono t0.mono e0.mono
  refine ⟨PS.wk (ps_setLc (te := DE X.k0 M fe) (tt := DT X.k0 M ft) (g := DGt X.k0 M (own.map (·.2)) g) hc hN hy hyl hsw hi.pi ok (fun s H C cl fp => (hg s H C cl fp).pg) (fun s H C cl fp => (ht s H C cl fp).pt) (fun s H C cl fp => (he s H C cl fp).pe) hs) fun D' σ H h => ?_,
    fun ρ k k' h q => mN _ _ _ (fun ds ρ1 q => h.nx _ q) q⟩
  obtain ⟨P, F, L, ρ, r, k⟩ := h
  refine dComp hi.mono h0.mono t0.mono e0.mono (fun _ _ _ _ => trivial) σ H _ ?_
  refine ⟨P, F, L, ρ, r, mN _ _ _ (fun ds ρ1 q p vs L1 H1 e1 hF r1 d1 => ?_) k⟩
  exact q _ L1 H1 e1 (r1.toOwn hF d1 i)
def fsPar2 (i j : Nat) (fl : FL) : FS := fun ρ P => fl ρ fun ds ρ1 => ∃ x y, ds = [x, y] ∧ P.nx ((ρ1.set i (.d x)).set j (.d y))
def fsPar3 (i j l : Nat) (fl : FL) : FS := fun ρ P => fl ρ fun ds ρ1 => ∃ x y z, ds = [x, y, z] ∧ P.nx (((ρ1.set i (.d x)).set j (.d y)).set l (.d z))
end
end PD
namespace PD
open PySem L2 PyProof.Rows PySem.Spec
open Evl (Ex)
structure FnG (P : Program) (w : World) (K : PySem.W.Frag) (mg : Str → Option Value) (base : Heap) (CX : CXT) (k : Nat) (f : Addr) (fd : FuncData) (ps : List Str) (sp : Sp) : Prop where
  len : ∀ vs H Q E, sp vs H Q E → vs.length = ps.length
  go : ∀ (A : Around) (outer : List Env) (s : Shared) (H : Hp) (args : Args) (us : List Value) (vs : List V) (Q : VK) (E : XK), A.guards = some [] → Room k A → Env0 P w K mg base A outer s H → BindsTo s fd args (ps.zip us) → Vals vs us → sp vs H Q E →
    codeAny (model P w) A (.call (.ref f) args) (CR CX outer P w H s Q E) s
section
variable {P : Program} {w : World} {K : PySem.W.Frag} {mg : Str → Option Value} {base : Heap} {CX : CXT} {j k : Nat} {f : Addr} {fd : FuncData} {ps N : List Str} {sp sp' : Sp}
theorem FnG.mono (G : FnG P w K mg base CX j f fd ps sp) (h : j ≤ k) : FnG P w K mg base CX k f fd ps sp :=
  ⟨G.len, fun A outer s H args us vs Q E hg hr => G.go A outer s H args us vs Q E hg (hr.mono h)⟩
theorem FnG.imp (G : FnG P w K mg base CX k f fd ps sp) (h : ∀ vs H Q E, sp' vs H Q E → sp vs H Q E) : FnG P w K mg base CX k f fd ps sp' :=
  ⟨fun vs H Q E q => G.len vs H Q E (h _ _ _ _ q), fun A outer s H args us vs Q E hg hr he hb hv hs => G.go A outer s H args us vs Q E hg hr he hb hv (h _ _ _ _ hs)⟩
/-- a def of the text, by its body -/
theorem fnG_of {x qual : Str} {st : Stmt} (F : Fun K x qual st f fd) (S : FnScope N ps (defScope st)) (len : ∀ vs H Q E, sp vs H Q E → vs.length = ps.length)
    (body : ∀ (cdv : Value) (A : Around) (outer : List Env) (s : Shared) (H : Hp) (vs : List V) (Q : VK) (E : XK), A.guards = some [] → Room k (A.deeper (envOfC qual (defScope st) s.heap.objs.size f cdv)) → sp vs H Q E →
      ∃ t, PSs (cxOf CX P w K mg base N qual (defScope st) f cdv A outer s H E) (defBody st) t ∧ t { nx := fun _ H' => Q .non H', rt := Q } (start N vs) H) : FnG P w K mg base CX (k + 1) f fd ps sp := by
  obtain ⟨oc, od, kV, doc, pm, an, cdv, ct, osl, efd, lk, hcd⟩ := F.ex
  subst efd
  refine ⟨len, fun A outer s H args us vs Q E hgd hr e0 hbi hva hsp => ?_⟩
  have kin : K.In s.heap := e0.mod.kin.keeps fun b o e => (e0.bs b o e).1
  have nolim : s.heap.NoLimit := e0.mod.nolimit.keeps fun b o e => (e0.bs b o e).1
  have kinds : ∀ y ∈ ps.zip us, (defScope st).names.lookup y.1 = some .local ∨ ((defScope st).names.lookup y.1 = some .cell ∧ ((cellsFrom (s.heap.objs.size + 1) (defScope st).names []).lookup y.1).isSome = true) := by
    intro y hy
    obtain ⟨nm, vl⟩ := y
    rcases S.par nm (List.of_mem_zip hy).1 with loc | cel
    · exact .inl loc
    · exact .inr ⟨cel, PySem.W.cellsFrom_some _ _ _ (.inl cel)⟩
  refine codeAny_call_function hr.depth (kin _ _ lk) rfl S.co S.gen rfl (PySem.W.codeRec_of kin hcd) (hbi _ _ _ _ ?_)
  refine wpAny_newFunctionEnv_cells S.kind kinds fun env henv sA xA => ?_
  subst henv
  refine ⟨nolim.keeps xA.toInCall.keep, codeAny_func ?_⟩
  obtain ⟨t, ht, hq⟩ := body cdv A outer s H vs Q E hgd (hr.deeper _) hsp
  have IA : Inv (cxOf CX P w K mg base N qual (defScope st) f cdv A outer s H E) [] (start N vs) H sA := inv_start S hr.hd e0 (len _ _ _ _ hsp) hva xA
  refine wpAny_mono (ht.run [] sA (start N vs) H _ IA hq) (fun fl sB hs => ?_) fun e sB hs => hs
  cases fl with
  | next =>
    obtain ⟨σB, HB, JB, qB⟩ := hs
    exact ⟨V.non, HB, JB.os, JB.bare, JB.base, JB.hok, rfl, qB⟩
  | ret u =>
    obtain ⟨vB, σB, HB, JB, rB, qB⟩ := hs
    exact ⟨vB, HB, JB.os, JB.bare, JB.base, JB.hok, rB, qB⟩
  | brk =>
    obtain ⟨_, _, _, qB⟩ := hs
    exact qB.elim
  | cont =>
    obtain ⟨_, _, _, qB⟩ := hs
    exact qB.elim
end
section
variable {X : Cx} {CX : CXT} {k : Nat} {f : Addr} {fd : FuncData} {ps : List Str} {sp : Sp} {E : XK} {x : Str} {p pos : Pos} {e : Expr} {es : List Expr} {t : TA}
theorem run_fnG {pins : List (Addr × Obj)} {σ : L2.St} {H : Hp} {s : Shared} {Q : VK} {us : List Value} {vs : List V} (G : FnG X.prog X.w X.K X.mg X.base CX k f fd ps sp) (hgd : X.A.guards = some []) (hr : Room k X.A) (hb : Binds X.K fd ps []) (hx : Passes CX X E)
    (I : Inv X pins σ H s) (r : Vals vs us) (h : sp vs H Q E) : wpAny (model X.prog X.w) X.A (call (.ref f) us) (EP X pins σ Q) X.xe s := by
  have hl : (us ++ []).length = ps.length := by rw [List.append_nil, ← r.length]; exact G.len _ _ _ _ h
  have bi := hb s us I.kIn hl
  rw [List.append_nil] at bi
  refine wpAny_call (codeAny_mono (G.go X.A X.stack s H ⟨us, []⟩ us vs Q E hgd hr I.env0 bi r h) fun res sB hq => ?_)
  cases res with
  | error ex => exact hx pins σ H s ex sB I hq
  | ok fl =>
    cases fl with
    | ret u => exact I.after hq
    | next => exact hq.elim
    | brk => exact hq.elim
    | cont => exact hq.elim
def tCallG (sp : Sp) (E : XK) (t : TA) : TE := fun σ H Q => t σ H fun vs H1 => sp vs H1 Q E
theorem pe_callG (G : FnG X.prog X.w X.K X.mg X.base CX k f fd ps sp) (hgd : X.A.guards = some []) (hr : Room k X.A) (hg : Gl X x) (hm : X.mg x = some (.ref f)) (hk : PySem.W.keepIn X.K (.ref f) = true) (hb : Binds X.K fd ps []) (hx : Passes CX X E)
    (ha : PA X (e :: es) t) (hdb : (x == ("__debug__" : Str)) = false := by decide) (he : starEach (e :: es) X.env = (false, eval e X.env) :: starEach es X.env := by rfl) (hpl : (backTo pos (starEach es X.env)).any (·.1) = false := by rfl) :
    PE X (.Call (.Name x p) (e :: es) [] pos) (tCallG sp E t) := by
  constructor
  intro pins s σ H Q I hw
  refine wpAny_Call_Name_kw (ld_glob I hg hm ?_ hdb)
  exact PySem.W.callWith_K (h₀ := X.base) I.ok.mod.kin hk (thn (ha.run pos pins s σ H _ I hw) fun us sA ⟨vs, HA, IA, rA, qA⟩ => ⟨IA.kIn, run_fnG G hgd hr hb hx IA rA qA⟩) he hpl
end
/-- nothing is raised -/
theorem passF {X : Cx} : Passes (L2.CX X.prog X.w) X (fun _ _ _ => False) := fun _ _ _ _ _ _ _ ⟨_, _, _, _, _, _, _, _, _, _, _, _, z⟩ => z.elim
def spD (K : Fr0) (M : Mk0) (n : Nat) (W : FE) : Sp := fun vs H Q _ => ∃ P F L ρ, R K M P F L ρ (vs.map some) H ∧ Bare ρ ∧ ρ.sl.length = n ∧ W ρ (KV' K M P F L (vs.map some) H Q)
theorem spD_len {K : Fr0} {M : Mk0} {n : Nat} {W : FE} (vs : List V) (H : Hp) (Q : VK) (E : XK) (h : spD K M n W vs H Q E) : vs.length = n := by
  obtain ⟨P, F, L, ρ, r, _, hl, _⟩ := h
  have := r.len
  rw [List.length_map] at this
  omega
/-- only arguments are looked at when a def begins, only its value when it ends -/
def fBody (nN : Nat) (fs : FS) : FE := fun ρ k => fs ⟨ρ.sl ++ List.replicate (nN - ρ.sl.length) .no, ρ.n⟩ { nx := fun ρ' => k .none ⟨ρ.sl, ρ'.n⟩, rt := fun d ρ' => k d ⟨ρ.sl, ρ'.n⟩ }
section
variable {K : Fr0} {M : Mk0} {P : Option Addr} {F : Hp} {L L' : List Addr} {ρ ρ' : Rho} {σ σ' : L2.St} {H H' : Hp}
theorem R.start {vs : List V} (r : R K M P F L ρ (vs.map some) H) (hb : Bare ρ) (N : List Str) : R K M P F L ⟨ρ.sl ++ List.replicate (N.length - ρ.sl.length) .no, ρ.n⟩ (start N vs) H := by
  have hl : vs.length = ρ.sl.length := by simpa using r.len
  have bare : Bare ⟨ρ.sl ++ List.replicate (N.length - ρ.sl.length) .no, ρ.n⟩ := fun i xs h => by
    have h : (ρ.sl ++ List.replicate (N.length - ρ.sl.length) .no)[i]? = some (.own xs) := h
    by_cases hi : i < ρ.sl.length
    · rw [List.getElem?_append_left hi] at h
      exact hb i xs h
    · rw [List.getElem?_append_right (by omega), List.getElem?_replicate] at h
      split at h <;> cases h
  refine ⟨?_, fun i s o h1 h2 => ?_, r.fr, r.tr, fun a b xs ys l _ h => absurd h (bare a xs), fun i xs l h => absurd h (bare i xs), fun p hp => ?_, r.tb⟩
  · unfold L2.start
    simp [hl]
  · have h1 : (ρ.sl ++ List.replicate (N.length - ρ.sl.length) .no)[i]? = some s := h1
    unfold L2.start at h2
    by_cases hi : i < ρ.sl.length
    · rw [List.getElem?_append_left hi] at h1
      rw [List.getElem?_append_left (by simpa [hl] using hi)] at h2
      exact r.sl i s o h1 h2
    · rw [List.getElem?_append_right (by omega), List.getElem?_replicate] at h1
      split at h1
      · cases h1
        trivial
      · cases h1
  · obtain ⟨A, a1, a2, _⟩ := r.m p hp
    exact ⟨A, a1, a2, fun i xs l h => absurd h (bare i xs)⟩
/-- from a later state of another frame, with the same wishes -/
theorem R.swap (r : R K M P F L ρ σ H) (hb : Bare ρ) (r' : R K M P F L' ρ' σ' H') (e : Ex (hide L H) (hide L' H')) : R K M P F L' ⟨ρ.sl, ρ'.n⟩ σ H' := by
  refine ⟨r.len, fun i s o h1 h2 => ?_, r'.fr, r'.tr, fun a b xs ys l _ h => absurd h (hb a xs), fun i xs l h => absurd h (hb i xs), fun p hp => ?_, r'.tb⟩
  · have q := r.sl i s o h1 h2
    cases s with
    | no => trivial
    | d x =>
      obtain ⟨v, g1, g2⟩ := q
      exact ⟨v, g1, dp_ex e _ _ g2⟩
    | own xs => exact absurd h1 (hb i xs)
    | st => exact q
    | raw v => exact q
    | exc a d fl => exact ⟨q.1, q.2.up e⟩
  · obtain ⟨A, a1, a2, _⟩ := r'.m p hp
    exact ⟨A, a1, a2, fun i xs l h => absurd h (hb i xs)⟩
end
section
variable {P : Program} {w : World} {K : PySem.W.Frag} {mg : Str → Option Value} {base : Heap} {k : Nat} {f : Addr} {fd : FuncData} {ps N : List Str} {M : Mk0} {fs : FS}
theorem fnD {x qual : Str} {st : Stmt} (F : Fun K x qual st f fd) (S : FnScope N ps (defScope st))
    (body : ∀ (cdv : Value) (A : Around) (outer : List Env) (s : Shared) (H : Hp) (E : XK), A.guards = some [] → Room k (A.deeper (envOfC qual (defScope st) s.heap.objs.size f cdv)) →
      PDs (cxOf (L2.CX P w) P w K mg base N qual (defScope st) f cdv A outer s H E).nox M (defBody st) fs) : FnG P w K mg base (L2.CX P w) (k + 1) f fd ps (spD ⟨K, w, P⟩ M ps.length (fBody N.length fs)) := by
  refine fnG_of F S (fun vs H Q E h => spD_len vs H Q E h) fun cdv A outer s H vs Q E hg hr ⟨P', F', L, ρ, r, hb, hl, hw⟩ => ?_
  have B := body cdv A outer s H E hg hr
  refine ⟨_, B.ps.nox, P', F', L, _, r.start hb N, B.mono _ _ _ ⟨fun ρ' q σ' L' H' e' r' => ?_, fun d ρ' q v σ' L' H' e' r' d' => ?_, fun _ (q : False) => q.elim, fun _ (q : False) => q.elim⟩ hw⟩
  · exact q .non L' H' e' (r.swap hb r' e') .non
  · exact q v L' H' e' (r.swap hb r' e') d'
end
section
variable {X : Cx} {M : Mk0} {k : Nat} {f : Addr} {fd : FuncData} {ps : List Str} {n : Nat} {W : FE} {x : Str} {p pos : Pos} {e : Expr} {es : List Expr} {fa : FA} {fl : FL}
/-- arguments: all data -/
def faD (fl : FL) : FA := fun ρ k => fl ρ fun ds ρ1 => k (ds.map .d) ρ1
theorem slots_d {K : Fr0} {P : Option Addr} {L : List Addr} {H : Hp} : ∀ {vs : List V} {ds : List D}, RpAll K (hide L H) vs ds → ∀ (i : Nat) (s : Sl) (v : V), (ds.map Sl.d)[i]? = some s → vs[i]? = some v → SlOk K P L H s (some v) := by
  intro vs ds h i s v h1 h2
  rw [List.getElem?_map] at h1
  obtain ⟨d, h3, h4⟩ := dpa_get h h2
  rw [h3] at h1
  cases h1
  exact ⟨v, rfl, h4⟩
theorem map_d_bare (ds : List D) : ∀ (i : Nat) (xs : Ow), (ds.map Sl.d)[i]? ≠ some (.own xs) := fun i xs h => by
  rw [List.getElem?_map] at h
  cases e : ds[i]? with
  | none => rw [e] at h; cases h
  | some d => rw [e] at h; cases h
theorem pda_d (h : PDL X M es fl) : PDA X M es (faD fl) := by
  refine ⟨PA.wk h.pa fun σ H Q ⟨P, F, L, ρ, r, q⟩ => ?_, fun ρ k k' g q => h.mono _ _ _ (fun ds ρ1 q => g _ _ q) q⟩
  refine ⟨P, F, L, ρ, r, h.mono _ _ _ (fun ds ρ1 q vs L1 H1 e1 r1 d1 => ?_) q⟩
  exact q vs L1 H1 e1 r1 (by simp [dpa_len d1]) (slots_d d1) (map_d_bare ds)
/-- .. the first one the object of the draws -/
def faSt (i : Nat) (fl : FL) : FA := fun ρ k => ρ.sl[i]? = some .st ∧ fl ρ fun ds ρ1 => k (.st :: ds.map .d) ρ1
theorem pda_st {i : Nat} {y : Str} {py : Pos} (hv : PE X (.Name y py) (tVar i)) (h : PDL X M es fl) (hs : starEach (.Name y py :: es) X.env = (false, eval (.Name y py) X.env) :: starEach es X.env := by rfl) : PDA X M (.Name y py :: es) (faSt i fl) := by
  refine ⟨PA.wk (pa_cons hv h.pa hs) fun σ H Q ⟨P, F, L, ρ, r, h0, q⟩ => ?_, fun ρ k k' g q => ⟨q.1, h.mono _ _ _ (fun ds ρ1 q => g _ _ q) q.2⟩⟩
  obtain ⟨a, hP, hσ⟩ := r.getSt h0
  refine ⟨.ref a, hσ, P, F, L, ρ, r, h.mono _ _ _ (fun ds ρ1 q vs L1 H1 e1 r1 d1 => ?_) q⟩
  refine q (.ref a :: vs) L1 H1 e1 r1 (by simp [dpa_len d1]) (fun j s v g1 g2 => ?_) fun j xs g => ?_
  · cases j with
    | zero =>
      simp at g1 g2
      subst g1 g2
      exact ⟨a, hP, rfl⟩
    | succ j => exact slots_d d1 j s v (by simpa using g1) (by simpa using g2)
  · cases j with
    | zero => simp at g
    | succ j => exact map_d_bare ds j xs (by simpa using g)
/-- a call: what the def makes of its arguments -/
def fCall (n : Nat) (W : FE) (fa : FA) : FE := fun ρ k => fa ρ fun ss ρ1 => ss.length = n ∧ W ⟨ss, ρ1.n⟩ fun d ρ2 => k d ⟨ρ1.sl, ρ2.n⟩
theorem pd_call (mW : ∀ ρ k k', (∀ d ρ', k d ρ' → k' d ρ') → W ρ k → W ρ k') (G : FnG X.prog X.w X.K X.mg X.base (L2.CX X.prog X.w) k f fd ps (spD X.k0 M n W)) (hgd : X.A.guards = some []) (hr : Room k X.A) (hg : Gl X x) (hm : X.mg x = some (.ref f)) (hk : PySem.W.keepIn X.K (.ref f) = true) (hb : Binds X.K fd ps [])
    (ha : PDA X M (e :: es) fa) (hdb : (x == ("__debug__" : Str)) = false := by decide) (he : starEach (e :: es) X.env = (false, eval e X.env) :: starEach es X.env := by rfl) (hpl : (backTo pos (starEach es X.env)).any (·.1) = false := by rfl) :
    PD X M (.Call (.Name x p) (e :: es) [] pos) (fCall n W fa) := by
  refine ⟨PE.wk (pe_callG (E := E0) G hgd hr hg hm hk hb passF ha.pa hdb he hpl) fun σ H Q ⟨P, F, L, ρ, r, q⟩ => ?_, fun ρ k k' g q => ha.mono _ _ _ (fun ss ρ1 q => ⟨q.1, mW _ _ _ (fun d ρ2 q => g _ _ q) q.2⟩) q⟩
  refine ⟨P, F, L, ρ, r, ha.mono _ _ _ (fun ss ρ1 q vs L1 H1 e1 r1 hl hs hbare => ?_) q⟩
  have bare : Bare ⟨ss, ρ1.n⟩ := hbare
  have r2 : R X.k0 M P (keepF ρ1 σ F H1) L1 ⟨ss, ρ1.n⟩ (vs.map some) H1 := r1.frame bare rfl (by simpa using hl) fun i s o g1 g2 => by
    rw [List.getElem?_map] at g2
    cases ev : vs[i]? with
    | none => rw [ev] at g2; cases g2
    | some v =>
      rw [ev] at g2
      cases g2
      exact hs i s v g1 ev
  refine ⟨P, _, L1, _, r2, bare, q.1, mW _ _ _ (fun d ρ2 q2 v L2 H2 e2 r3 d2 => ?_) q.2⟩
  exact q2 v L2 H2 (e1.trans e2) (r1.back r3 e2) d2
end
end PD
namespace PD
open PySem L2 PyProof.Rows PySem.Spec
open Evl (Ex)
end PD
namespace PySem
open Sem (wp)
open AutoSeq1 (wpAny_loadPart')
/-- enumerate(t), t a tuple: as PyProof.EnumMake has it of a list -/
theorem pd_enum_newT (a : Addr) (items : Array Value) :
    Meets (Builtin.«enumerate.__new__» ⟨[.type "enumerate", .ref a], []⟩) (fun _ R s => s.heap.IsTuple a items ∧
      R (.ok (.ret (.ref (s.heap.push { cls := .type "tuple_iterator", data := .fields #[.ref a, .int 0 0] }).objs.size)))
        { s with heap := (s.heap.push { cls := .type "tuple_iterator", data := .fields #[.ref a, .int 0 0] }).push { cls := .type "enumerate", data := .fields #[.none, .bool false, .ref s.heap.objs.size, rawInt 0, .none, .none] } }) :=
  .of_wp fun prog w A R s h => by
    obtain ⟨hp, g, d, tk, os⟩ := s
    obtain ⟨hT, h⟩ := h
    have hsub := sub_enumerate
    have hT' : Heap.IsTuple (Shared.heap ⟨hp, g, d, tk, os⟩) a items := hT
    obtain ⟨⟨c, dct, dt, sl⟩, hl, hc, n, hd⟩ := hT
    replace hc : c = .type "tuple" := hc
    replace hd : dt = .seq items n := hd
    subst hc hd
    wp_walk using wpAny_loadPart' hl
    refine wpAny_stack_any fun st => wpAny_pure ?_
    split
    · rename_i c _ _ _ _ _
      cases (c == Value.type "enumerate")
      all_goals
        wp_walk using wpAny_loadPart' hl, wpAny_pyIter_tuple hT'
        exact ⟨_, rfl, h⟩
    · wp_walk using wpAny_loadPart' hl, wpAny_pyIter_tuple hT'
      exact ⟨_, rfl, h⟩
section
variable {prog : Program} {w : World} {A : Around} {E : Value → Shared → Prop} {s : Shared}
theorem pd_call_enumT {a : Addr} {items : Array Value} {Q : Value → Shared → Prop} (hT : s.heap.IsTuple a items)
    (h : ∀ h', IsEnum h' (s.heap.objs.size + 1) s.heap.objs.size 0 .none → h'.IsTupleIter s.heap.objs.size a 0 →
      (∀ b o, s.heap.get? b = some o → h'.get? b = some o) → Q (.ref (s.heap.objs.size + 1)) { s with heap := h' }) :
    wpAny (model prog w) A (call (.type "enumerate") [.ref a]) Q E s := by
  refine callType_new F.called_enumerate (by decide) (F.typeCall_enumerate_1 _) (F.newCall_enumerate_1 _) (fun obj => F.args_object_init_2 obj _) F.entry_enumerate_new (pd_enum_newT a items) ⟨hT, ?_⟩
  have hz : (s.heap.push { cls := .type "tuple_iterator", data := .fields #[.ref a, .int 0 0] }).objs.size = s.heap.objs.size + 1 := Heap.size_push ..
  have he := Heap.get?_push_size (s.heap.push { cls := .type "tuple_iterator", data := .fields #[.ref a, .int 0 0] }) (o := { cls := .type "enumerate", data := .fields #[.none, .bool false, .ref s.heap.objs.size, rawInt 0, .none, .none] }) rfl
  rw [hz] at he
  show _ ∧ _
  rw [hz]
  refine ⟨⟨_, he, rfl⟩, h _ he ⟨_, Heap.get?_push_of_some _ (Heap.get?_push_size _ rfl), rfl, rfl⟩ fun b o x => Heap.get?_push_of_some _ (Heap.get?_push_of_some _ x)⟩
end
end PySem
namespace PD
open PySem L2 PyProof.Rows PySem.Spec
open Evl (Ex)
/-- the tuple at a, each item in a new pair with its number -/
def IteT (K : PySem.W.Frag) (a : Addr) : It :=
  ⟨fun i H => ∃ (xs : List V) (x : V), SqT K H a xs ∧ xs[i]? = some x, fun i H v H' => ∃ T x, v = V.ref T ∧ H T = none ∧ H' = upd H T (.tup [.int (i : Nat), x]) ∧ ∀ xs, SqT K H a xs → xs[i]? = some x, fun i H => ∃ xs : List V, SqT K H a xs ∧ xs.length ≤ i⟩
theorem tup_inj {X : Cx} {pins : List (Addr × Obj)} {σ : L2.St} {H : Hp} {s : Shared} {a : Addr} {xs ys : List V} (I : Inv X pins σ H s) (h : SqT X.K H a xs) (h' : SqT X.K H a ys) : xs = ys := by
  obtain ⟨us, r, ⟨o, ho, _, n, hd⟩, _⟩ := I.tuple h
  obtain ⟨ws, r', ⟨o', ho', _, n', hd'⟩, _⟩ := I.tuple h'
  rw [ho] at ho'
  cases ho'
  rw [hd] at hd'
  injection hd' with d1 _
  have e : us = ws := by simpa using congrArg Array.toList d1
  subst e
  exact r.inj r'
theorem turn_enumT {P : Program} {w : World} {K : PySem.W.Frag} {elts : List Expr} {kk : Nat} {tpos : Pos} (a e it : Addr) (hae : a ≠ it) :
    Turn P w K (.Tuple elts kk tpos) (IteT K a) [e, it] e (fun i h => (∃ old, IsEnum h e it ((i : Nat) : Int) old) ∧ h.IsTupleIter it a i ∧ e ≠ it ∧ e ≠ a) where
  mem := List.mem_cons_self
  obj := fun i h st b hb => by
    obtain ⟨⟨old, he⟩, ⟨o, ho, hc, hd⟩, _, _⟩ := st
    rcases List.mem_cons.mp hb with z | z
    · rw [z]
      exact ⟨_, he, fun v q => nomatch q⟩
    · rw [List.mem_singleton.mp z]
      exact ⟨o, ho, fun v q => by rw [hd] at q; cases q⟩
  keep := fun i h h' st k => by
    obtain ⟨⟨old, he⟩, hi, hne, hea⟩ := st
    exact ⟨⟨old, k e List.mem_cons_self _ he⟩, hi.at fun o q => k it (List.mem_cons_of_mem _ (List.mem_singleton.mpr rfl)) o q, hne, hea⟩
  item := by
    intro X hP hw hK hc i pins s σ H E I hf st hg
    subst hP hw hK
    obtain ⟨⟨old, he⟩, hit, hne, hea⟩ := st
    obtain ⟨xs, x, hq, hx⟩ := hg
    obtain ⟨us, rv, tp, _⟩ := I.tuple hq
    obtain ⟨u, hu, ru⟩ := rv.get hx
    have el : e < s.heap.objs.size := Heap.lt_size he
    have il : it < s.heap.objs.size := by
      obtain ⟨_, q, _⟩ := id hit
      exact Heap.lt_size q
    have lt : i < us.toArray.size := by
      have := (List.getElem?_eq_some_iff.mp hu).1
      simpa using this
    have Dr := Draws.tuple (prog := X.prog) (w := X.w) (A := X.A.in1) (I.ok.hd hc) it a hae us.toArray
    refine wpAny_pyNext_enum_itemD Dr he ⟨hit, tp⟩ lt hne (by simp [hne, hea]) fun z h1 tk hz ho1 st1 hT1 _ hk1 => ?_
    have ez : z = u := by
      have : us.toArray[i]? = some z := hz
      rw [List.getElem?_toArray, hu] at this
      cases this
      rfl
    subst ez
    refine ⟨_, rfl, wpAny_letOwnedTupleGo_enum (s := { s with heap := h1, toks := tk + 1 }) ho1 fun h2 he2 sb => ?_⟩
    have hT2 : h2.get? s.heap.objs.size = some { cls := .type "tuple", data := .seq #[.int i tk, z] } := (sb.2 _ (Nat.ne_of_gt el)).trans hT1
    have made : ObjOk X.prog X.w (upd H s.heap.objs.size (.tup [.int (i : Nat), x])) h2 s.heap.objs.size (.tup [.int (i : Nat), x]) :=
      ⟨by show 2 ≤ sizeLine; decide, [.int i tk, z], .cons ⟨_, rfl⟩ (.cons ru .nil), ⟨_, hT2, rfl, _, rfl⟩⟩
    have I2 : Inv X pins σ (upd H s.heap.objs.size (.tup [.int (i : Nat), x])) { s with heap := h2, toks := tk + 1 } := by
      refine I.turnedNew (ch := [e, it]) (fun b ob hb q => ?_) hf (Nat.le_refl _) made
      have b1 : b ≠ e := fun y => hb (by simp [y])
      have b2 : b ≠ it := fun y => hb (by simp [y])
      exact (sb.2 b b1).trans (hk1 b ob b1 b2 q)
    refine ⟨.ref s.heap.objs.size, _, I2, rfl, ⟨_, x, rfl, I.hok.fresh (Nat.le_refl _), rfl, fun ys hy => by rw [tup_inj I hy hq]; exact hx⟩, ⟨⟨z, ?_⟩, st1.1.at fun o q => (sb.2 it (Ne.symm hne)).trans q, hne, hea⟩, fun b hb => ?_⟩
    · have e1 : ((i + 1 : Nat) : Int) = (i : Int) + 1 := by omega
      rw [e1]
      exact he2
    · have lb : b < s.heap.objs.size := by
        rcases List.mem_cons.mp hb with y | y
        · rw [y]; exact el
        · rw [List.mem_singleton.mp y]; exact il
      rw [upd_ne (Nat.ne_of_lt lb)]
      exact (hf b hb).1
  done := by
    intro X hP hw hK hc i pins s σ H E I hf st hg
    subst hP hw hK
    obtain ⟨⟨old, he⟩, hit, hne, hea⟩ := st
    obtain ⟨xs, hq, hx⟩ := hg
    obtain ⟨us, rv, tp, _⟩ := I.tuple hq
    obtain ⟨f0, f1, f2, f3, f4, f5⟩ := hf it (List.mem_cons_of_mem _ (List.mem_singleton.mpr rfl))
    have hl := rv.length
    have Dr := Draws.tuple (prog := X.prog) (w := X.w) (A := X.A.in1) (I.ok.hd hc) it a hae us.toArray
    -- past the end: at any number beyond it the iterator ends
    exact pd_enum_end (I.ok.hd hc) he hit tp (by simp; omega) fun h' eb => ⟨rfl, I.turned (t' := s.toks) (fun b o hb q => eb b o hb q) f0 f1 f3 f4 f5⟩
  self := fun A i s Q E st h => by
    obtain ⟨⟨_, he⟩, _⟩ := st
    exact wpAny_pyIter_enum he h
where
  pd_enum_end {prog : Program} {w : World} {A : Around} {E : Value → Shared → Prop} {s : Shared} {e it t : Addr} {c : Int} {i : Nat} {items : Array Value} {old : Value} {Q : Option Value → Shared → Prop} (hh : A.handled = none)
      (he : IsEnum s.heap e it c old) (hit : s.heap.IsTupleIter it t i) (ht : s.heap.IsTuple t items) (hx : items[i]? = none) (hQ : ∀ h', Heap.ExtBut it s.heap h' → Q none { s with heap := h' }) : wpAny (model prog w) A (pyNext (.ref e)) Q E s := by
    have hT : s.TypeIs (.ref e) "enumerate" := ⟨_, he, rfl⟩
    unfold pyNext
    refine wpAny_bind (wpAny_attempt (wpAny_callSpecial?_slot (name := Str.ofString "__next__") hT F.slot_enumerate_next (wpAny_call_entry F.slot_enumerate_next hT F.entry_enumerate_next ?_ (F.args_enumerate_next_1 _))))
    show wpAny _ _ (field (.ref e) 2 >>= _) _ _ _
    refine wpAny_bind (wpAny_field he rfl (x := .ref it) rfl ?_)
    refine wpAny_bind (wpAny_nextOf_tuple_end hh hit ht hx fun h' y eb hy => ?_)
    obtain ⟨o, ho, hc⟩ := hy
    exact wpAny_bind (wpAny_isInstance (T := "StopIteration") (b := true) ⟨o, ho, hc⟩ isSubtype_stop (wpAny_pure (hQ _ eb)))
section
variable {X : Cx} {M : Mk0} {a e : Expr} {fl : FL} {p pos tpos : Pos} {elts : List Expr} {kk : Nat}
def iEnumA (K : PySem.W.Frag) (ta : TA) : TI := fun σ H R => ta σ H fun vs H1 => ∃ a xs, vs = [V.ref a] ∧ (SqL K H1 a xs ∧ R (Ite K a) H1 ∨ SqT K H1 a xs ∧ R (IteT K a) H1)
theorem pi_enumA {ta : TA} (hg : Gl X "enumerate") (hm : X.mg "enumerate" = none) (ha : PA X [e] ta) (hs : starEach [e] X.env = [(false, eval e X.env)] := by rfl) :
    PI X (.Tuple elts kk tpos) (.Call (.Name "enumerate" p) [e] [] pos) (iEnumA X.K ta) := by
  constructor
  intro pins s σ H R0 I h
  refine Call_ (ld_blt I hg hm boot_enumerate (PyProof.Rows.callWith_type1 (thn (ha.run pos pins s σ H _ I h) fun us s1 ⟨vs, H1, I1, r1, q1⟩ => ?_) hs rfl))
  obtain ⟨a, xs, ex, q1⟩ := q1
  subst ex
  cases r1 with
  | cons r rr =>
    cases rr
    cases r
    have two : ∀ b, b ∈ [s1.heap.objs.size + 1, s1.heap.objs.size] → FpOk X pins H1 b := fun b hb => by
      have hle : s1.heap.objs.size ≤ b := by
        rcases List.mem_cons.mp hb with z | z
        · rw [z]; exact Nat.le_succ _
        · rw [List.mem_singleton.mp z]; exact Nat.le_refl _
      exact I1.fpOk hle (I1.hok.fresh hle)
    rcases q1 with ⟨hq, q⟩ | ⟨hq, q⟩
    · obtain ⟨its, rv, pl, _⟩ := I1.list hq
      refine call_enumerate_list pl.isList fun h' he hit _ hk => wpAny_pyIter_enum he ?_
      exact ⟨_, _, _, _, H1, rfl, I1.kept (t' := s1.toks) hk, turn_enum a (s1.heap.objs.size + 1) s1.heap.objs.size, ⟨⟨.none, he⟩, hit, Nat.succ_ne_self _⟩, two, q⟩
    · obtain ⟨its, rv, tp, _⟩ := I1.tuple hq
      have hal : a < s1.heap.objs.size := by
        obtain ⟨o, ho, _⟩ := id tp
        exact Heap.lt_size ho
      refine pd_call_enumT tp fun h' he hit hk => wpAny_pyIter_enum he ?_
      exact ⟨_, _, _, _, H1, rfl, I1.kept (t' := s1.toks) hk, turn_enumT a (s1.heap.objs.size + 1) s1.heap.objs.size (Nat.ne_of_lt hal), ⟨⟨.none, he⟩, hit, Nat.succ_ne_self _, fun z => by rw [← z] at hal; exact absurd hal (Nat.not_lt.mpr (Nat.le_succ _))⟩, two, q⟩
/-- enumerate(a), a list or a tuple -/
def enumA : D → Option (List D)
  | .list xs => some (xs.zipIdx.map fun p => PyData.tuple [.int (p.2 : Nat), p.1])
  | .tuple xs => some (xs.zipIdx.map fun p => PyData.tuple [.int (p.2 : Nat), p.1])
  | _ => none
def fiEnumA (fl : FL) : FI := fun ρ k => fl ρ fun ds ρ1 => ∃ x zs, ds = [x] ∧ enumA x = some zs ∧ k zs ρ1
theorem walks_et {K : Fr0} {a : Addr} {us : List V} {L : List Addr} {H : Hp} {xs : List D} (h : SqT K.f (hide L H) a us) (hd : RpAll K (hide L H) us xs) : Walks K (IteT K.f a) L H (xs.zipIdx.map fun p => PyData.tuple [.int (p.2 : Nat), p.1]) := by
  intro L2 H2 e tr i
  have g1 : SqT K.f H2 a us := sqt_le (Evl.ex_t e h)
  have d1 := dpa_ex e _ _ hd
  refine ⟨fun d hi => ?_, fun hl => ⟨us, g1, ?_⟩⟩
  · obtain ⟨x, hx, rfl⟩ := enum_get hi
    obtain ⟨u, hu, du⟩ := dpa_get' d1 hx
    refine ⟨⟨us, u, g1, hu⟩, fun z H3 ⟨T, u', e1, hT, e3, q1⟩ => ?_⟩
    have e4 := q1 us g1
    rw [hu] at e4
    cases e4
    subst e1 e3
    exact ⟨Ex.new hT, pair_new tr hT (.int _) du⟩
  · rw [List.length_map, List.length_zipIdx, ← dpa_len hd] at hl
    exact hl
theorem pdi_enumA (hg : Gl X "enumerate") (hm : X.mg "enumerate" = none) (ha : PDL X M [a] fl) (hs : starEach [a] X.env = [(false, eval a X.env)] := by rfl) :
    PDI X M (.Tuple elts kk tpos) (.Call (.Name "enumerate" p) [a] [] pos) (fiEnumA fl) := by
  refine ⟨PI.wk (pi_enumA hg hm ha.pa hs) fun σ H Q ⟨P, F, L, ρ, r, k⟩ => ?_, fun ρ k k' h q => ha.mono _ _ _ (fun ds ρ1 ⟨x, zs, h1, h2, q⟩ => ⟨x, zs, h1, h2, h _ _ q⟩) q⟩
  refine ⟨P, F, L, ρ, r, ha.mono _ _ _ (fun ds ρ1 ⟨x, zs, h1, h2, q⟩ vs L1 H1 e1 r1 d1 => ?_) k⟩
  subst h1
  cases d1 with
  | cons g1 g2 =>
    cases g2
    unfold enumA at h2
    split at h2
    · cases h2
      cases g1 with
      | lst a1 a2 => exact ⟨_, _, rfl, .inl ⟨sql_le a1, q _ L1 H1 e1 r1 (walks_e a1 a2)⟩⟩
    · cases h2
      cases g1 with
      | tup a1 a2 => exact ⟨_, _, rfl, .inr ⟨sqt_le a1, q _ L1 H1 e1 r1 (walks_et a1 a2)⟩⟩
    · cases h2
end
end PD
namespace PD
open PySem L2 PyProof.Rows PySem.Spec
open Evl (Ex)
def tyName : D → String
  | .none => "NoneType"
  | .bool _ => "bool"
  | .int _ => "int"
  | .str _ => "str"
  | .list _ => "list"
  | .tuple _ => "tuple"
  | .dict _ => "dict"
def notDict : D → Bool
  | .dict _ => false
  | _ => true
theorem tyx {K : Fr0} {H : Hp} {v : V} {d : D} (h : Rp K H v d) (hd : notDict d = true) : TyX K.f H v (.type (tyName d)) := by
  cases h with
  | non => exact .base .non
  | bl b => exact .base (.bl b)
  | int i => exact .base (.int i)
  | str x => exact .base (.str x)
  | lst h1 _ =>
    rcases h1 with (h1 | ⟨o, h1⟩) | ⟨o, its, n, h1, h2, _⟩
    · exact .base (.lst h1)
    · exact .base (.frz h1)
    · exact .kList h1 h2
  | tup h1 _ =>
    rcases h1 with (h1 | ⟨o, h1⟩) | ⟨o, its, n, h1, h2, _⟩
    · exact .base (.tup h1)
    · exact .fTuple h1
    · exact .kTuple h1 h2
  | dct _ _ => cases hd
  | dctN _ _ => cases hd
  | obj _ _ => cases hd
  | clo _ _ _ _ _ => cases hd
/-- isinstance of a thing of the first kind -/
def isN (a T : String) : Bool := a == T || (a == "bool" && T == "int")
def isT (T : String) (d : D) : Bool := isN (tyName d) T
def okT (T : String) : Bool := ["bool", "int", "str", "list", "tuple", "dict"].contains T
theorem kit_all : ∀ a ∈ ["NoneType", "bool", "int", "str", "list", "tuple", "dict"], ∀ T ∈ ["bool", "int", "str", "list", "tuple", "dict"], kitB a T = some (isN a T) := by decide +kernel
theorem kit_is {K : Fr0} {T : String} (hT : okT T = true) (d : D) : PySem.W.kitOne K.f (.type (tyName d)) (.type T) = some (isT T d) := by
  refine kit_ty (kit_all _ ?_ T (List.contains_iff_mem.mp hT))
  cases d <;> simp [tyName]
section
variable {X : Cx} {M : Mk0} {a : Expr} {fa : FE} {pos : Pos}
def gIsT (T : String) (d : D) : Option D := if notDict d = true then some (.bool (isT T d)) else none
/-- a built-in type's name as a value -/
theorem pe_tyName {T : String} {x : Str} {px : Pos} (hg : Gl X x) (hm : X.mg x = none) (hv : bootBuiltins x = some (.type T)) (hn : x ≠ "__name__" := by decide) (hd : (x == ("__debug__" : Str)) = false := by decide) : PE X (.Name x px) (tC (.ty T)) :=
  pe_bltn hg hm hv rfl hn hd
def gEqA : D → D → Option D
  | .str a, .str b => some (.bool (decide (a = b)))
  | x, y => gEq x y
def gNeA : D → D → Option D
  | .str a, .str b => some (.bool (!decide (a = b)))
  | x, y => gNe x y
theorem dec_strD {a b : Str} : decide (V.str a = V.str b) = decide (a = b) := by
  by_cases e : a = b
  · subst e; simp
  · rw [decide_eq_false e, decide_eq_false (fun z => e (V.str.inj z))]
theorem op_eqA (hu : X.A.units + 64 < cLine) : OpR X (compareOp .Eq) (opOr rEq (rEqD X.K)) := or_op op_eq (op_eqD hu)
theorem op_neA (hu : X.A.units + 64 < cLine) : OpR X (compareOp .NotEq) (opOr rNe (rNeD X.K)) := or_op op_ne (op_neD hu)
theorem rd_eqA {K : Fr0} : R2D K (opOr rEq (rEqD K.f)) gEqA := by
  intro L H x y dx dy d Q tr hx hy hg k
  unfold gEqA at hg
  split at hg
  · cases hg
    rw [rp_str hx, rp_str hy]
    exact .inl ⟨rfl, by rw [dec_strD]; exact k _ _ (Ex.refl _) (.bl _)⟩
  · exact .inr (rd_eq L H x y dx dy d Q tr hx hy hg k)
theorem rd_neA {K : Fr0} : R2D K (opOr rNe (rNeD K.f)) gNeA := by
  intro L H x y dx dy d Q tr hx hy hg k
  unfold gNeA at hg
  split at hg
  · cases hg
    rw [rp_str hx, rp_str hy]
    exact .inl ⟨rfl, by rw [dec_strD]; exact k _ _ (Ex.refl _) (.bl _)⟩
  · exact .inr (rd_ne L H x y dx dy d Q tr hx hy hg k)
/-- x is None, x is not None -/
theorem rd_isN {K : Fr0} : R2D K (fun x y H Q => y = V.non ∧ Q (.bl (decide (x = .non))) H) gIsN := by
  intro L H x y dx dy d Q tr hx hy hg k
  unfold gIsN at hg
  split at hg
  · cases hg
    refine ⟨rp_none hy, ?_⟩
    cases hx <;> exact k _ _ (Ex.refl _) (.bl _)
  · cases hg
end
end PD
namespace PD
open PySem L2 PyProof.Rows PySem.Spec
open Evl (Ex)
abbrev setObj (w : World) : Obj := { cls := .type "set", dict := none, data := .set #[] 0 (.fresh 0 0 (!w.params.followText "set-order")) }
section
variable {P : Program} {w : World} {A : Around} {E : Value → Shared → Prop} {s : Shared}
theorem call_setL {l : Addr} {items : Array Value} (ns : List Int) {Q : Value → Shared → Prop} (hh : A.handled = none) (hl : s.heap.IsList l items) (hit : IntsAre items.toList ns) (hb : ns.length + 1 < scanBound)
    (fin : ∀ (h' : Heap) (tk c : Nat), SetR w h' s.heap.objs.size (fun j => decide (j ∈ ns)) c → c ≤ ns.length → (∀ b o, s.heap.get? b = some o → h'.get? b = some o) → Q (.ref s.heap.objs.size) { s with heap := h', toks := tk }) :
    wpAny (model P w) A (call (.type "set") [.ref l]) Q E s := by
  have many : items.size = ns.length := by simpa using IntsAre.length hit
  obtain ⟨cls0, tl0, hmro⟩ := F.called_set.mro
  have hmade := F.called_set.made
  have hsub := F.called_set.sub
  refine wpAny_call (codeAny_of_tree ?_)
  show wpAny _ _ (callAny (.type "set") _) _ _ _
  refine wpAny_pure ⟨Code.quiet_builtin _ (by decide +kernel), codeAny_builtin F.entry_type_call ?_⟩
  rw [Around.under_plain (weight_type_call_type "set" [.ref l] []) rfl]
  have no1 := F.called_set.notType
  have no2 := F.called_set.canCreate
  have ct := F.typeCall_set_1 (.ref l)
  repeat (any_goals (first | assumption | wp_step))
  refine codeAny_mono (code_set_led1 (.ref l) (E := E) (Q₁ := fun obj sN => obj = .ref s.heap.objs.size ∧ sN = { s with heap := s.heap.push (setObj w) }) ⟨rfl, rfl⟩) fun r sN hr => ?_
  cases r with
  | error e => exact hr
  | ok fl =>
    cases fl with
    | ret obj =>
      obtain ⟨eo, es⟩ := hr
      subst eo es
      have at0 : (s.heap.push (setObj w)).get? s.heap.objs.size = some (setObj w) := Heap.get?_push_size _ rfl
      have ty0 : Shared.TypeIs { s with heap := s.heap.push (setObj w) } (.ref s.heap.objs.size) "set" := ⟨_, at0, rfl⟩
      have ini1 := F.called_set.init.lookup
      have ini2 := F.called_set.init.bind (.ref s.heap.objs.size)
      repeat (any_goals (first | assumption | wp_step))
      refine codeAny_mono (codeAny_call_builtin (R := wants (fun r sE => r = .none ∧ ∃ h' tk c, sE = { s with heap := h', toks := tk } ∧ SetR w h' s.heap.objs.size (fun j => decide (j ∈ ns)) c ∧ c ≤ ns.length ∧ (∀ b o, s.heap.get? b = some o → h'.get? b = some o)) E)
        F.called_set.init.plain F.entry_set_init (check_set_init_1 ty0 ?_)) fun rE sE hrE => ?_
      · obtain ⟨⟨oc, od, odt, osl⟩, hol, hcl, nl, hdl⟩ := hl
        replace hcl : oc = .type "list" := hcl
        replace hdl : odt = .seq items nl := hdl
        subst hcl hdl
        have atl : (s.heap.push (setObj w)).get? l = some { cls := .type "list", dict := od, data := .seq items nl, slots := osl } := Heap.get?_push_of_some _ hol
        have nots := F.sub_list_set
        have notf := F.sub_list_frozenset
        have nod : (Value.type "list" == Value.type "dict") = false := by decide
        have isl : (s.heap.push (setObj w)).IsList l items := ⟨_, atl, rfl, nl, rfl⟩
        unfold Builtin.«set.__init__» noKeywords Builtin.Frozenset.updateFrom
        generalize hPI : pyIter = PI
        wp_walk
        subst hPI
        refine wpAny_pyIter_list isl (wpAny_bind (wpAny_runValue ?_))
        have lts : l < s.heap.objs.size := Heap.lt_size hol
        have hh3 : A.in1.in1.in1.handled = none := by simp [hh]
        have sz1 : (s.heap.push (setObj w)).objs.size = s.heap.objs.size + 1 := Heap.size_push ..
        have neI : l ≠ (s.heap.push (setObj w)).objs.size := by
          rw [sz1]
          exact Nat.ne_of_lt (Nat.lt_succ_of_lt lts)
        have out2 : s.heap.objs.size ∉ [(s.heap.push (setObj w)).objs.size, l] := by
          rw [sz1]
          intro hm
          rcases List.mem_cons.mp hm with z | z
          · exact absurd z (Nat.ne_of_lt (Nat.lt_succ_self _))
          · exact absurd (List.mem_singleton.mp z) (Nat.ne_of_gt lts)
        have val : ∀ (i : Nat) (v : Value), items[i]? = some v → ∃ k t, ns[i]? = some k ∧ v = .int k t := by
          intro i v hv
          have hi : i < ns.length := by
            rw [← many]
            exact (Array.getElem?_eq_some_iff.mp hv).1
          obtain ⟨t, e⟩ := PyProof.Rows.IntsAre.int_at hit i v (by rw [Array.getElem?_toList]; exact hv)
          have g : ns.getD i 0 = ns[i] := by
            rw [List.getD_eq_getElem?_getD, List.getElem?_eq_getElem hi]
            rfl
          exact ⟨ns[i], t, List.getElem?_eq_getElem hi, by rw [e, g]⟩
        refine set_update_ints ((Walks.list hh3 _ l neI items).toS) s.heap.objs.size out2 ns many hb val (items.size - 0) 0 _ (by omega) (Nat.zero_le _) ⟨⟨_, Heap.get?_push_size _ rfl, rfl, rfl⟩, isl.push _⟩
          ⟨0, Nat.le_refl 0, setR_new_at (Heap.get?_push_of_some _ at0)⟩ fun sF cF hm hcF hSF => ?_
        obtain ⟨hF, gF, dF, tF, oF⟩ := sF
        have e1 : gF = s.gens := hm.gens
        have e2 : dF = s.drawn := hm.drawn
        have e3 : oF = s.os := hm.os
        subst e1 e2 e3
        show wpAny _ _ _ _ _ _
        refine wpAny_pure ?_
        show wpAny _ _ (ret Value.none) _ _ _
        refine wpAny_pure ⟨rfl, hF, tF, cF, rfl, hSF, by rw [many] at hcF; exact hcF, fun b o e => ?_⟩
        have lb : b < s.heap.objs.size := Heap.lt_size e
        refine hm.heap b o (fun z => ?_) (Heap.get?_push_of_some _ (Heap.get?_push_of_some _ e))
        rcases List.mem_cons.mp z with z | z
        · exact absurd z (Nat.ne_of_lt lb)
        · have z := List.mem_singleton.mp z
          rw [sz1] at z
          exact absurd z (Nat.ne_of_lt (Nat.lt_succ_of_lt lb))
      · cases rE with
        | error e => exact hrE
        | ok flE =>
          cases flE with
          | ret r =>
            obtain ⟨rfl, h', tk, c', rfl, hS', hc', hk'⟩ := hrE
            repeat (any_goals (first | assumption | wp_step))
            exact fin _ _ _ hS' hc' hk'
          | _ => exact hrE.elim
    | _ => exact hr.elim
end
end PD
namespace PD
open PySem L2 PyProof.Rows PySem.Spec
open Evl (Ex)
def insU (x : Int) : List Int → List Int
  | [] => [x]
  | y :: r => if x = y then y :: r else x :: y :: r
/-- strictly rising, the members of ns -/
def usort (ns : List Int) : List Int := (isort ns).foldr insU []
theorem strict_unique : ∀ {xs ys : List Int}, xs.Pairwise (· < ·) → ys.Pairwise (· < ·) → (∀ k, k ∈ xs ↔ k ∈ ys) → xs = ys
  | [], [], _, _, _ => rfl
  | [], y :: ys, _, _, h => absurd ((h y).mpr List.mem_cons_self) List.not_mem_nil
  | x :: xs, [], _, _, h => absurd ((h x).mp List.mem_cons_self) List.not_mem_nil
  | x :: xs, y :: ys, hx, hy, h => by
    have hx' := List.pairwise_cons.mp hx
    have hy' := List.pairwise_cons.mp hy
    have e : x = y := by
      have h1 := (h x).mp List.mem_cons_self
      have h2 := (h y).mpr List.mem_cons_self
      rcases List.mem_cons.mp h1 with z | z
      · exact z
      · rcases List.mem_cons.mp h2 with u | u
        · exact u.symm
        · have a := hy'.1 x z
          have b := hx'.1 y u
          omega
    subst e
    congr 1
    refine strict_unique hx'.2 hy'.2 fun k => ⟨fun hk => ?_, fun hk => ?_⟩
    · rcases List.mem_cons.mp ((h k).mp (List.mem_cons_of_mem _ hk)) with z | z
      · have := hx'.1 k hk
        omega
      · exact z
    · rcases List.mem_cons.mp ((h k).mpr (List.mem_cons_of_mem _ hk)) with z | z
      · have := hy'.1 k hk
        omega
      · exact z
theorem dedup_facts : ∀ {l : List Int}, l.Pairwise (· ≤ ·) → (l.foldr insU []).Pairwise (· < ·) ∧ ∀ k, k ∈ l.foldr insU [] ↔ k ∈ l
  | [], _ => ⟨List.Pairwise.nil, fun k => Iff.rfl⟩
  | x :: l, h => by
    have h' := List.pairwise_cons.mp h
    obtain ⟨i1, i2⟩ := dedup_facts h'.2
    rw [List.foldr_cons]
    generalize (l.foldr insU [] : List Int) = r at i1 i2
    cases r with
    | nil => exact ⟨List.pairwise_singleton _ _, fun k => by
        show k ∈ [x] ↔ k ∈ x :: l
        rw [List.mem_singleton, List.mem_cons, ← i2 k]
        simp⟩
    | cons y r =>
      show (if x = y then y :: r else x :: y :: r).Pairwise (· < ·) ∧ ∀ k, k ∈ (if x = y then y :: r else x :: y :: r) ↔ k ∈ x :: l
      by_cases e : x = y
      · subst e
        rw [if_pos rfl]
        exact ⟨i1, fun k => by rw [i2, List.mem_cons]; exact ⟨.inr, fun z => z.elim (fun z => by rw [z]; exact (i2 x).mp List.mem_cons_self) id⟩⟩
      · rw [if_neg e]
        refine ⟨List.pairwise_cons.mpr ⟨fun k hk => ?_, i1⟩, fun k => by rw [List.mem_cons, i2, List.mem_cons]⟩
        have lx : x < y := by
          have := h'.1 y ((i2 y).mp List.mem_cons_self)
          omega
        rcases List.mem_cons.mp hk with z | z
        · omega
        · have := (List.pairwise_cons.mp i1).1 k z
          omega
theorem isort_le (ns : List Int) : (isort ns).Pairwise (· ≤ ·) := by
  have h2 : (isort ns).Pairwise (fun a b => decide (a ≤ b) = true) := List.pairwise_mergeSort (fun a b c h1 h2 => by simp at *; omega) (fun a b => by simp; omega) ns
  exact h2.imp fun h => by simpa using h
theorem isort_perm (ns : List Int) : (isort ns).Perm ns := List.mergeSort_perm _ _
theorem usort_lt (ns : List Int) : (usort ns).Pairwise (· < ·) := (dedup_facts (isort_le ns)).1
theorem usort_mem {ns : List Int} {k : Int} : k ∈ usort ns ↔ k ∈ ns := ((dedup_facts (isort_le ns)).2 k).trans (isort_perm ns).mem_iff
theorem usort_of {ns xs : List Int} (h : xs.Pairwise (· < ·)) (hm : ∀ k, k ∈ xs ↔ k ∈ ns) : xs = usort ns := strict_unique h (usort_lt ns) fun k => (hm k).trans usort_mem.symm
section
variable {X : Cx} {M : Mk0} {a : Expr} {fa : FE} {pos : Pos}
def rSetL (K : PySem.W.Frag) (w : World) : List V → Hp → VK → Prop := fun xs H Q => ∃ (l : Addr) (ns : List Int), xs = [V.ref l] ∧ SqL K H l (ns.map V.int) ∧ ns.length < 64 ∧ ∀ p n, H p = none → n ≤ ns.length → Q (.ref p) (upd H p (SetO w p (fun j => decide (j ∈ ns)) n))
theorem cr_setL (hc : X.calm = true) : CallR X (.type "set") (rSetL X.K X.w) := by
  intro pins s σ H xs us Q I r h
  obtain ⟨l, ns, rfl, hl, h64, q⟩ := h
  obtain ⟨u, rfl, ru⟩ := vals1 r
  cases ru
  obtain ⟨its, rv, pl, _⟩ := I.list hl
  refine call_setL ns (I.ok.hd hc) pl.isList (by simpa using intsAre_of rv) (Nat.lt_of_le_of_lt (Nat.succ_le_of_lt h64) (by decide : (64 : Nat) < scanBound)) fun h' tk c R hcn hk => ?_
  exact ⟨.ref _, _, I.laid (t' := tk) hk (Nat.le_refl _) (setO_new R), rfl, q _ c (I.hok.fresh (Nat.le_refl _)) hcn⟩
def nSortSet : D → Option (List D)
  | .list xs => match intsD xs with
    | some ns => if ns.length < 64 then some ((usort ns).map PyData.int) else none
    | none => none
  | _ => none
theorem pn_sortset {p p2 pos2 : Pos} (hc : X.calm = true) (hg : Gl X "sorted") (hm : X.mg "sorted" = none) (hg2 : Gl X "set") (hm2 : X.mg "set" = none) (ha : PD X M a fa)
    (hs : starEach [a] X.env = (false, eval a X.env) :: starEach [] X.env := by rfl) (hs2 : starEach [.Call (.Name "set" p2) [a] [] pos2] X.env = (false, eval (.Call (.Name "set" p2) [a] [] pos2) X.env) :: starEach [] X.env := by rfl) :
    PN X M (.Call (.Name "sorted" p) [.Call (.Name "set" p2) [a] [] pos2] [] pos) (fn1 nSortSet fa) := by
  have inner := pe_callTy (pos := pos2) (p := p2) (cr_setL hc) hg2 hm2 (by decide +kernel) (pa_cons ha.pe pa_nil hs) (by decide) (by decide) hs
  refine ⟨PE.wk (pe_callB (cr_sortedSet hc) hg hm (by decide +kernel) (pa_cons inner pa_nil hs2) (by decide) (by decide) hs2) fun σ H Q ⟨P, F, L, ρ, r, k⟩ => ?_, fun ρ k k' g q => ha.mono _ _ _ (fun d ρ1 ⟨ds, h1, h2⟩ => ⟨ds, h1, g _ _ h2⟩) q⟩
  refine ⟨P, F, L, ρ, r, ha.mono _ _ _ (fun d ρ1 ⟨ds, hd, q⟩ v L1 H1 e1 r1 d1 => ?_) k⟩
  unfold nSortSet at hd
  split at hd
  · split at hd
    · split at hd
      · cases hd
        rename_i xs ns hi h64
        obtain ⟨b, vs, rfl, h1, h2⟩ := rp_list d1
        rw [intsD_eq hi] at h2
        rw [dpa_ints_eq h2] at h1
        refine ⟨b, ns, rfl, h1, h64, fun s n hs hn => ?_⟩
        refine ⟨s, _, n, rfl, upd_same, by omega, fun us u hp hmem hlen hu => ?_⟩
        have eu : us = usort ns := usort_of hp fun j => by rw [hmem]; simp
        subst eu
        have fresh : H1 u = none := by
          by_cases z : u = s
          · rw [z, upd_same] at hu
            cases hu
          · rw [upd_ne z] at hu
            exact hu
        have r2 := r1.laid (o := SetO X.w s (fun j => decide (j ∈ ns)) n) hs
        obtain ⟨e3, hF, r3, d3⟩ := new_pin (ds := (usort ns).map PyData.int) r2 (dpa_ints _) hu
        exact q u _ _ _ ((e1.trans (hide_ex (Ex.new hs))).trans e3) hF r3 d3
      · cases hd
    · cases hd
  · cases hd
end
end PD
namespace PD
open PySem L2 PyProof.Rows PySem.Spec
open Evl (Ex)
def gNeg : D → Option D
  | .int i => some (.int (-i))
  | _ => none
theorem r1_neg {K : Fr0} : R1D K (rU fun i => .int (-i)) gNeg := by
  intro L H x dx d Q tr hx hg k
  unfold gNeg at hg
  split at hg
  · cases hg
    exact ⟨_, rp_int hx, k _ _ (Ex.refl _) (.int _)⟩
  · cases hg
section
variable {X : Cx} {M : Mk0} {a b c : Expr} {fa fb : FE} {fn fm : FN} {fl : FL} {pos : Pos}
/-- two lists in a row: a new one -/
def nCat : D → D → Option (List D)
  | .list xs, .list ys => if xs.length + ys.length ≤ 1000000 then some (xs ++ ys) else none
  | _, _ => none
def fnCat (fa fb : FE) : FN := fun ρ k => fa ρ fun x ρ1 => fb ρ1 fun y ρ2 => ∃ ds, nCat x y = some ds ∧ k ds ρ2
def fsPar_od (i j : Nat) (fn : FN) (fb : FE) : FS := fun ρ P => fn ρ fun ds ρ1 => fb ρ1 fun d ρ2 => P.nx ((ρ2.set i (.own ds)).set j (.d d))
def fsPar_do (i j : Nat) (fa : FE) (fm : FN) : FS := fun ρ P => fa ρ fun d ρ1 => fm ρ1 fun ds ρ2 => P.nx ((ρ2.set i (.d d)).set j (.own ds))
def fsPar_oo (i j : Nat) (fn fm : FN) : FS := fun ρ P => fn ρ fun ds ρ1 => fm ρ1 fun es ρ2 => P.nx ((ρ2.set j (.own es)).set i (.own ds))
theorem hide_newex {L : List Addr} {H : Hp} {p : Addr} {o : HO} (hp : H p = none) : Ex (hide L H) (hide (p :: L) (upd H p o)) := fun a b hb => by
  obtain ⟨h3, h4⟩ := hide_some.mp hb
  have n : a ≠ p := ne_of_none h4 hp
  exact hide_some.mpr ⟨fun z => by
    rcases List.mem_cons.mp z with z | z
    · exact n z
    · exact h3 z, by rw [upd_ne n]; exact h4⟩
end
end PD
namespace PD
open PySem L2 PyProof.Rows PySem.Spec
open Evl (Ex)
theorem R.drawn {K : Fr0} {M : Mk0} {F : Hp} {L : List Addr} {ρ : Rho} {σ : L2.St} {H H' : Hp} {p : Addr} {A A' : List Addr} {m : Nat} (r : R K M (some p) F L ρ σ H)
    (hA : (∀ a ∈ A, a ∈ L ∧ F a = none) ∧ ∀ (i : Nat) (xs : Ow) (l : Addr), ρ.sl[i]? = some (.own xs) → σ[i]? = some (some (.ref l)) → l ∉ A)
    (nT : NoTb A H) (h : M.holds K p m A' H') (same : ∀ a o, H a = some o → a ∉ A → H' a = some o) (tA : ∀ a ∈ A, ∃ o, H' a = some o) (nA : ∀ a ∈ A', (a ∈ A ∨ H a = none) ∧ ∃ o, H' a = some o) :
    Ex (hide L H) (hide (A' ++ L) H') ∧ R K M (some p) F (A' ++ L) ⟨ρ.sl, m⟩ σ H' := by
  have e : Ex (hide L H) (hide (A' ++ L) H') := fun a o ho => by
    obtain ⟨h1, h2⟩ := hide_some.mp ho
    have n1 : a ∉ A := fun z => h1 (hA.1 a z).1
    refine hide_some.mpr ⟨fun z => ?_, same a o h2 n1⟩
    rcases List.mem_append.mp z with z | z
    · rcases (nA a z).1 with q | q
      · exact n1 q
      · rw [q] at h2; cases h2
    · exact h1 z
  have notA : ∀ {i : Nat} {xs : Ow} {l : Addr}, ρ.sl[i]? = some (.own xs) → σ[i]? = some (some (.ref l)) → ∃ o, H l = some o := fun {i xs l} h1 h2 => by
    obtain ⟨l', vs, g1, g2, g3, _⟩ := r.getOwn h1
    rw [h2] at g1
    cases g1
    exact ⟨_, g3⟩
  refine ⟨e, r.len, fun i s o h1 h2 => ?_, fun a o ho => ?_, fun a ha => ?_, r.apart, r.ownF, fun q hq => ?_, r.tb.move e fun P' ps k1 k2 k3 => ⟨k1, List.mem_append_right _ k2, same P' _ k3 fun z => nT P' z ps k3⟩⟩
  · have g := r.sl i s o h1 h2
    cases s with
    | no => trivial
    | d x =>
      obtain ⟨v, g1, g2⟩ := g
      exact ⟨v, g1, dp_ex e _ _ g2⟩
    | own xs =>
      obtain ⟨l, vs, g1, g2, g3, g4⟩ := g
      subst g1
      exact ⟨l, vs, rfl, List.mem_append_right _ g2, same l _ g3 (hA.2 i xs l h1 h2), g4.up e⟩
    | st => exact g
    | raw v => exact g
    | exc a d fl => exact ⟨g.1, g.2.up e⟩
  · obtain ⟨f1, f2⟩ := r.fr a o ho
    refine ⟨same a o f1 fun z => ?_, List.mem_append_right _ f2⟩
    rw [(hA.1 a z).2] at ho
    cases ho
  · rcases List.mem_append.mp ha with z | z
    · exact (nA a z).2
    · by_cases ia : a ∈ A
      · exact tA a ia
      · obtain ⟨o, ho⟩ := r.tr a z
        exact ⟨o, same a o ho ia⟩
  · cases hq
    refine ⟨A', h, fun a ha => ⟨List.mem_append_left _ ha, ?_⟩, fun i xs l h1 h2 z => ?_⟩
    · rcases (nA a ha).1 with q | q
      · exact (hA.1 a q).2
      · cases f : F a with
        | none => rfl
        | some o =>
          have := (r.fr a o f).1
          rw [q] at this
          cases this
    · rcases (nA l z).1 with q | q
      · exact hA.2 i xs l h1 h2 q
      · obtain ⟨o, ho⟩ := notA h1 h2
        rw [q] at ho
        cases ho
end PD
namespace PD
open PySem L2 PyProof.Rows PySem.Spec
open Evl (Ex)
def noSt (s : Sl) : Sl := match s with
  | .st => .no
  | s => s
/-- the promise of a def that makes an object of draws -/
def spB (K : Fr0) (M : Mk0) (n : Nat) (B : List D → Prop) : Sp := fun vs H Q _ => vs.length = n ∧ ∃ ds, RpAll K H vs ds ∧ B ds ∧ ∀ p A H', (∀ a o, H a = some o → H' a = some o) → (∀ a ∈ A, H a = none ∧ ∃ o, H' a = some o) → M.holds K p 0 A H' → Q (.ref p) H'
def keepA (A0 : List Addr) (F H : Hp) : Hp := fun a => if a ∈ A0 then H a else F a
section
variable {K : Fr0} {M : Mk0} {P : Option Addr} {F : Hp} {L L' : List Addr} {ρ ρ' : Rho} {σ σ' : L2.St} {H H' : Hp}
/-- a new object of draws in a slot, the old one's things are kept -/
theorem R.begin (r : R K M P F L ρ σ H) (i : Nat) (hns : ∀ j : Nat, ρ.sl[j]? ≠ some Sl.st) {p : Addr} {A : List Addr} {H2 : Hp} (hk : ∀ a o, H a = some o → H2 a = some o) (hA : ∀ a ∈ A, H a = none ∧ ∃ o, H2 a = some o) (hm : M.holds K p 0 A H2) :
    ∃ F2, Ex (hide L H) (hide (A ++ L) H2) ∧ R K M (some p) F2 (A ++ L) ⟨ρ.sl.set i .st, 0⟩ (σ.set i (some (.ref p))) H2 ∧
      ∀ L' ρ' σ' H', Ex (hide (A ++ L) H2) (hide L' H') → R K M (some p) F2 L' ρ' σ' H' → R K M P F L' ⟨ρ'.sl.map noSt, ρ.n + ρ'.n⟩ σ' H' := by
  obtain ⟨A0, h0⟩ : ∃ A0 : List Addr, (∀ q, P = some q → M.holds K q ρ.n A0 H) ∧ NoTb A0 H ∧ (∀ a ∈ A0, a ∈ L ∧ F a = none) ∧ ∀ (i : Nat) (xs : Ow) (l : Addr), ρ.sl[i]? = some (.own xs) → σ[i]? = some (some (.ref l)) → l ∉ A0 := by
    cases P with
    | none => exact ⟨[], ⟨fun q z => by (cases z), fun a z => absurd z List.not_mem_nil, fun a z => absurd z List.not_mem_nil, fun _ _ _ _ _ z => absurd z List.not_mem_nil⟩⟩
    | some q =>
      obtain ⟨A0, a1, a2, a3⟩ := r.m q rfl
      exact ⟨A0, fun q' z => by cases z; exact a1, M.nt a1, a2, a3⟩
  obtain ⟨m0, n0, a2, a3⟩ := h0
  have e : Ex (hide L H) (hide (A ++ L) H2) := fun a o ho => by
    obtain ⟨h1, h2⟩ := hide_some.mp ho
    refine hide_some.mpr ⟨fun z => ?_, hk a o h2⟩
    rcases List.mem_append.mp z with z | z
    · rw [(hA a z).1] at h2; cases h2
    · exact h1 z
  have kA : ∀ {a : Addr}, a ∈ A0 → keepA A0 F H a = H a := fun {a} h => by unfold keepA; rw [if_pos h]
  have kN : ∀ {a : Addr}, a ∉ A0 → keepA A0 F H a = F a := fun {a} h => by unfold keepA; rw [if_neg h]
  have inH : ∀ {j : Nat} {xs : Ow} {l : Addr}, ρ.sl[j]? = some (Sl.own xs) → σ[j]? = some (some (V.ref l)) → ∃ o, H l = some o := fun {j xs l} h1 h2 => by
    obtain ⟨l', vs, g1, g2, g3, _⟩ := r.getOwn h1
    rw [h2] at g1
    cases g1
    exact ⟨_, g3⟩
  have slot : ∀ {j : Nat} {s : Sl}, (ρ.sl.set i .st)[j]? = some s → j ≠ i → ρ.sl[j]? = some s := fun {j s} h n => by rwa [List.getElem?_set_ne (fun z => n z.symm)] at h
  have slotσ : ∀ {j : Nat} {o : Option V}, (σ.set i (some (V.ref p)))[j]? = some o → j ≠ i → σ[j]? = some o := fun {j s} h n => by rwa [List.getElem?_set_ne (fun z => n z.symm)] at h
  have here : ∀ {j : Nat} {s : Sl}, (ρ.sl.set i .st)[j]? = some s → j = i → s = .st := fun {j s} h n => by
    subst n
    have hj : j < ρ.sl.length := by
      have := (List.getElem?_eq_some_iff.mp h).1
      simpa using this
    rw [List.getElem?_set_self hj] at h
    cases h
    rfl
  have ownNe : ∀ {j : Nat} {xs : Ow}, (ρ.sl.set i .st)[j]? = some (Sl.own xs) → j ≠ i := fun {j xs} h z => by have := here h z; cases this
  refine ⟨keepA A0 F H, e, ⟨by simp [r.len], fun j s o h1 h2 => ?_, fun a o ho => ?_, fun a ha => ?_, fun a b xs ys l hab h1 h2 h3 h4 => ?_, fun j xs l h1 h2 => ?_, fun q hq => ?_, r.tb.move e fun P' ps k1 k2 k3 => ⟨by rw [kN fun z => n0 P' z ps k3]; exact k1, List.mem_append_right _ k2, hk _ _ k3⟩⟩, fun L' ρ' σ' H' e' r' => ?_⟩
  · have h1 : (ρ.sl.set i .st)[j]? = some s := h1
    by_cases ej : j = i
    · have := here h1 ej
      subst this
      subst ej
      have hj : j < σ.length := by
        have := (List.getElem?_eq_some_iff.mp h2).1
        simpa using this
      rw [List.getElem?_set_self hj] at h2
      cases h2
      exact ⟨p, rfl, rfl⟩
    · have g := r.sl j s o (slot h1 ej) (slotσ h2 ej)
      cases s with
      | no => trivial
      | d x =>
        obtain ⟨v, g1, g2⟩ := g
        exact ⟨v, g1, dp_ex e _ _ g2⟩
      | own xs =>
        obtain ⟨l, vs, g1, g2, g3, g4⟩ := g
        exact ⟨l, vs, g1, List.mem_append_right _ g2, hk l _ g3, g4.up e⟩
      | st => exact absurd (slot h1 ej) (hns j)
      | raw v => exact g
      | exc a d fl => exact ⟨g.1, g.2.up e⟩
  · by_cases ha : a ∈ A0
    · rw [kA ha] at ho
      exact ⟨hk a o ho, List.mem_append_right _ (a2 a ha).1⟩
    · rw [kN ha] at ho
      obtain ⟨f1, f2⟩ := r.fr a o ho
      exact ⟨hk a o f1, List.mem_append_right _ f2⟩
  · rcases List.mem_append.mp ha with z | z
    · exact (hA a z).2
    · obtain ⟨o, ho⟩ := r.tr a z
      exact ⟨o, hk a o ho⟩
  · have n1 := ownNe h1
    have n2 := ownNe h2
    exact r.apart a b xs ys l hab (slot h1 n1) (slot h2 n2) (slotσ h3 n1) (slotσ h4 n2)
  · have n1 := ownNe h1
    have g1 := slot h1 n1
    have g2 := slotσ h2 n1
    rw [kN (a3 j xs l g1 g2)]
    exact r.ownF j xs l g1 g2
  · cases hq
    refine ⟨A, hm, fun a ha => ⟨List.mem_append_left _ ha, ?_⟩, fun j xs l h1 h2 z => ?_⟩
    · have hn := (hA a ha).1
      by_cases i0 : a ∈ A0
      · rw [kA i0]; exact hn
      · rw [kN i0]
        cases f : F a with
        | none => rfl
        | some o =>
          have := (r.fr a o f).1
          rw [hn] at this
          cases this
    · have n1 := ownNe h1
      obtain ⟨o, ho⟩ := inH (slot h1 n1) (slotσ h2 n1)
      rw [(hA l z).1] at ho
      cases ho
  · have frz : ∀ {j : Nat} {s : Sl}, (ρ'.sl.map noSt)[j]? = some s → s = .no ∨ (ρ'.sl[j]? = some s ∧ s ≠ .st) := fun {j s} h => by
      rw [List.getElem?_map] at h
      cases z : ρ'.sl[j]? with
      | none => rw [z] at h; cases h
      | some t =>
        rw [z] at h
        cases t <;> (cases h; first | exact .inl rfl | exact .inr ⟨rfl, by intro q; cases q⟩)
    have own' : ∀ {j : Nat} {xs : Ow}, (ρ'.sl.map noSt)[j]? = some (Sl.own xs) → ρ'.sl[j]? = some (.own xs) := fun {j xs} h => by
      rcases frz h with z | z
      · cases z
      · exact z.1
    have FF : ∀ {a : Addr} {o : HO}, F a = some o → keepA A0 F H a = some o := fun {a o} h => by
      by_cases i0 : a ∈ A0
      · rw [(a2 a i0).2] at h; cases h
      · rw [kN i0]; exact h
    refine ⟨by simp [r'.len], fun j s o h1 h2 => ?_, fun a o ho => r'.fr a o (FF ho), r'.tr, fun a b xs ys l hab h1 h2 h3 h4 => r'.apart a b xs ys l hab (own' h1) (own' h2) h3 h4, fun j xs l h1 h2 => ?_, fun q hq => ?_, r'.tb.move (Ex.refl _) fun P' ps k1 k2 k3 => ⟨by
      cases z : F P' with
      | none => rfl
      | some o => (rw [FF z] at k1; cases k1), k2, k3⟩⟩
    · rcases frz h1 with z | z
      · subst z; trivial
      · have g := r'.sl j s o z.1 h2
        cases s with
        | no => trivial
        | d x => exact g
        | own xs => exact g
        | st => exact absurd rfl z.2
        | raw v => exact g
        | exc a d fl => exact g
    · have g := r'.ownF j xs l (own' h1) h2
      cases f : F l with
      | none => rfl
      | some o =>
        rw [FF f] at g
        cases g
    · have old : ∀ a ∈ A0, ∀ o, H a = some o → H' a = some o ∧ a ∈ L' := fun a ha o ho => r'.fr a o (by rw [kA ha]; exact ho)
      refine ⟨A0, M.le (Nat.le_add_right _ _) (M.loc (fun a ha o ho => (old a ha o ho).1) (m0 q hq)), fun a ha => ⟨?_, (a2 a ha).2⟩, fun j xs l h1 h2 z => ?_⟩
      · obtain ⟨o, ho⟩ := r.tr a (a2 a ha).1
        exact (old a ha o ho).2
      · have g := r'.ownF j xs l (own' h1) h2
        rw [kA z] at g
        obtain ⟨o, ho⟩ := r.tr l (a2 l z).1
        rw [ho] at g
        cases g
end
section
variable {X : Cx} {M : Mk0} {e : Expr} {es : List Expr} {fl : FL} {fs : FS} {pos spos p : Pos} {st : Stmt} {sts : List Stmt} {k : Nat} {f : Addr} {fd : FuncData} {ps : List Str} {n : Nat} {x y : Str} {py : Pos}
def fsBegin (i n : Nat) (B : List D → Prop) (fl : FL) (fs : FS) : FS := fun ρ P => fl ρ fun ds ρ1 => (∀ j : Nat, ρ1.sl[j]? ≠ some Sl.st) ∧ ds.length = n ∧ B ds ∧ fs ⟨ρ1.sl.set i .st, 0⟩
  { nx := fun ρ' => P.nx ⟨ρ'.sl.map noSt, ρ1.n + ρ'.n⟩, rt := fun d ρ' => P.rt d ⟨ρ'.sl.map noSt, ρ1.n + ρ'.n⟩, bk := fun ρ' => P.bk ⟨ρ'.sl.map noSt, ρ1.n + ρ'.n⟩, ct := fun ρ' => P.ct ⟨ρ'.sl.map noSt, ρ1.n + ρ'.n⟩ }
theorem pds_begin {i : Nat} {B : List D → Prop} (G : FnG X.prog X.w X.K X.mg X.base (L2.CX X.prog X.w) k f fd ps (spB X.k0 M n B)) (hgd : X.A.guards = some []) (hr : Room k X.A) (hg : Gl X x) (hm : X.mg x = some (.ref f)) (hk : PySem.W.keepIn X.K (.ref f) = true) (hb : Binds X.K fd ps [])
    (ha : PDL X M (e :: es) fl) (hn : PG X (.Name y py) (gName i)) (hs : PDs X M sts fs) (hdb : (x == ("__debug__" : Str)) = false := by decide) (he : starEach (e :: es) X.env = (false, eval e X.env) :: starEach es X.env := by rfl)
    (hpl : (backTo pos (starEach es X.env)).any (·.1) = false := by rfl)
    (hsw : swapsWithSole [.Name y py] (.Call (.Name x p) (e :: es) [] pos) spos.line X.env = pure false := by rfl) (hw : swappedStores [.Name y py] (.Call (.Name x p) (e :: es) [] pos) X.env = pure none := by rfl)
    (h1 : (assignEach [.Name y py] X.env).map (·.2) = [assign (.Name y py) X.env] := by rfl) :
    PDs X M (.Assign [.Name y py] (.Call (.Name x p) (e :: es) [] pos) spos :: sts) (fsBegin i n B fl fs) := by
  refine ⟨PSs.wk (pss_cons (ps_asg (pe_callG (E := E0) G hgd hr hg hm hk hb passF ha.pa hdb he hpl) hn hsw hw h1) hs.ps) fun D σ H ⟨P, F, L, ρ, r, q⟩ => ?_,
    fun ρ q q' h z => ha.mono _ _ _ (fun ds ρ1 z => ⟨z.1, z.2.1, z.2.2.1, hs.mono _ _ _ ⟨fun _ z => h.nx _ z, fun _ _ z => h.rt _ _ z, fun _ z => h.bk _ z, fun _ z => h.ct _ z⟩ z.2.2.2⟩) z⟩
  refine ⟨P, F, L, ρ, r, ha.mono _ _ _ (fun ds ρ1 z vs L1 H1 e1 r1 d1 => ?_) q⟩
  obtain ⟨z1, z2, z3, z4⟩ := z
  refine ⟨by rw [dpa_len d1]; exact z2, ds, dpa_ex (hide_le L1 H1) _ _ d1, z3, fun pp A H2 hk2 hA hold => ?_⟩
  obtain ⟨F2, e2, r2, back⟩ := r1.begin i z1 hk2 hA hold
  refine ⟨some pp, F2, A ++ L1, _, r2, hs.mono _ _ _ ⟨fun ρ' g σ' L' H' e' r' => ?_, fun d ρ' g v σ' L' H' e' r' d' => ?_, fun ρ' g σ' L' H' e' r' => ?_, fun ρ' g σ' L' H' e' r' => ?_⟩ z4⟩
  · exact g σ' L' H' ((e1.trans e2).trans e') (back _ _ _ _ e' r')
  · exact g v σ' L' H' ((e1.trans e2).trans e') (back _ _ _ _ e' r') d'
  · exact g σ' L' H' ((e1.trans e2).trans e') (back _ _ _ _ e' r')
  · exact g σ' L' H' ((e1.trans e2).trans e') (back _ _ _ _ e' r')
end
end PD
namespace PD
open PySem L2 PyProof.Rows PySem.Spec
open Evl (Ex)
def kvA (c l : Addr) (k : Int) : List (Key × V) := [(.inr "cells", .ref c), (.inr "left", .ref l), (.inr "at", .int k)]
def MAt (T : List Addr) (nm : Nat → Nat → Str) : Mk0 where
  T := T
  nm := nm
  holds _ p n A H := ∃ (c l : Addr) (cs ls : List Int) (k : Int), A = [p, c, l] ∧ c ≠ l ∧ H p = some (.dK (kvA c l k)) ∧ H c = some (.lst (cs.map V.int)) ∧ H l = some (.lst (ls.map V.int)) ∧ 0 ≤ k ∧ k ≤ n ∧ cs.length ≤ 63 ∧ ls.length ≤ 63
  loc := fun {K p n A H H'} h ⟨c, l, cs, ls, k, eA, n1, h1, h2, h3, r⟩ => by
    subst eA
    exact ⟨c, l, cs, ls, k, rfl, n1, h _ (by simp) _ h1, h _ (by simp) _ h2, h _ (by simp) _ h3, r⟩
  le := fun {K p n m A H} hm ⟨c, l, cs, ls, k, eA, n1, h1, h2, h3, a, b, r⟩ => ⟨c, l, cs, ls, k, eA, n1, h1, h2, h3, a, by omega, r⟩
  nt := fun ⟨c, l, cs, ls, k, eA, n1, h1, h2, h3, _⟩ => by subst eA; exact nt3 h1 h2 h3
abbrev MA : Mk0 := MAt [] (fun _ _ => "")
structure SA (H0 : Hp) (p c l0 : Addr) (cs : List Int) (l : Addr) (ls : List Int) (k : Int) (H : Hp) : Prop where
  hp : H p = some (.dK (kvA c l k))
  hc : H c = some (.lst (cs.map V.int))
  hl : H l = some (.lst (ls.map V.int))
  ncl : c ≠ l
  fresh : l = l0 ∨ H0 l = none
  same : ∀ a o, H0 a = some o → a ≠ p → a ≠ l0 → H a = some o
  h0 : ∃ o, H l0 = some o
  cn : c ≠ l0
  ln : ls.length ≤ 63
section
variable {H0 H : Hp} {p c l0 l : Addr} {cs ls : List Int} {k : Int}
theorem SA.new (S : SA H0 p c l0 cs l ls k H) {t : Addr} {o : HO} (ht : H t = none) : SA H0 p c l0 cs l ls k (upd H t o) :=
  ⟨by rw [upd_ne (ne_of_none S.hp ht)]; exact S.hp, by rw [upd_ne (ne_of_none S.hc ht)]; exact S.hc, by rw [upd_ne (ne_of_none S.hl ht)]; exact S.hl, S.ncl, S.fresh,
   fun a o' h n1 n2 => by have := S.same a o' h n1 n2; rw [upd_ne (ne_of_none this ht)]; exact this, by obtain ⟨o', h⟩ := S.h0; exact ⟨o', by rw [upd_ne (ne_of_none h ht)]; exact h⟩, S.cn, S.ln⟩
theorem SA.np (S : SA H0 p c l0 cs l ls k H) : p ≠ l ∧ p ≠ c := by
  constructor
  · intro e
    have h := S.hp
    rw [e, S.hl] at h
    cases h
  · intro e
    have h := S.hp
    rw [e, S.hc] at h
    cases h
theorem kvA_cells : valV (kvA c l k) (.inr "cells" : Key) = some (.ref c) := rfl
theorem kvA_left : valV (kvA c l k) (.inr "left" : Key) = some (.ref l) := rfl
theorem kvA_at : valV (kvA c l k) (.inr "at" : Key) = some (.int k) := rfl
theorem kvA_pleft {l' : Addr} : putK (kvA c l k) (.inr "left" : Key) (.ref l') = kvA c l' k := rfl
theorem kvA_pat {k' : Int} : putK (kvA c l k) (.inr "at" : Key) (.int k') = kvA c l k' := rfl
end
theorem hide_nil (H : Hp) : hide [] H = H := by
  funext a
  unfold hide
  rw [if_neg List.not_mem_nil]
theorem dp_ints {K : PySem.W.Frag} {w : World} {H : Hp} {l : Addr} {ls : List Int} (h : H l = some (.lst (ls.map V.int))) : Dp K H (.ref l) (.list (ls.map PyData.int)) := by
  exact rp_dp (K := ⟨K, w, default⟩) _ _ (SeqAt.canLay_of_shaped (PySem.W.ke_shaped_ints ls)) (.lst (.inl (.inl h)) (dpa_ints _))
/-- o[key] != [], o a dict, a list of ints there -/
theorem t_neNil {K : PySem.W.Frag} (w : World) {σ : L2.St} {H : Hp} {Q : Bool → Hp → Prop} {i : Nat} {p l : Addr} {kvs : List (Key × V)} {x : Str} {ls : List Int} (h0 : σ[i]? = some (some (.ref p))) (hp : H p = some (.dK kvs)) (hv : valV kvs (.inr x : Key) = some (.ref l))
    (hl : H l = some (.lst (ls.map V.int))) (q : ∀ t, H t = none → Q (!decide (ls = [])) (upd H t (.lst []))) : tTest (tOp (rNeD K) (tDGet (tVar i) (tC (.str x))) (tLst tNil)) σ H Q := by
  refine ⟨_, h0, p, .ref l, rfl, by have := DGet.k (k := (.inr x : Key)) hp; rw [hv] at this; exact this, by show 0 ≤ sizeLine; omega, fun t ht => ?_⟩
  refine ⟨_, _, dp_ints (w := w) (by rw [upd_ne (ne_of_none hl ht)]; exact hl), dp_ints (w := w) (ls := []) upd_same, PySem.W.ke_shaped_ints _, PySem.W.ke_shaped_ints [], _, rfl, ?_⟩
  have e : PyData.eqv (.list (ls.map PyData.int)) (.list (([] : List Int).map PyData.int)) = decide (ls = []) := by
    cases ls with
    | nil => rfl
    | cons a b => simp [PyData.eqv, PyData.eqvAll]
  rw [e]
  exact q t ht
/-- o[key] -/
theorem t_get {σ : L2.St} {H : Hp} {Q : VK} {i : Nat} {p : Addr} {kvs : List (Key × V)} {x : Str} {v : V} (h0 : σ[i]? = some (some (.ref p))) (hp : H p = some (.dK kvs)) (hv : valV kvs (.inr x : Key) = some v) (q : Q v H) : tDGet (tVar i) (tC (.str x)) σ H Q :=
  ⟨_, h0, p, v, rfl, by have := DGet.k (k := (.inr x : Key)) hp; rw [hv] at this; exact this, q⟩
def W_nextA : FE := fun ρ k => ∃ t : Int, ρ.sl = [.st, .d (.int t)] ∧ 0 < t ∧ t < 1073741824 ∧ ρ.n < 1000000000000 ∧ ∀ r : Int, 0 ≤ r → r < t → k (.int r) ⟨ρ.sl, ρ.n + 1⟩
theorem mW_nextA (ρ : Rho) (k k' : KD) (h : ∀ d ρ', k d ρ' → k' d ρ') (q : W_nextA ρ k) : W_nextA ρ k' := by
  obtain ⟨t, e, h1, h0, h2, h3⟩ := q
  exact ⟨t, e, h1, h0, h2, fun r a b => h _ _ (h3 r a b)⟩
theorem at0 {α : Type} {x : α} {xs : List α} : atI (x :: xs) 0 = some x := atI_nat (j := 0) rfl
theorem cut1 {x : V} {xs : List V} : cutV (x :: xs) (some 1) none = xs := by
  unfold cutV
  have e1 : HT.sIx (x :: xs).length 0 (some 1) = 1 := by
    simp [HT.sIx]
  have e2 : HT.sIx (x :: xs).length (x :: xs).length none = (x :: xs).length := by simp [HT.sIx]
  rw [e1, e2]
  simp
/-- the end of a draw -/
theorem endA {K : Fr0} {F : Hp} {L : List Addr} {ρ : Rho} {σ : L2.St} {H Hf : Hp} {p c l0 l : Addr} {cs ls : List Int} {k : Int} {Q : VK} {t x : Int} {T : List Addr} {nm : Nat → Nat → Str} (r : R K (MAt T nm) (some p) F L ρ σ H)
    (hA : (∀ a ∈ [p, c, l0], a ∈ L ∧ F a = none) ∧ ∀ (i : Nat) (xs : Ow) (l : Addr), ρ.sl[i]? = some (.own xs) → σ[i]? = some (some (.ref l)) → l ∉ [p, c, l0])
    (S : SA H p c l0 cs l ls k Hf) (hH : NoTb [p, c, l0] H) (hc : cs.length ≤ 63) (h0 : 0 ≤ k) (h1 : k ≤ (ρ.n + 1 : Nat)) (ht : 0 < t)
    (hk : ∀ r : Int, 0 ≤ r → r < t → KV' K (MAt T nm) (some p) F L σ H Q (.int r) ⟨ρ.sl, ρ.n + 1⟩) : Q (.int (x % t)) Hf := by
  obtain ⟨e, r'⟩ := R.drawn (M := MAt T nm) (A' := [p, c, l]) (m := ρ.n + 1) r hA hH ⟨c, l, cs, ls, k, rfl, S.ncl, S.hp, S.hc, S.hl, h0, h1, hc, S.ln⟩ (fun a o ha n => S.same a o ha (fun e => n (by simp [e])) (fun e => n (by simp [e])))
    (fun a ha => by
      rcases List.mem_cons.mp ha with e | ha
      · exact ⟨_, e ▸ S.hp⟩
      · rcases List.mem_cons.mp ha with e | ha
        · exact ⟨_, e ▸ S.hc⟩
        · rcases List.mem_cons.mp ha with e | ha
          · exact e ▸ S.h0
          · cases ha)
    (fun a ha => by
      rcases List.mem_cons.mp ha with e | ha
      · exact ⟨.inl (by simp [e]), _, e ▸ S.hp⟩
      · rcases List.mem_cons.mp ha with e | ha
        · exact ⟨.inl (by simp [e]), _, e ▸ S.hc⟩
        · rcases List.mem_cons.mp ha with e | ha
          · refine ⟨?_, _, e ▸ S.hl⟩
            rcases S.fresh with f | f
            · exact .inl (by simp [e, f])
            · exact .inr (by rw [e]; exact f)
          · cases ha)
  exact hk (x % t) (Int.emod_nonneg _ (by omega)) (Int.emod_lt_of_pos _ ht) _ _ _ e r' (.int _)
theorem comp_big (ns : List Int) : ∀ (acc : List Int) (ρ : Rho) (k : List D → Rho → Prop) (s0 s1 : Sl), ρ.sl = [s0, s1] → (∀ ms : List Int, ms.length ≤ acc.length + ns.length → k (ms.map .int) ρ) →
    compD (fgN 1) (ftB (fOp gGe (fVar 1) (fOp gPow (fC (.int 10)) (fC (.int 18))))) (fVar 1) [1] (ns.map .int) (acc.map .int) ρ k := by
  induction ns with
  | nil => intro acc ρ k s0 s1 e h; exact h acc (by simp)
  | cons x xs ih =>
    intro acc ρ k s0 s1 e h
    obtain ⟨sl, n⟩ := ρ
    simp only at e
    subst e
    refine ⟨.int x, rfl, .int (10 ^ 18), by simp [gPow], _, rfl, _, rfl, ?_⟩
    refine ite2 (fun _ => ?_) (fun _ => ?_)
    · refine ⟨.int x, rfl, ?_⟩
      have := ih (acc ++ [x]) ⟨[s0, s1], n⟩ k s0 s1 rfl fun ms hm => h ms (by simp at hm ⊢; omega)
      rw [List.map_append] at this
      exact this
    · exact ih acc ⟨[s0, s1], n⟩ k s0 s1 rfl fun ms hm => h ms (by simp at hm ⊢; omega)
def B_law : List D → Prop := fun ds => ∃ ns : List Int, ds = [.list (ns.map .int)] ∧ ns.length ≤ 63
end PD
namespace PD
open PySem L2 PyProof.Rows PySem.Spec
open Evl (Ex)
theorem spD_imp {K : Fr0} {M : Mk0} {n : Nat} {W W' : FE} (h : ∀ ρ k, W' ρ k → W ρ k) (vs : List V) (H : Hp) (Q : VK) (E : XK) (q : spD K M n W' vs H Q E) : spD K M n W vs H Q E := by
  obtain ⟨P, F, L, ρ, r, hb, hl, hw⟩ := q
  exact ⟨P, F, L, ρ, r, hb, hl, h _ _ hw⟩
theorem ints_of (ns : List Int) : intsD (ns.map PyData.int) = some ns := by
  induction ns with
  | nil => rfl
  | cons a b ih => simp [intsD, ih]
theorem bools_of (bs : List Bool) : boolsD (bs.map PyData.bool) = some bs := by
  induction bs with
  | nil => rfl
  | cons a b ih => simp [boolsD, ih]
theorem flat_ints (ns : List Int) : (ns.map PyData.int).all flatD = true := by
  induction ns with
  | nil => rfl
  | cons a b ih => simp [flatD]
theorem any_ints (ns : List Int) (x : Int) : ((ns.map PyData.int).any fun y => PyData.eqv y (.int x)) = decide (x ∈ ns) := by
  induction ns with
  | nil => rfl
  | cons a b ih =>
    rw [List.map_cons, List.any_cons, ih]
    by_cases e : a = x
    · subst e; simp [PyData.eqv]
    · have e' : ¬ x = a := fun z => e z.symm
      simp [PyData.eqv, e, e']
theorem gIn_ints (ns : List Int) (x : Int) : gIn (.int x) (.tuple (ns.map .int)) = some (.bool (decide (x ∈ ns))) := by
  show (if flatD (.int x) = true ∧ (ns.map PyData.int).all flatD = true then some (PyData.bool ((ns.map PyData.int).any fun y => PyData.eqv y (.int x))) else none) = _
  rw [if_pos ⟨rfl, flat_ints ns⟩, any_ints]
theorem gIn_intsL (ns : List Int) (x : Int) : gIn (.int x) (.list (ns.map .int)) = some (.bool (decide (x ∈ ns))) := by
  show (if flatD (.int x) = true ∧ (ns.map PyData.int).all flatD = true then some (PyData.bool ((ns.map PyData.int).any fun y => PyData.eqv y (.int x))) else none) = _
  rw [if_pos ⟨rfl, flat_ints ns⟩, any_ints]
theorem gNotIn_ints (ns : List Int) (x : Int) : gNotIn (.int x) (.tuple (ns.map .int)) = some (.bool (!decide (x ∈ ns))) := by
  show (if flatD (.int x) = true ∧ (ns.map PyData.int).all flatD = true then some (PyData.bool (!(ns.map PyData.int).any fun y => PyData.eqv y (.int x))) else none) = _
  rw [if_pos ⟨rfl, flat_ints ns⟩, any_ints]
theorem gNotIn_intsL (ns : List Int) (x : Int) : gNotIn (.int x) (.list (ns.map .int)) = some (.bool (!decide (x ∈ ns))) := by
  show (if flatD (.int x) = true ∧ (ns.map PyData.int).all flatD = true then some (PyData.bool (!(ns.map PyData.int).any fun y => PyData.eqv y (.int x))) else none) = _
  rw [if_pos ⟨rfl, flat_ints ns⟩, any_ints]
theorem gIx_tup {xs : List D} {i : Nat} {d : D} (h : xs[i]? = some d) : gIx (.tuple xs) (.int (i : Int)) = some d := atI_nat h
/-- the same over the pictures of things -/
theorem comp_on {α : Type} {g : FG} {ft : FT} {fe : FE} {vs : List Nat} {ρ : Rho} {k : List D → Rho → Prop} (c : α → D) (p : α → Bool) (f : α → D) : ∀ (xs : List α) (acc : List D),
    (∀ x ∈ xs, ∀ (kt : D → Rho → Prop) (kf : Rho → Prop), (p x = true → ∀ ρ3 : Rho, ρ3.n = ρ.n → kt (f x) ρ3) → (p x = false → ∀ ρ2 : Rho, ρ2.n = ρ.n → kf ρ2) → g (c x) (wipeR vs ρ) fun ρ1 => ft ρ1 fun b ρ2 => if b = true then fe ρ2 kt else kf ρ2) →
    k (acc ++ (xs.filter p).map f) ρ → compD g ft fe vs (xs.map c) acc ρ k
  | [], acc, _, q => by simpa [compD] using q
  | x :: xs, acc, s, q => by
    rw [List.map_cons]
    unfold compD
    refine s x List.mem_cons_self _ _ (fun hp ρ3 e => ?_) (fun hp ρ2 e => ?_)
    · rw [e]
      refine comp_on c p f xs _ (fun y hy => s y (List.mem_cons_of_mem _ hy)) ?_
      rw [List.filter_cons, if_pos hp] at q
      simpa using q
    · rw [e]
      refine comp_on c p f xs _ (fun y hy => s y (List.mem_cons_of_mem _ hy)) ?_
      rw [List.filter_cons, if_neg (by simp [hp])] at q
      exact q
theorem comp_all {α : Type} {g : FG} {fe : FE} {vs : List Nat} {ρ : Rho} {k : List D → Rho → Prop} (c : α → D) (f : α → D) (xs : List α) (s : ∀ x ∈ xs, ∀ kt : D → Rho → Prop, (∀ ρ3 : Rho, ρ3.n = ρ.n → kt (f x) ρ3) → g (c x) (wipeR vs ρ) fun ρ1 => fe ρ1 kt)
    (q : k (xs.map f) ρ) : compD g ftYes fe vs (xs.map c) [] ρ k := by
  refine comp_on c (fun _ => true) f xs [] (fun x hx kt kf h1 h2 => ?_) (by
    rw [show xs.filter (fun _ => true) = xs from List.filter_eq_self.mpr fun _ _ => rfl]
    exact q)
  have := s x hx kt (h1 rfl)
  simpa [ftYes] using this
theorem gEq_ii (i j : Int) : gEq (.int i) (.int j) = some (.bool (decide (i = j))) := by
  show (if SeqAt.shaped (.int i) = true ∧ SeqAt.shaped (.int j) = true then some (PyData.bool (i == j)) else none) = _
  rw [if_pos ⟨rfl, rfl⟩]
  rfl
theorem gNe_ii (i j : Int) : gNe (.int i) (.int j) = some (.bool (!decide (i = j))) := by
  show (if SeqAt.shaped (.int i) = true ∧ SeqAt.shaped (.int j) = true then some (PyData.bool (!(i == j))) else none) = _
  rw [if_pos ⟨rfl, rfl⟩]
  rfl
theorem gAll_bs (bs : List Bool) : gAll (.list (bs.map .bool)) = some (.bool (bs.all id)) := by
  show (boolsD (bs.map PyData.bool)).map _ = _
  rw [bools_of]
  rfl
theorem gAny_bs (bs : List Bool) : gAny (.list (bs.map .bool)) = some (.bool (bs.any id)) := by
  show (boolsD (bs.map PyData.bool)).map _ = _
  rw [bools_of]
  rfl
theorem truD_b (b : Bool) : truD (.bool b) = some b := rfl
theorem truD_i (i : Int) : truD (.int i) = some (i != 0) := rfl
theorem truD_l (xs : List D) : truD (.list xs) = some (!xs.isEmpty) := rfl
theorem truD_t (xs : List D) : truD (.tuple xs) = some (!xs.isEmpty) := rfl
theorem truD_n : truD .none = some false := rfl
theorem gIx_t0 (x : D) (xs : List D) : gIx (.tuple (x :: xs)) (.int 0) = some x := atI_nat (j := 0) rfl
theorem gIx_t1 (x y : D) (xs : List D) : gIx (.tuple (x :: y :: xs)) (.int 1) = some y := atI_nat (j := 1) rfl
theorem gIx_t2 (x y z : D) (xs : List D) : gIx (.tuple (x :: y :: z :: xs)) (.int 2) = some z := atI_nat (j := 2) rfl
theorem cut_from1 (x : D) (xs : List D) : cutD (x :: xs) (some 1) none = xs := by
  unfold cutD
  have e1 : HT.sIx (x :: xs).length 0 (some 1) = 1 := by simp [HT.sIx]
  have e2 : HT.sIx (x :: xs).length (x :: xs).length none = (x :: xs).length := by simp [HT.sIx]
  rw [e1, e2]
  simp
theorem cut_tail (xs : List D) : cutD xs (some 1) none = xs.tail := by
  cases xs with
  | nil => rfl
  | cons x xs => exact cut_from1 x xs
theorem gSl_t (xs : List D) : gSl (.tuple xs) (some 1) none = some (.tuple xs.tail) := by
  show some (PyData.tuple (cutD xs (some 1) none)) = _
  rw [cut_tail]
theorem gSl_l (xs : List D) : gSl (.list xs) (some 1) none = some (.list xs.tail) := by
  show some (PyData.list (cutD xs (some 1) none)) = _
  rw [cut_tail]
theorem zip_ints (ns ms : List Int) : zipD (.tuple (ns.map .int)) (.tuple (ms.map .int)) = some ((ns.zip ms).map fun p => PyData.tuple [.int p.1, .int p.2]) := by
  show some (List.zipWith _ _ _) = _
  rw [List.zipWith_map]
  simp [List.zip, List.map_zipWith]
theorem eqv_ints : ∀ (ns ms : List Int), PyData.eqvAll (ns.map .int) (ms.map .int) = decide (ns = ms)
  | [], [] => rfl
  | [], _ :: _ => rfl
  | _ :: _, [] => rfl
  | a :: as, b :: bs => by
    show (PyData.eqv (.int a) (.int b) && PyData.eqvAll (as.map .int) (bs.map .int)) = _
    rw [eqv_ints as bs]
    by_cases e : a = b
    · subst e; simp [PyData.eqv]
    · simp [PyData.eqv, e]
theorem shaped_tup (ns : List Int) : SeqAt.shaped (.tuple (ns.map PyData.int)) = true := by
  have := PySem.W.ke_shaped_ints ns
  simpa [SeqAt.shaped, PyData.canLay0, PyData.depth] using this
theorem gEq_tt (ns ms : List Int) : gEq (.tuple (ns.map .int)) (.tuple (ms.map .int)) = some (.bool (decide (ns = ms))) := by
  show (if SeqAt.shaped (.tuple (ns.map .int)) = true ∧ SeqAt.shaped (.tuple (ms.map .int)) = true then some (PyData.bool (PyData.eqvAll (ns.map .int) (ms.map .int))) else none) = _
  rw [if_pos ⟨shaped_tup ns, shaped_tup ms⟩, eqv_ints]
theorem gLen_t (xs : List D) : gLen (.tuple xs) = some (.int xs.length) := rfl
theorem gLen_l (xs : List D) : gLen (.list xs) = some (.int xs.length) := rfl
theorem rangeD_nat (n : Nat) : rangeD 0 (n : Int) = (List.range n).map fun i : Nat => PyData.int (i : Int) := by
  unfold rangeD
  rw [show ((n : Int) - 0).toNat = n by omega]
  refine List.map_congr_left fun i _ => ?_
  rw [Int.zero_add]
theorem isort_strict {ns : List Int} (h : ns.Nodup) : (isort ns).Pairwise (· < ·) := by
  have h1 := isort_le ns
  have h2 : (isort ns).Nodup := (isort_perm ns).nodup_iff.mpr h
  exact (h1.and h2).imp fun ⟨a, b⟩ => by
    have b : _ ≠ _ := b
    omega
theorem fnComp_i {fi : FI} {g : FG} {ft : FT} {fe : FE} {vs : List Nat} {ρ : Rho} {k : List D → Rho → Prop} (h : fi ρ fun ds ρ1 => ds.length ≤ 1000000 ∧ compD g ft fe vs ds [] ⟨ρ1.sl.map dropOwn, ρ1.n⟩ fun out ρ2 => k out ⟨ρ1.sl, ρ2.n⟩) : fnComp fi g ft fe vs ρ k := h
/-- a comprehension that draws once for each -/
theorem comp_draw {α : Type} {g : FG} {fe : FE} {vs : List Nat} {k : List D → Rho → Prop} (c : α → D) (t : Int) (N : Nat) (sl : List Sl) : ∀ (xs : List α) (acc : List Int) (n : Nat), n + xs.length ≤ N →
    (∀ x ∈ xs, ∀ n' : Nat, n' < N → ∀ kt : D → Rho → Prop, (∀ r : Int, 0 ≤ r → r < t → ∀ ρ3 : Rho, ρ3.n = n' + 1 → kt (.int r) ρ3) → g (c x) (wipeR vs ⟨sl, n'⟩) fun ρ1 => fe ρ1 kt) →
    (∀ rs : List Int, rs.length = xs.length → (∀ r ∈ rs, 0 ≤ r ∧ r < t) → k ((acc ++ rs).map .int) ⟨sl, n + xs.length⟩) → compD g ftYes fe vs (xs.map c) (acc.map .int) ⟨sl, n⟩ k
  | [], acc, n, _, _, q => by
    have := q [] rfl fun r hr => absurd hr List.not_mem_nil
    simpa [compD] using this
  | x :: xs, acc, n, hn, s, q => by
    rw [List.length_cons] at hn
    rw [List.map_cons]
    unfold compD
    have st := s x List.mem_cons_self n (by omega) (fun y ρ3 => compD g ftYes fe vs (xs.map c) (acc.map .int ++ [y]) ⟨sl, ρ3.n⟩ k) fun r h0 h1 ρ3 e => by
      rw [e]
      have := comp_draw c t N sl xs (acc ++ [r]) (n + 1) (by omega) (fun y hy => s y (List.mem_cons_of_mem _ hy)) fun rs hl hr => by
        have := q (r :: rs) (by rw [List.length_cons, hl, List.length_cons]) fun z hz => by
          rcases List.mem_cons.mp hz with u | u
          · subst u; exact ⟨h0, h1⟩
          · exact hr z u
        rw [List.length_cons] at this
        rw [List.append_assoc, show n + 1 + xs.length = n + (xs.length + 1) by omega]
        exact this
      rw [List.map_append] at this
      exact this
    simpa [ftYes] using st
/-- one whose test draws once for each -/
theorem comp_drawF {α : Type} {g : FG} {ft : FT} {fe : FE} {vs : List Nat} {k : List D → Rho → Prop} (c f : α → D) (N : Nat) (sl : List Sl) : ∀ (xs : List α) (acc : List D) (n : Nat), n + xs.length ≤ N →
    (∀ x ∈ xs, ∀ n' : Nat, n' < N → ∀ (kt : D → Rho → Prop) (kf : Rho → Prop), (∀ ρ3 : Rho, ρ3.n = n' + 1 → kt (f x) ρ3) → (∀ ρ3 : Rho, ρ3.n = n' + 1 → kf ρ3) → g (c x) (wipeR vs ⟨sl, n'⟩) fun ρ1 => ft ρ1 fun b ρ2 => if b = true then fe ρ2 kt else kf ρ2) →
    (∀ ys : List α, ys.length ≤ xs.length → (∀ y ∈ ys, y ∈ xs) → k (acc ++ ys.map f) ⟨sl, n + xs.length⟩) → compD g ft fe vs (xs.map c) acc ⟨sl, n⟩ k
  | [], acc, n, _, _, q => by
    have := q [] (Nat.le_refl _) fun r hr => hr
    simpa [compD] using this
  | x :: xs, acc, n, hn, s, q => by
    rw [List.length_cons] at hn
    rw [List.map_cons]
    unfold compD
    refine s x List.mem_cons_self n (by omega) _ _ (fun ρ3 e => ?_) (fun ρ3 e => ?_)
    · rw [e]
      refine comp_drawF c f N sl xs _ (n + 1) (by omega) (fun y hy => s y (List.mem_cons_of_mem _ hy)) fun ys hl hr => ?_
      have := q (x :: ys) (by rw [List.length_cons, List.length_cons]; omega) fun z hz => by
        rcases List.mem_cons.mp hz with u | u
        · subst u; exact List.mem_cons_self
        · exact List.mem_cons_of_mem _ (hr z u)
      rw [List.length_cons] at this
      rw [List.append_assoc, show n + 1 + xs.length = n + (xs.length + 1) by omega]
      exact this
    · rw [e]
      refine comp_drawF c f N sl xs _ (n + 1) (by omega) (fun y hy => s y (List.mem_cons_of_mem _ hy)) fun ys hl hr => ?_
      have := q ys (by rw [List.length_cons]; omega) fun z hz => List.mem_cons_of_mem _ (hr z hz)
      rw [List.length_cons] at this
      rw [show n + 1 + xs.length = n + (xs.length + 1) by omega]
      exact this
theorem gTuple_l (xs : List D) : gTuple (.list xs) = some (.tuple xs) := rfl
theorem nSortSet_ints {ns : List Int} (h : ns.length < 64) : nSortSet (.list (ns.map .int)) = some ((usort ns).map .int) := by
  show (match intsD (ns.map PyData.int) with | some ns => if ns.length < 64 then some ((usort ns).map PyData.int) else none | none => none) = _
  rw [ints_of]
  show (if ns.length < 64 then some ((usort ns).map PyData.int) else none) = _
  rw [if_pos h]
theorem gAdd_ii (i j : Int) : gAdd (.int i) (.int j) = some (.int (i + j)) := rfl
theorem gAdd_ss (x y : Str) : gAdd (.str x) (.str y) = if x.length + y.length ≤ sizeLine then some (.str (x ++ y)) else none := rfl
theorem gAdd_tt (xs ys : List D) : gAdd (.tuple xs) (.tuple ys) = if xs.length + ys.length ≤ sizeLine then some (.tuple (xs ++ ys)) else none := rfl
theorem gAdd_ll (xs ys : List D) : gAdd (.list xs) (.list ys) = if xs.length + ys.length ≤ sizeLine then some (.list (xs ++ ys)) else none := rfl
theorem fsApp_i {i : Nat} {fa : FE} {ρ : Rho} {P : Post} (h : fa ρ fun d ρ1 => ∃ xs : List D, ρ1.sl[i]? = some (.own xs) ∧ xs.length < 1000000 ∧ P.nx (ρ1.set i (.own (xs ++ [d])))) : fsApp i fa ρ P := h
end PD
namespace PD
open PySem L2 PyProof.Rows PySem.Spec
mutual
def tame : D → Bool
  | .none | .bool _ => true
  | .int i => decide (i.natAbs < 10 ^ 12)
  | .str x => PyData.strOk x
  | .list xs | .tuple xs => tameAll xs
  | .dict _ => false
def tameAll : List D → Bool
  | [] => true
  | x :: xs => tame x && tameAll xs
end
mutual
theorem tame_all : ∀ d : D, tame d = true → d.canLay0 = true ∧ d.showable = true ∧ d.hasDict = false ∧ d.intsShort 13 = true
  | .none, _ => ⟨rfl, rfl, rfl, rfl⟩
  | .bool _, _ => ⟨rfl, rfl, rfl, rfl⟩
  | .int i, h => by
    have h : i.natAbs < 10 ^ 12 := by simpa [tame] using h
    refine ⟨rfl, ?_, rfl, ?_⟩
    · have e : i.natAbs.log2 < 1920 := by
        by_cases z : i.natAbs = 0
        · rw [z]; decide
        · have : i.natAbs.log2 < 40 := (Nat.log2_lt z).mpr (Nat.lt_of_lt_of_le h (by decide))
          omega
      simpa [PyData.showable] using e
    · simpa [PyData.intsShort] using PyData.shown_int_le h
  | .str x, h => ⟨by simpa [tame, PyData.canLay0] using h, rfl, rfl, rfl⟩
  | .list xs, h => by
    obtain ⟨a, b, c, d⟩ := tameAll_all xs (by simpa [tame] using h)
    exact ⟨by simpa [PyData.canLay0] using a, by simpa [PyData.showable] using b, by simpa [PyData.hasDict] using c, by simpa [PyData.intsShort] using d⟩
  | .tuple xs, h => by
    obtain ⟨a, b, c, d⟩ := tameAll_all xs (by simpa [tame] using h)
    exact ⟨by simpa [PyData.canLay0] using a, by simpa [PyData.showable] using b, by simpa [PyData.hasDict] using c, by simpa [PyData.intsShort] using d⟩
theorem tameAll_all : ∀ xs : List D, tameAll xs = true → PyData.canLayAll0 xs = true ∧ PyData.showableAll xs = true ∧ PyData.hasDictAll xs = false ∧ PyData.intsShortAll 13 xs = true
  | [], _ => ⟨rfl, rfl, rfl, rfl⟩
  | x :: xs, h => by
    have h : tame x = true ∧ tameAll xs = true := by simpa [tameAll] using h
    obtain ⟨a, b, c, d⟩ := tame_all x h.1
    obtain ⟨a', b', c', d'⟩ := tameAll_all xs h.2
    refine ⟨?_, ?_, ?_, ?_⟩
    · show (x.canLay0 && _) = true; rw [a, a']; rfl
    · show (x.showable && _) = true; rw [b, b']; rfl
    · show (x.hasDict || _) = false; rw [c, c']; rfl
    · show (x.intsShort 13 && _) = true; rw [d, d']; rfl
end
theorem shaped_tame {d : D} (h : tame d = true) (hd : d.depth ≤ 60) : SeqAt.shaped d = true := by
  unfold SeqAt.shaped
  rw [(tame_all d h).1, decide_eq_true (by omega)]
  rfl
mutual
theorem eqv_self : ∀ d : D, d.hasDict = false → PyData.eqv d d = true
  | .none, _ => rfl
  | .bool b, _ => by simp [PyData.eqv]
  | .int b, _ => by simp [PyData.eqv]
  | .str b, _ => by simp [PyData.eqv]
  | .list xs, h => eqvAll_self xs (by simpa [PyData.hasDict] using h)
  | .tuple xs, h => eqvAll_self xs (by simpa [PyData.hasDict] using h)
  | .dict _, h => by simp [PyData.hasDict] at h
theorem eqvAll_self : ∀ xs : List D, PyData.hasDictAll xs = false → PyData.eqvAll xs xs = true
  | [], _ => rfl
  | x :: xs, h => by
    have h : x.hasDict = false ∧ PyData.hasDictAll xs = false := by simpa [PyData.hasDictAll] using h
    show (PyData.eqv x x && PyData.eqvAll xs xs) = true
    rw [eqv_self x h.1, eqvAll_self xs h.2]
    rfl
end
theorem gNe_self {d : D} (h : tame d = true) (hd : d.depth ≤ 60) : gNe d d = some (.bool false) := by
  unfold gNe
  rw [if_pos ⟨shaped_tame h hd, shaped_tame h hd⟩, eqv_self d (tame_all d h).2.2.1]
  rfl
end PD
namespace PD
open PySem L2 PyProof.Rows PySem.Spec
open Evl (Ex)
theorem R.oneT {K : Fr0} {M : Mk0} {H : Hp} {v : V} {d : D} (hT : ∀ t ∈ M.T, H t = some (.tbl #[])) (h : Rp K (hide M.T H) v d) : R K M none (fun _ => none) M.T ⟨[.d d], 0⟩ [some v] H where
  len := rfl
  sl := fun i s o h1 h2 => by
    cases i with
    | zero =>
      cases h1
      cases h2
      exact ⟨v, rfl, h⟩
    | succ i => simp at h1
  fr := fun a o h => nomatch h
  tr := fun a h => ⟨_, hT a h⟩
  apart := fun i j xs ys l _ h1 _ _ _ => by
    cases i with
    | zero => cases h1
    | succ i => simp at h1
  ownF := fun i xs l h1 _ => rfl
  m := fun p h => nomatch h
  tb := fun t ht => ⟨rfl, ht, #[], hT t ht, True.intro, fun pos cv hc => by
    have z : codeAmong pos [] = some cv := hc
    simp [codeAmong] at z⟩
/-- a script of ints, by the promise over data -/
theorem head_ofT {K : Fr0} {M : Mk0} {W : FE} {H : Hp} {a : Addr} {ns : List Int} (hT : ∀ t ∈ M.T, H t = some (.tbl #[])) (hS : SqL K.f H a (ns.map V.int))
    (hW : ∀ k : KD, (∀ n', k (.bool true) ⟨[.d (.list (ns.map .int))], n'⟩) → W ⟨[.d (.list (ns.map .int))], 0⟩ k) :
    spD K M 1 W [.ref a] H (fun v _ => v = .bl true) fun _ _ _ => False := by
  have hS2 : SqL K.f (hide M.T H) a (ns.map V.int) := by
    have nT : ∀ o, H a = some o → (∀ ps, o ≠ .tbl ps) → hide M.T H a = some o := fun o ho no => hide_some.mpr ⟨fun z => by
      have := hT a z
      rw [ho] at this
      exact no _ (Option.some.inj this), ho⟩
    rcases hS with (h | ⟨o, h⟩) | h
    · exact .inl (.inl (nT _ h fun ps z => by cases z))
    · exact .inl (.inr ⟨o, nT _ h fun ps z => by cases z⟩)
    · exact .inr h
  refine ⟨none, fun _ => none, M.T, _, R.oneT hT (.lst hS2 (dpa_ints ns)), fun i xs h => ?_, rfl, hW _ fun n' v L' H' e r d => ?_⟩
  · cases i with
    | zero => cases h
    | succ i => simp at h
  · cases d
    rfl
section
variable {K : Fr0} {P : Option Addr} {L L' : List Addr} {H H' F : Hp} {ρ : Rho} {σ : L2.St}
theorem keepF_upd {x : Addr} {u : HO} {H2 : Hp} (hno : ¬ Own ρ σ x) (hH : ∀ a, a ≠ x → H2 a = H a) : keepF ρ σ (upd F x u) H2 = upd (keepF ρ σ F H) x u := by
  funext a
  by_cases ha : a = x
  · subst ha
    rw [keepF_not hno, upd_same, upd_same]
  · rw [upd_ne ha]
    by_cases ho : Own ρ σ a
    · rw [keepF_own ho, keepF_own ho, hH a ha]
    · rw [keepF_not ho, keepF_not ho, upd_ne ha]
end
end PD
namespace PD
open PySem L2 PyProof.Rows PySem.Spec
open Evl (Ex)
def kvB (c l : Addr) (k : Int) : List (Key × V) := [(.inr "cells", .ref c), (.inr "great", .ref l), (.inr "spot", .int k)]
structure SB (H0 : Hp) (p c l0 : Addr) (cs : List Int) (l : Addr) (ls : List Int) (k : Int) (H : Hp) : Prop where
  hp : H p = some (.dK (kvB c l k))
  hc : H c = some (.lst (cs.map V.int))
  hl : H l = some (.lst (ls.map V.int))
  ncl : c ≠ l
  fresh : l = l0 ∨ H0 l = none
  same : ∀ a o, H0 a = some o → a ≠ p → a ≠ l0 → H a = some o
  h0 : ∃ o, H l0 = some o
  cn : c ≠ l0
  ln : ls.length ≤ 63
section
variable {H0 H : Hp} {p c l0 l : Addr} {cs ls : List Int} {k : Int}
theorem SB.new (S : SB H0 p c l0 cs l ls k H) {t : Addr} {o : HO} (ht : H t = none) : SB H0 p c l0 cs l ls k (upd H t o) :=
  ⟨by rw [upd_ne (ne_of_none S.hp ht)]; exact S.hp, by rw [upd_ne (ne_of_none S.hc ht)]; exact S.hc, by rw [upd_ne (ne_of_none S.hl ht)]; exact S.hl, S.ncl, S.fresh,
   fun a o' h n1 n2 => by have := S.same a o' h n1 n2; rw [upd_ne (ne_of_none this ht)]; exact this, by obtain ⟨o', h⟩ := S.h0; exact ⟨o', by rw [upd_ne (ne_of_none h ht)]; exact h⟩, S.cn, S.ln⟩
theorem SB.np (S : SB H0 p c l0 cs l ls k H) : p ≠ l ∧ p ≠ c := by
  constructor
  · intro e
    have h := S.hp
    rw [e, S.hl] at h
    cases h
  · intro e
    have h := S.hp
    rw [e, S.hc] at h
    cases h
end
end PD
namespace PD
open PySem L2 PyProof.Rows PySem.Spec
open Evl (Ex)
section
variable {X : Cx} {M : Mk0} {o e a b : Expr} {fo fa fb : FE} {pos : Pos} {K : Fr0}
def fM0 (g : D → Option D) (fo : FE) : FE := fun ρ k => fo ρ fun x ρ1 => ∃ y, x = .str y ∧ ∃ d, g x = some d ∧ k d ρ1
def fM1 (g : D → D → Option D) (fo fa : FE) : FE := fun ρ k => fo ρ fun x ρ1 => (∃ y, x = .str y) ∧ fa ρ1 fun z ρ2 => ∃ d, g x z = some d ∧ k d ρ2
def fJ : List FE → Str → Rho → (Str → Rho → Prop) → Prop
  | [], acc, ρ, k => k acc ρ
  | f :: fs, acc, ρ, k => f ρ fun d ρ1 => ∃ y : Str, d = .str y ∧ (acc ++ y).length ≤ sizeLine ∧ fJ fs (acc ++ y) ρ1 k
inductive PDJ (X : Cx) (M : Mk0) : List Expr → List FE → Prop where
  | nil : PDJ X M [] []
  | cons {e : Expr} {f : FE} {es : List Expr} {fs : List FE} (h : PD X M e f) (r : PDJ X M es fs) : PDJ X M (e :: es) (f :: fs)
theorem PDJ.mono {es : List Expr} {fs : List FE} (h : PDJ X M es fs) : ∀ (acc : Str) (ρ : Rho) (k k' : Str → Rho → Prop), (∀ d ρ', k d ρ' → k' d ρ') → fJ fs acc ρ k → fJ fs acc ρ k' := by
  induction h with
  | nil => exact fun acc ρ k k' g q => g _ _ q
  | cons h _ ih => exact fun acc ρ k k' g q => h.mono _ _ _ (fun d ρ1 ⟨y, h0, h1, q⟩ => ⟨y, h0, h1, ih _ _ _ _ g q⟩) q
def fJoined (fs : List FE) : FE := fun ρ k => fJ fs Str.empty ρ fun s ρ1 => k (.str s) ρ1
end
end PD
namespace PD
open PySem L2 PyProof.Rows PySem.Spec
open Evl (Ex)
section
variable {X : Cx} {M : Mk0} {a e : Expr} {fa : FE} {pos : Pos} {K : Fr0}
def gTupRg : D → Option D
  | .int n => if 0 ≤ n ∧ n ≤ 1000000 then some (.tuple ((List.range n.toNat).map fun i : Nat => .int (i : Int))) else none
  | _ => none
theorem pd_tupRg {p p2 pos2 : Pos} (hc : X.calm = true) (hg : Gl X "tuple") (hm : X.mg "tuple" = none) (hg2 : Gl X "range") (hm2 : X.mg "range" = none) (ha : PD X M a fa)
    (na : starEach [a] X.env = (false, eval a X.env) :: starEach [] X.env := by rfl) (na2 : starEach [.Call (.Name "range" p2) [a] [] pos2] X.env = (false, eval (.Call (.Name "range" p2) [a] [] pos2) X.env) :: starEach [] X.env := by rfl) :
    PD X M (.Call (.Name "tuple" p) [.Call (.Name "range" p2) [a] [] pos2] [] pos) (fUn gTupRg fa) := by
  refine ⟨PE.wk (pe_tupRg hc hg hm (prg_1 hg2 hm2 ha.pe na) na2) fun σ H Q h => ?_, fUn_mono ha.mono⟩
  refine dUn (r := fun x H Q => ∃ n, x = .int n ∧ RgOk 0 n ∧ ∀ q, H q = none → Q (.ref q) (upd H q (.tup (rgV 0 n)))) ?_ ha.mono σ H Q h
  intro L H x dx d Q tr h1 hg q
  unfold gTupRg at hg
  split at hg
  · split at hg
    · rename_i n c
      cases hg
      obtain rfl := rp_int h1
      refine ⟨n, rfl, ⟨by omega, by omega, by omega, by omega, by omega⟩, fun u hu => q _ _ (Ex.new hu) (new_tup tr hu ?_)⟩
      have e : rgV 0 n = ((List.range n.toNat).map fun i : Nat => (i : Int)).map V.int := by
        unfold rgV
        rw [List.map_map]
        simp
      have e2 : ((List.range n.toNat).map fun i : Nat => PyData.int (i : Int)) = ((List.range n.toNat).map fun i : Nat => (i : Int)).map PyData.int := by
        rw [List.map_map]
        rfl
      rw [e, e2]
      exact dpa_ints _
    · cases hg
  · cases hg
end
end PD
namespace PD
open PySem L2 PyProof.Rows PySem.Spec
open Evl (Ex)
end PD
namespace PD
open PySem L2 PyProof.Rows PySem.Spec
open Evl (Ex)
section
variable {X : Cx} {M : Mk0} {a : Expr} {es : List Expr} {fa : FE} {fl : FL} {p pos : Pos}
/-- *e in a display: the items of a tuple or a list -/
def starD : D → Option (List D)
  | .tuple xs => some xs
  | .list xs => some xs
  | _ => none
def flStar (fa : FE) (fl : FL) : FL := fun ρ k => fa ρ fun d ρ1 => ∃ xs, starD d = some xs ∧ fl ρ1 fun ds ρ2 => k (xs ++ ds) ρ2
end
end PD
namespace PD
open PySem L2 PyProof.Rows PySem.Spec
open Evl (Ex)
section
variable {X : Cx} {M : Mk0} {k : Nat} {f : Addr} {fd : FuncData} {ps : List Str} {n : Nat} {W : FE} {x : Str} {p pos : Pos}
/-- a call without arguments -/
def fCall0 (W : FE) : FE := fun ρ k => W ⟨[], ρ.n⟩ fun d ρ2 => k d ⟨ρ.sl, ρ2.n⟩
end
end PD
namespace PD
open PySem L2 PyProof.Rows PySem.Spec TL
open Evl (Ex)
theorem comp_allD {g : FG} {fe : FE} {vs : List Nat} {ρ : Rho} {k : List D → Rho → Prop} (f : D → D) (xs : List D) (s : ∀ x ∈ xs, ∀ kt : D → Rho → Prop, (∀ ρ3 : Rho, ρ3.n = ρ.n → kt (f x) ρ3) → g x (wipeR vs ρ) fun ρ1 => fe ρ1 kt)
    (q : k (xs.map f) ρ) : compD g ftYes fe vs xs [] ρ k := by
  have := comp_all (g := g) (fe := fe) (vs := vs) (ρ := ρ) (k := k) id f xs s q
  rwa [List.map_id] at this
structure Neat (x : D) (dep wt : Nat) : Prop where
  t : tame x = true
  d : x.depth ≤ dep
  w : x.weight ≤ wt
theorem Neat.mono {d : D} {a b a' b' : Nat} (h : Neat d a b) (ha : a ≤ a') (hb : b ≤ b') : Neat d a' b' := ⟨h.t, Nat.le_trans h.d ha, Nat.le_trans h.w hb⟩
end PD
namespace PD
open PySem L2 PyProof.Rows PySem.Spec
open Evl (Ex)
abbrev XC := Value → List (D × D) → Rho → Prop
abbrev FX := Rho → XC → Prop
def KX (K : Fr0) (M : Mk0) (P : Option Addr) (F : Hp) (L : List Addr) (H : Hp) (W : WX) : XC := fun c fl ρ' => ∀ (σ' : L2.St) (L' : List Addr) (H' : Hp) (d : Option Addr), Ex (hide L H) (hide L' H') → R K M P F L' ρ' σ' H' → XAt K (hide L' H') d fl → W c d σ' H'
def KE (K : Fr0) (M : Mk0) (P : Option Addr) (F : Hp) (L : List Addr) (σ : L2.St) (H : Hp) (E : XK) : XC := fun c fl ρ' => ∀ (L' : List Addr) (H' : Hp) (d : Option Addr), Ex (hide L H) (hide L' H') → R K M P F L' ρ' σ H' → XAt K (hide L' H') d fl → E c d H'
def DX (K : Fr0) (M : Mk0) (W : WX) (f : FX) (σ : L2.St) (H : Hp) : Prop := ∃ P F L ρ, R K M P F L ρ σ H ∧ f ρ (KX K M P F L H W)
/-- an expression that does not end, but raises -/
structure PX (X : Cx) (M : Mk0) (W : WX) (e : Expr) (f : FX) : Prop where
  pe : PE X e (fun σ H _ => DX X.k0 M W f σ H)
  mono : ∀ ρ k k', (∀ c fl ρ', k c fl ρ' → k' c fl ρ') → f ρ k → f ρ k'
/-- arguments, one of which raises -/
structure PXL (X : Cx) (M : Mk0) (W : WX) (es : List Expr) (f : FX) : Prop where
  pa : PA X es (fun σ H _ => DX X.k0 M W f σ H)
  mono : ∀ ρ k k', (∀ c fl ρ', k c fl ρ' → k' c fl ρ') → f ρ k → f ρ k'
structure PR (X : Cx) (M : Mk0) (W : WX) (st : Stmt) (f : FX) : Prop where
  ps : PS X st (fun _ σ H => DX X.k0 M W f σ H)
  mono : ∀ ρ k k', (∀ c fl ρ', k c fl ρ' → k' c fl ρ') → f ρ k → f ρ k'
structure PRs (X : Cx) (M : Mk0) (W : WX) (ss : List Stmt) (f : FX) : Prop where
  ps : PSs X ss (fun _ σ H => DX X.k0 M W f σ H)
  mono : ∀ ρ k k', (∀ c fl ρ', k c fl ρ' → k' c fl ρ') → f ρ k → f ρ k'
theorem pe_or {X : Cx} {e : Expr} {t u : TE} (h : PE X e t) (g : PE X e u) : PE X e (fun σ H Q => t σ H Q ∨ u σ H Q) := ⟨fun pins s σ H Q I q => q.elim (h.run pins s σ H Q I) (g.run pins s σ H Q I)⟩
theorem pss_or {X : Cx} {ss : List Stmt} {t u : TS} (h : PSs X ss t) (g : PSs X ss u) : PSs X ss (fun D σ H => t D σ H ∨ u D σ H) := ⟨fun pins s σ H D I q => q.elim (h.run pins s σ H D I) (g.run pins s σ H D I)⟩
section
variable {K : Fr0} {M : Mk0} {W : WX} {f g : FX}
def fxOr (f g : FX) : FX := fun ρ k => f ρ k ∨ g ρ k
def fxNo : FX := fun _ _ => False
theorem DX.or {σ : L2.St} {H : Hp} (h : DX K M W (fxOr f g) σ H) : DX K M W f σ H ∨ DX K M W g σ H := by
  obtain ⟨P, F, L, ρ, r, q⟩ := h
  exact q.elim (fun z => .inl ⟨P, F, L, ρ, r, z⟩) fun z => .inr ⟨P, F, L, ρ, r, z⟩
theorem KX.later {P : Option Addr} {F : Hp} {L L1 : List Addr} {H H1 : Hp} (e : Ex (hide L H) (hide L1 H1)) (c : Value) (fl : List (D × D)) (ρ' : Rho) (q : KX K M P F L H W c fl ρ') : KX K M P F L1 H1 W c fl ρ' :=
  fun σ' L' H' d e' r x => q σ' L' H' d (e.trans e') r x
end
section
variable {X : Cx} {M : Mk0} {W : WX} {e a b c : Expr} {es : List Expr} {st : Stmt} {ss tt : List Stmt} {fa fb : FE} {ft : FT} {fl : FL} {fs fs' : FS} {f g : FX} {pos p : Pos}
theorem prs_or (h : PRs X M W ss f) (h' : PRs X M W ss g) : PRs X M W ss (fxOr f g) :=
  ⟨PSs.wk (pss_or h.ps h'.ps) fun _ _ _ q => q.or, fun ρ k k' le q => q.elim (fun z => .inl (h.mono ρ k k' le z)) fun z => .inr (h'.mono ρ k k' le z)⟩
theorem prs_no (h : PDs X M ss fs) : PRs X M W ss fxNo := ⟨PSs.wk h.ps fun _ _ _ ⟨_, _, _, _, _, q⟩ => q.elim, fun _ _ _ _ q => q.elim⟩
/-- the first statement raises -/
theorem prs_hd (h : PR X M W st f) (hs : PDs X M ss fs) : PRs X M W (st :: ss) f := ⟨PSs.wk (pss_cons h.ps hs.ps) fun _ _ _ q => q, h.mono⟩
/-- the first one runs through, a later one raises -/
def fxThen (fs : FS) (g : FX) : FX := fun ρ k => fs ρ { nx := fun ρ1 => g ρ1 k, rt := fun _ _ => False }
theorem prs_tl (h : PDS X M st fs) (hs : PRs X M W ss g) : PRs X M W (st :: ss) (fxThen fs g) := by
  refine ⟨PSs.wk (pss_cons h.ps hs.ps) fun D σ H ⟨P, F, L, ρ, r, q⟩ => ?_, fun ρ k k' le q => h.mono ρ { nx := fun ρ1 => g ρ1 k, rt := fun _ _ => False } { nx := fun ρ1 => g ρ1 k', rt := fun _ _ => False } ⟨fun ρ1 z => hs.mono _ _ _ le z, fun _ _ z => z, fun _ z => z, fun _ z => z⟩ q⟩
  refine ⟨P, F, L, ρ, r, h.mono _ _ _ ⟨fun ρ1 z σ1 L1 H1 e1 r1 => ?_, fun _ _ z => False.elim z, fun _ z => False.elim z, fun _ z => False.elim z⟩ q⟩
  exact ⟨P, F, L1, ρ1, r1, hs.mono _ _ _ (KX.later e1) z⟩
/-- if: what its suites raise -/
def fxIf (ft : FT) (f g : FX) : FX := fun ρ k => ft ρ fun b ρ1 => if b = true then f ρ1 k else g ρ1 k
theorem pr_if (ht : PDT X M c ft) (h : PRs X M W ss f) (h' : PRs X M W tt g) : PR X M W (.If c ss tt pos) (fxIf ft f g) := by
  refine ⟨PS.wk (ps_if ht.pt h.ps h'.ps) fun D σ H ⟨P, F, L, ρ, r, q⟩ => ?_, fun ρ k k' le q => ht.mono _ _ _ (fun b ρ1 z => ?_) q⟩
  · refine ⟨P, F, L, ρ, r, ht.mono _ _ _ (fun b ρ1 z L1 H1 e1 r1 => ?_) q⟩
    cases b with
    | true => exact ⟨P, F, L1, ρ1, r1, h.mono _ _ _ (KX.later e1) z⟩
    | false => exact ⟨P, F, L1, ρ1, r1, h'.mono _ _ _ (KX.later e1) z⟩
  · cases b with
    | true => exact h.mono _ _ _ le z
    | false => exact h'.mono _ _ _ le z
theorem pr_expr (h : PX X M W e f) (hs : swapsWith e none pos.line X.env = pure false := by rfl) : PR X M W (.Expr e pos) f := ⟨PS.wk (ps_expr h.pe hs) fun _ _ _ q => q, h.mono⟩
theorem pr_ret (h : PX X M W e f) : PR X M W (.Return (some e) pos) f := ⟨PS.wk (ps_ret h.pe) fun _ _ _ q => q, h.mono⟩
end
def spX (K : Fr0) (M : Mk0) (n : Nat) (V : FE) (U : FX) : Sp := fun vs H Q E => ∃ P F L ρ, R K M P F L ρ (vs.map some) H ∧ Bare ρ ∧ ρ.sl.length = n ∧ (V ρ (KV' K M P F L (vs.map some) H Q) ∨ U ρ (KE K M P F L (vs.map some) H E))
def spU (K : Fr0) (M : Mk0) (n : Nat) (U : FX) : Sp := fun vs H _ E => ∃ P F L ρ, R K M P F L ρ (vs.map some) H ∧ Bare ρ ∧ ρ.sl.length = n ∧ U ρ (KE K M P F L (vs.map some) H E)
section
variable {P : Program} {w : World} {K : PySem.W.Frag} {mg : Str → Option Value} {base : Heap} {k : Nat} {f : Addr} {fd : FuncData} {ps N : List Str} {M : Mk0} {fs : FS} {V V' : FE} {U U' : FX} {n : Nat}
theorem FnG.left (G : FnG P w K mg base (L2.CX P w) k f fd ps (spX ⟨K, w, P⟩ M n V U)) : FnG P w K mg base (L2.CX P w) k f fd ps (spD ⟨K, w, P⟩ M n V) :=
  G.imp fun vs H Q E ⟨P', F, L, ρ, r, hb, hl, q⟩ => ⟨P', F, L, ρ, r, hb, hl, .inl q⟩
theorem FnG.right (G : FnG P w K mg base (L2.CX P w) k f fd ps (spX ⟨K, w, P⟩ M n V U)) : FnG P w K mg base (L2.CX P w) k f fd ps (spU ⟨K, w, P⟩ M n U) :=
  G.imp fun vs H Q E ⟨P', F, L, ρ, r, hb, hl, q⟩ => ⟨P', F, L, ρ, r, hb, hl, .inr q⟩
theorem spX_imp {K : Fr0} (h : ∀ ρ k, V' ρ k → V ρ k) (h' : ∀ ρ k, U' ρ k → U ρ k) (vs : List L2.V) (H : Hp) (Q : VK) (E : XK) (q : spX K M n V' U' vs H Q E) : spX K M n V U vs H Q E := by
  obtain ⟨P, F, L, ρ, r, hb, hl, q⟩ := q
  exact ⟨P, F, L, ρ, r, hb, hl, q.elim (fun z => .inl (h _ _ z)) fun z => .inr (h' _ _ z)⟩
def fBodyX (nN : Nat) (fr : FX) : FX := fun ρ k => fr ⟨ρ.sl ++ List.replicate (nN - ρ.sl.length) .no, ρ.n⟩ fun c fl ρ' => k c fl ⟨ρ.sl, ρ'.n⟩
theorem fnX {x qual : Str} {st : Stmt} {fr : FX} (F : Fun K x qual st f fd) (S : FnScope N ps (defScope st))
    (body : ∀ (X : Cx) (cdv : Value) (A : Around) (outer : List Env) (s : Shared) (H : Hp) (E : XK), X = cxOf (L2.CX P w) P w K mg base N qual (defScope st) f cdv A outer s H E → A.guards = some [] → Room k (A.deeper (envOfC qual (defScope st) s.heap.objs.size f cdv)) →
      Takes X (fun c d _ H' => E c d H') → PassesOwn (model P w) X.A X.env X.xe → PDs X M (defBody st) fs ∧ PRs X M (fun c d _ H' => E c d H') (defBody st) fr) :
    FnG P w K mg base (L2.CX P w) (k + 1) f fd ps (spX ⟨K, w, P⟩ M ps.length (fBody N.length fs) (fBodyX N.length fr)) := by
  refine fnG_of F S (fun vs H Q E ⟨P', F', L, ρ, r, hb, hl, _⟩ => ?_) fun cdv A outer s H vs Q E hg hr ⟨P', F', L, ρ, r, hb, hl, hw⟩ => ?_
  · have := r.len
    rw [List.length_map] at this
    omega
  · obtain ⟨B, C⟩ := body _ cdv A outer s H E rfl hg hr (takes_of rfl rfl rfl rfl) (passes_of rfl)
    refine ⟨_, pss_or B.ps C.ps, ?_⟩
    rcases hw with hw | hw
    · refine .inl ⟨P', F', L, _, r.start hb N, B.mono _ _ _ ⟨fun ρ' q σ' L' H' e' r' => ?_, fun d ρ' q v σ' L' H' e' r' d' => ?_, fun _ (q : False) => q.elim, fun _ (q : False) => q.elim⟩ hw⟩
      · exact q .non L' H' e' (r.swap hb r' e') .non
      · exact q v L' H' e' (r.swap hb r' e') d'
    · exact .inr ⟨P', F', L, _, r.start hb N, C.mono _ _ _ (fun c fl ρ' q σ' L' H' d e' r' x => q L' H' d e' (r.swap hb r' e') x) hw⟩
end
section
variable {X : Cx} {M : Mk0} {W : WX} {k : Nat} {f : Addr} {fd : FuncData} {ps : List Str} {n : Nat} {U : FX} {x : Str} {p pos : Pos} {e : Expr} {es : List Expr} {fa : FA} {sp : Sp} {t : TA}
/-- .. called where a wish about exceptions is known at each state -/
theorem run_fnGW {pins : List (Addr × Obj)} {σ : L2.St} {H : Hp} {s : Shared} {Q : VK} {us : List Value} {vs : List V} {E : XK} (G : FnG X.prog X.w X.K X.mg X.base (L2.CX X.prog X.w) k f fd ps sp) (hgd : X.A.guards = some []) (hr : Room k X.A) (hb : Binds X.K fd ps [])
    (hx : PassesAt (L2.CX X.prog X.w) X σ E) (I : Inv X pins σ H s) (r : Vals vs us) (h : sp vs H Q E) : wpAny (model X.prog X.w) X.A (call (.ref f) us) (EP X pins σ Q) X.xe s := by
  have hl : (us ++ []).length = ps.length := by rw [List.append_nil, ← r.length]; exact G.len _ _ _ _ h
  have bi := hb s us I.kIn hl
  rw [List.append_nil] at bi
  refine wpAny_call (codeAny_mono (G.go X.A X.stack s H ⟨us, []⟩ us vs Q E hgd hr I.env0 bi r h) fun res sB hq => ?_)
  cases res with
  | error ex => exact hx pins H s ex sB I hq
  | ok fl =>
    cases fl with
    | ret u => exact I.after hq
    | next => exact hq.elim
    | brk => exact hq.elim
    | cont => exact hq.elim
def tCallW (sp : Sp) (W : WX) (t : TA) : TE := fun σ H Q => t σ H fun vs H1 => sp vs H1 Q (WE W σ)
theorem pe_callW (tk : Takes X W) (G : FnG X.prog X.w X.K X.mg X.base (L2.CX X.prog X.w) k f fd ps sp) (hgd : X.A.guards = some []) (hr : Room k X.A) (hg : Gl X x) (hm : X.mg x = some (.ref f)) (hk : PySem.W.keepIn X.K (.ref f) = true) (hb : Binds X.K fd ps [])
    (ha : PA X (e :: es) t) (hdb : (x == ("__debug__" : Str)) = false := by decide) (he : starEach (e :: es) X.env = (false, eval e X.env) :: starEach es X.env := by rfl) (hpl : (backTo pos (starEach es X.env)).any (·.1) = false := by rfl) :
    PE X (.Call (.Name x p) (e :: es) [] pos) (tCallW sp W t) := by
  constructor
  intro pins s σ H Q I hw
  refine wpAny_Call_Name_kw (ld_glob I hg hm ?_ hdb)
  exact PySem.W.callWith_K (h₀ := X.base) I.ok.mod.kin hk (thn (ha.run pos pins s σ H _ I hw) fun us sA ⟨vs, HA, IA, rA, qA⟩ => ⟨IA.kIn, run_fnGW G hgd hr hb (passAt tk σ) IA rA qA⟩) he hpl
/-- a call that raises -/
def fxCall (n : Nat) (U : FX) (fa : FA) : FX := fun ρ k => fa ρ fun ss ρ1 => ss.length = n ∧ U ⟨ss, ρ1.n⟩ fun c fl ρ2 => k c fl ⟨ρ1.sl, ρ2.n⟩
theorem px_call (tk : Takes X W) (mU : ∀ ρ k k', (∀ c fl ρ', k c fl ρ' → k' c fl ρ') → U ρ k → U ρ k') (G : FnG X.prog X.w X.K X.mg X.base (L2.CX X.prog X.w) k f fd ps (spU X.k0 M n U)) (hgd : X.A.guards = some []) (hr : Room k X.A) (hg : Gl X x) (hm : X.mg x = some (.ref f))
    (hk : PySem.W.keepIn X.K (.ref f) = true) (hb : Binds X.K fd ps []) (ha : PDA X M (e :: es) fa) (hdb : (x == ("__debug__" : Str)) = false := by decide) (he : starEach (e :: es) X.env = (false, eval e X.env) :: starEach es X.env := by rfl)
    (hpl : (backTo pos (starEach es X.env)).any (·.1) = false := by rfl) : PX X M W (.Call (.Name x p) (e :: es) [] pos) (fxCall n U fa) := by
  refine ⟨PE.wk (pe_callW tk G hgd hr hg hm hk hb ha.pa hdb he hpl) fun σ H Q ⟨P, F, L, ρ, r, q⟩ => ?_, fun ρ k k' g q => ha.mono _ _ _ (fun ss ρ1 q => ⟨q.1, mU _ _ _ (fun c fl ρ2 q => g _ _ _ q) q.2⟩) q⟩
  refine ⟨P, F, L, ρ, r, ha.mono _ _ _ (fun ss ρ1 q vs L1 H1 e1 r1 hl hs hbare => ?_) q⟩
  have r2 : R X.k0 M P (keepF ρ1 σ F H1) L1 ⟨ss, ρ1.n⟩ (vs.map some) H1 := r1.frame hbare rfl (by simpa using hl) fun i s o g1 g2 => by
    rw [List.getElem?_map] at g2
    cases ev : vs[i]? with
    | none => rw [ev] at g2; cases g2
    | some v =>
      rw [ev] at g2
      cases g2
      exact hs i s v g1 ev
  refine ⟨P, _, L1, _, r2, hbare, q.1, mU _ _ _ (fun c fl ρ2 q2 L2' H2 d e2 r3 x2 => ?_) q.2⟩
  exact q2 σ L2' H2 d (e1.trans e2) (r1.back r3 e2) x2
end
end PD
namespace PD
open PySem L2 PyProof.Rows PySem.Spec
open Evl (Ex)
def spExA (C : Addr) (nm : Str) : Sp := fun vs H Q _ => ∃ a v, vs = [.ref a, v] ∧ H a = some (exo a C none) ∧ ∀ dx, H dx = none → dx ≠ a → Q .non (upd (upd H dx (exd dx [(nm, v)])) a (exo a C (some dx)))
def spExN (C : Addr) : Sp := fun vs H Q _ => ∃ a v, vs = [.ref a, v] ∧ H a = some (exo a C none) ∧ Q .non H
/-- what the written part says of such a class and its __init__ -/
structure ExC (K : PySem.W.Frag) (C fI : Addr) : Prop where
  T : OexC K C
  iC : PySem.W.findIn K (.ref C) "__init__" = some (some (.ref fI))
  tI : PySem.W.typeIn K (.ref fI) = some (.type "function")
section
variable {X : Cx} {e : Expr} {es : List Expr} {ta : TA} {p pos : Pos}
/-- made, nothing kept: let go -/
theorem let_go {pins : List (Addr × Obj)} {σ : L2.St} {H1 H2 : Hp} {hp hp2 h2 : Heap} {g1 g2 : Array GenState} {d1 d2 : Drawn} {t1 t2 : Nat} {os1 os2 : OsState} {a C : Addr} (I1 : Inv X pins σ H1 ⟨hp, g1, d1, t1, os1⟩)
    (ha : hp.objs.size ≤ a) (k : ∀ b o, hp.get? b = some o → hp2.get? b = some o) (un : Un (frs X.stack) [] (upd H1 a (exo a C none)) H2 hp2 h2) (hok : HOk X.prog X.w H2 h2) (ho : os2 = os1) (hb : AllBare g2)
    (ea : H2 a = some (exo a C none)) :
    ∃ (t0 : Addr) (G : Heap), Inv X pins σ (L2.del H2 a) ⟨G, g2, d2, t2, os2⟩ ∧ (∀ b o, G.get? b = some o → h2.get? b = some o) ∧ G.get? a = none ∧
      h2.get? a = some ({ cls := .ref C, dict := none, data := .fields #[.ref t0, .none, .none, .none, .bool false, .none] } : Obj) := by
  obtain ⟨t0, hoe⟩ := exo_at hok ea
  have hn : H1 a = none := I1.hok.fresh ha
  obtain ⟨G, onG, offG⟩ := restrict h2 fun b => decide (b ≠ a)
  have gk : ∀ {b}, b ≠ a → G.get? b = h2.get? b := fun {b} hb => onG b (decide_eq_true hb)
  have ge : G.get? a = none := offG a (by simp)
  have away : ∀ {b : Addr} {o : Obj}, hp.get? b = some o → b ≠ a := fun {b o} z => Nat.ne_of_lt (Nat.lt_of_lt_of_le (Heap.lt_size z) ha)
  have up : ∀ {b : Addr}, b ≠ a → H1 b = none → upd H1 a (exo a C none) b = none := fun {b} hb n => (upd_ne hb).trans n
  have away2 : ∀ {b : Addr} {u : HO}, H1 b = some u → b ≠ a := fun {b u} z => ne_of_none z hn
  have U : Un (frs X.stack) [] H1 (L2.del H2 a) hp G := by
    refine ⟨fun b o z n hf hx => (gk (away z)).trans (un.keep b o (k b o z) (up (away z) n) hf hx), fun b o z n hf hx => ?_, fun b o z n hx => (del_ne (away z)).trans (un.free b o (k b o z) (up (away z) n) hx), fun b o z hx => ?_, fun b xs z => ?_, fun b o v z => ?_, fun b ps z => ?_⟩
    · rw [gk (away z)]; exact un.slot b o (k b o z) (up (away z) n) hf hx
    · rw [gk (away z)]; exact un.there b o (k b o z) hx
    · rw [del_ne (away2 z)]; exact un.tups b xs ((upd_ne (away2 z)).trans z)
    · rw [del_ne (away2 z)]; exact un.frzs b o v ((upd_ne (away2 z)).trans z)
    · rw [del_ne (away2 z)]; exact un.tbls b ps ((upd_ne (away2 z)).trans z)
  have noa : ∀ {c b : Addr}, H2 c = some (.own b) → c ≠ a := fun {c b} hc => at_ne ea hc exo_own
  have hok3 : HOk X.prog X.w (L2.del H2 a) G := fun b o z => by
    have hba : b ≠ a := fun e => by rw [e, del_same] at z; cases z
    rw [del_ne hba] at z
    refine (hok b o z).stay (fun c v hc y => ?_) (fun c hc => (del_ne (noa hc)).trans hc) (fun c xs hc => (del_ne (at_ne ea hc exo_tup)).trans hc)
    rw [gk (hc.elim (fun hc => hc ▸ hba) fun hc => noa hc)]
    exact y
  have J : Inv X pins σ (L2.del H2 a) ⟨G, g2, d2, t2, os2⟩ := I1.call' (ch := []) ho U hok3 hb (fun b z => absurd z (by simp))
  refine ⟨t0, G, J, fun b o z => ?_, ge, hoe⟩
  by_cases hba : b = a
  · rw [hba, ge] at z; cases z
  · exact (gk hba).symm.trans z
def tMkN (C : Addr) (sp : Sp) (ta : TA) : L2.St → Hp → XK → Prop := fun σ H Q => ta σ H fun vs H1 => vs.length ≤ 1000 ∧ ∀ a, H1 a = none → sp (.ref a :: vs) (upd H1 a (exo a C none))
  (fun v H2 => v = .non ∧ H2 a = some (exo a C none) ∧ Q (.ref C) none (L2.del H2 a)) (fun _ _ _ => False)
theorem pmk_bare {CX : CXT} {x : Str} {C fI : Addr} {k : Nat} {fd : FuncData} {ps : List Str} {sp : Sp} (Z : ExC X.K C fI) (F1 : FnOk X.prog X.w X.K X.mg X.base CX k fI fd ps sp) (hr : Room (k + 1) X.A) (hb : Binds X.K fd ps [])
    (hx : Passes CX X (fun _ _ _ => False)) (hg : Gl X x) (hm : X.mg x = some (.ref C)) (ha : PA X (e :: es) ta)
    (hdb : (x == ("__debug__" : Str)) = false := by decide) (he : starEach (e :: es) X.env = (false, eval e X.env) :: starEach es X.env := by rfl) (hpl : (backTo pos (starEach es X.env)).any (·.1) = false := by rfl) :
    PMk X (.Call (.Name x p) (e :: es) [] pos) (tMkN C sp ta) := by
  intro pins s σ H Q I hw
  obtain ⟨nm, q, N, bs, bm, sn, sub, ab, col, dd, k0, k1, k2, k3, k5, hC, hbm⟩ := Z.T.cls
  refine wpAny_Call_Name_kw (ld_glob I hg hm ?_ hdb)
  refine PySem.W.callWith_K (h₀ := X.base) I.ok.mod.kin Z.T.kC (thn (ha.run pos pins s σ H _ I hw) fun us sA ⟨vs, HA, IA, rA, hz, qA⟩ => ⟨IA.kIn, ?_⟩) he hpl
  show wpAny _ _ (call (.ref C) us) _ _ _
  obtain ⟨hp, g, dr, tk, os⟩ := sA
  have big : hp.objs.size ≤ hp.objs.size + 1 := Nat.le_succ _
  have fresh : HA (hp.objs.size + 1) = none := IA.hok.fresh big
  have hq := qA (hp.objs.size + 1) fresh
  have kk : ∀ b o, hp.get? b = some o → ((hp.push (PySem.W.kdv_tup us)).push (PySem.HandSPX.excO C hp.objs.size)).get? b = some o := fun b o z => Heap.get?_push_of_some _ (Heap.get?_push_of_some _ z)
  have here : ((hp.push (PySem.W.kdv_tup us)).push (PySem.HandSPX.excO C hp.objs.size)).get? (hp.objs.size + 1) = some (PySem.HandSPX.excO C hp.objs.size) := by heap_get
  have IB : Inv X pins σ (upd HA (hp.objs.size + 1) (exo (hp.objs.size + 1) C none)) ⟨(hp.push (PySem.W.kdv_tup us)).push (PySem.HandSPX.excO C hp.objs.size), g, dr, tk, os⟩ :=
    IA.laid (t' := tk) (a := hp.objs.size + 1) (o := exo (hp.objs.size + 1) C none) (h' := (hp.push (PySem.W.kdv_tup us)).push (PySem.HandSPX.excO C hp.objs.size)) kk big (exo_ok here)
  have rB : Vals (V.ref (hp.objs.size + 1) :: vs) (Value.ref (hp.objs.size + 1) :: us) := .cons rfl rA
  have hl : ((Value.ref (hp.objs.size + 1) :: us) ++ []).length = ps.length := by
    rw [List.append_nil, ← rB.length]
    exact F1.len _ _ _ _ hq
  have bi := hb _ (Value.ref (hp.objs.size + 1) :: us) IB.kIn hl
  rw [List.append_nil] at bi
  have hus : us.length ≤ sizeLine := by
    rw [← Paired.length rA, sizeLine_eq]
    omega
  refine wpAny_call (PySem.HandSPX.call_own F.excBase_ValueError (fun Y => PySem.HandSPX.refsVE_contains Y bm hbm) (IA.kIn _ _ hC) (PySem.W.looks_findIn IA.kIn Z.iC) (fun self => PySem.W.bind_fn IA.kIn self Z.tI) hus
    (codeAny_mono (F1.run _ X.stack _ _ ⟨Value.ref (hp.objs.size + 1) :: us, []⟩ (Value.ref (hp.objs.size + 1) :: us) _ _ (fun _ _ _ => False) (hr.make C us []) (IB.env0.make C us []) bi rB hq) fun r sC hq' => ?_))
  cases r with
  | error er => exact hx pins σ _ _ er sC IB hq'
  | ok fl =>
    cases fl with
    | ret u =>
      obtain ⟨v, H2, os2, bare2, un2, hok2, rv, ev, ea, q2⟩ := hq'
      subst ev
      obtain ⟨h2, g2, d2, t2, os'⟩ := sC
      obtain ⟨t0, G, J, kG, ge, hoe⟩ := let_go (d2 := d2) (t2 := t2) IA big kk un2 hok2 os2 bare2 ea
      exact ⟨rv, _, _, _, ⟨G, g2, d2, t2, os'⟩, _, .ref C, none, rfl, J, kG, ge, hoe, ⟨rfl, rfl⟩, rfl, rfl, del_same, rfl, bare2, raises_own Z.T.exC Z.T.tyC, q2⟩
    | next => exact False.elim hq'
    | brk => exact False.elim hq'
    | cont => exact False.elim hq'
end
section
variable {X : Cx} {M : Mk0} {W : WX} {e : Expr} {fa : FE} {p pos rpos : Pos} {K : Fr0} {P : Option Addr} {F : Hp} {L : List Addr} {ρ : Rho} {σ : L2.St} {H : Hp}
/-- an object that comes and goes -/
theorem R.around {a : Addr} {o : HO} {H2 : Hp} (r : R K M P F L ρ σ H) (hn : H a = none) (e : ∀ b, b ≠ a → H2 b = H b) : R K M P F L ρ σ (L2.del H2 a) ∧ Ex (hide L H) (hide L (L2.del H2 a)) := by
  have z : L2.del H2 a = H := by
    funext b
    by_cases hb : b = a
    · rw [hb, del_same, hn]
    · rw [del_ne hb, e b hb]
  rw [z]
  exact ⟨r, Ex.refl _⟩
def fxRaise (c : Value) (nm : Option Str) (fa : FE) : FX := fun ρ k => fa ρ fun d ρ1 => k c (match nm with | some n => [(.str n, d)] | none => []) ρ1
theorem pr_raise {x nm : Str} {C fI : Addr} {fd : FuncData} {ps : List Str} {k : Nat} (hc : X.calm = true) (tk : Takes X W) (Z : ExC X.K C fI) (F1 : FnOk X.prog X.w X.K X.mg X.base (L2.CX X.prog X.w) k fI fd ps (spExA C nm)) (hr : Room (k + 1) X.A)
    (hb : Binds X.K fd ps []) (hg : Gl X x) (hm : X.mg x = some (.ref C)) (ha : PD X M e fa)
    (hdb : (x == ("__debug__" : Str)) = false := by decide) (he : starEach [e] X.env = (false, eval e X.env) :: starEach [] X.env := by rfl) :
    PR X M W (.Raise (some (.Call (.Name x p) [e] [] pos)) none rpos) (fxRaise (.ref C) (some nm) fa) := by
  refine ⟨PS.wk (ps_raise hc tk (pmk_oex (dvs := []) Z.T Z.iC Z.tI F1 hr hb .nil passF hg hm (pa_cons ha.pe pa_nil he) hdb he rfl)) fun D σ H ⟨P, F, L, ρ, r, q⟩ => ?_, fun ρ k k' le q => ha.mono _ _ _ (fun d ρ1 q => le _ _ _ q) q⟩
  refine ⟨P, F, L, ρ, r, ha.mono _ _ _ (fun d ρ1 q v L1 H1 e1 r1 d1 => ?_) q⟩
  refine ⟨by simp, fun a hn => ?_⟩
  refine ⟨a, v, rfl, upd_same, fun dx hdx ne => ?_⟩
  have hdx1 : H1 dx = none := by rw [upd_ne ne] at hdx; exact hdx
  refine ⟨rfl, dx, [(nm, v)], upd_same, by rw [upd_ne ne, upd_same], hdx1, ?_⟩
  have hz : upd (L2.del (upd (upd (upd H1 a (exo a C none)) dx (exd dx [(nm, v)])) a (exo a C (some dx))) a) dx (.xd [(nm, v)]) = upd H1 dx (.xd [(nm, v)]) := by
    funext b
    by_cases hb : b = dx
    · rw [hb, upd_same, upd_same]
    · rw [upd_ne hb, upd_ne hb]
      by_cases hba : b = a
      · rw [hba, del_same, hn]
      · rw [del_ne hba, upd_ne hba, upd_ne hb, upd_ne hba]
  rw [hz]
  have ex : Ex (hide L1 H1) (hide L1 (upd H1 dx (.xd [(nm, v)]))) := hide_ex (Ex.new hdx1)
  refine q σ L1 _ (some dx) (e1.trans ex) (r1.ex (Ex.new hdx1)) (.inr ⟨dx, _, rfl, ?_, .cons (dp_ex ex _ _ d1) .nil⟩)
  exact hide_some.mpr ⟨r1.notL hdx1, upd_same⟩
theorem pr_raise0 {x : Str} {C fI : Addr} {fd : FuncData} {ps : List Str} {k : Nat} (hc : X.calm = true) (tk : Takes X W) (Z : ExC X.K C fI) (F1 : FnOk X.prog X.w X.K X.mg X.base (L2.CX X.prog X.w) k fI fd ps (spExN C)) (hr : Room (k + 1) X.A)
    (hb : Binds X.K fd ps []) (hg : Gl X x) (hm : X.mg x = some (.ref C)) (ha : PD X M e fa)
    (hdb : (x == ("__debug__" : Str)) = false := by decide) (he : starEach [e] X.env = (false, eval e X.env) :: starEach [] X.env := by rfl) :
    PR X M W (.Raise (some (.Call (.Name x p) [e] [] pos)) none rpos) (fxRaise (.ref C) none fa) := by
  refine ⟨PS.wk (ps_raise hc tk (pmk_bare Z F1 hr hb passF hg hm (pa_cons ha.pe pa_nil he) hdb he rfl)) fun D σ H ⟨P, F, L, ρ, r, q⟩ => ?_, fun ρ k k' le q => ha.mono _ _ _ (fun d ρ1 q => le _ _ _ q) q⟩
  refine ⟨P, F, L, ρ, r, ha.mono _ _ _ (fun d ρ1 q v L1 H1 e1 r1 d1 => ?_) q⟩
  refine ⟨by simp, fun a hn => ?_⟩
  refine ⟨a, v, rfl, upd_same, rfl, upd_same, ?_⟩
  obtain ⟨r2, e2⟩ := r1.around (o := exo a C none) hn (H2 := upd H1 a (exo a C none)) fun b hb => upd_ne hb
  exact q σ L1 _ none (e1.trans e2) r2 (.inl ⟨rfl, rfl⟩)
end
end PD
namespace PD
open PySem L2 PyProof.Rows PySem.Spec
open Evl (Ex)
abbrev Cl := Value × Option Nat × (Addr → Value → Option Addr → TS)
/-- behind a named clause its name is gone -/
def unN (D : Ends) (i : Nat) : Ends := { nx := fun σ H => D.nx (σ.set i none) H, rt := D.rt, bk := fun σ H => D.bk (σ.set i none) H, ct := fun σ H => D.ct (σ.set i none) H }
def runCl (D : Ends) (oi : Option Nat) (ts : Addr → Value → Option Addr → TS) (a : Addr) (cls : Value) (d : Option Addr) (σ : L2.St) (H : Hp) : Prop := match oi with
  | none => ts a cls d D σ H
  | some i => ts a cls d (unN D i) (σ.set i (some (.ref a))) H
def wMix (K : PySem.W.Frag) (D : Ends) : List Cl → WX
  | [] => fun _ _ _ _ => False
  | (c, oi, ts) :: r => fun cls d σ H => ∃ b, PySem.W.exmOne K cls c = some b ∧ (b = true → ∀ a, H a = none → runCl D oi ts a cls d σ H) ∧ (b = false → wMix K D r cls d σ H)
inductive HdMix (X : Cx) : List ExceptHandler → List Cl → Prop
  | nil : HdMix X [] []
  | plain {x : Str} {c : Value} {ts : Addr → Value → Option Addr → TS} {b₀ : Stmt} {suite : List Stmt} {np hp : Pos} {hds : List ExceptHandler} {l : List Cl} (hc : Names X x c)
      (hsu : ∀ (a : Addr) (oe : Obj) (cls : Value) (d : Option Addr) (pn : List (Addr × Obj)), Zc cls d oe → (∃ vs, oe.data = .fields vs) → PSs (X.suite a ((a, oe) :: pn)) (b₀ :: suite) (ts a cls d)) (r : HdMix X hds l) :
      HdMix X (.ExceptHandler (some (.Name x np)) none (b₀ :: suite) hp :: hds) ((c, none, ts) :: l)
  | named {x n : Str} {i : Nat} {c : Value} {ts : Addr → Value → Option Addr → TS} {b₀ : Stmt} {suite : List Stmt} {np hp : Pos} {hds : List ExceptHandler} {l : List Cl} (hc : Names X x c) (hN : X.N.Nodup) (hi : X.N[i]? = some n) (hln : X.env.kindOf n = some .local)
      (hsu : ∀ (a : Addr) (oe : Obj) (cls : Value) (d : Option Addr) (pn : List (Addr × Obj)), Zc cls d oe → (∃ vs, oe.data = .fields vs) → PSs (X.suite a ((a, oe) :: pn)) (b₀ :: suite) (ts a cls d)) (r : HdMix X hds l) :
      HdMix X (.ExceptHandler (some (.Name x np)) (some n) (b₀ :: suite) hp :: hds) ((c, some i, ts) :: l)
section
variable {X : Cx} {body : List Stmt} {h₀ : ExceptHandler} {hds : List ExceptHandler} {l : List Cl} {pos : Pos} {tb : WX → TS}
/-- what a suite in hand needs of the state: the exception on the ground -/
structure Ground (X : Cx) (pins : List (Addr × Obj)) (σ : L2.St) (H : Hp) (sI : Shared) (B : Heap) (a : Addr) (cls : Value) (d : Option Addr) (h0 : Heap) (s : Shared) : Prop where
  J : Inv X pins σ H sI
  nb : ∀ b o, sI.heap.get? b = some o → b ∉ frs X.stack → B.get? b = some o
  up : sI.heap.UpToSlots h0
  fl : HandSPX.FlyingZ B (X.env :: X.outer) a (Zc cls d) h0
  os : s.os = sI.os
  ag : AllBare s.gens
  na : H a = none
theorem Ground.inv {pins : List (Addr × Obj)} {σ : L2.St} {H : Hp} {sI s : Shared} {B h0 : Heap} {a : Addr} {cls : Value} {d : Option Addr} (G : Ground X pins σ H sI B a cls d h0 s) : Inv X pins σ H { s with heap := h0 } :=
  G.J.landed G.nb G.fl.1 G.up G.os G.ag
theorem Ground.suite {pins : List (Addr × Obj)} {σ : L2.St} {H : Hp} {sI s : Shared} {B h0 : Heap} {a : Addr} {cls : Value} {d : Option Addr} (hf : X.env.frame = some X.env.locals) (G : Ground X pins σ H sI B a cls d h0 s) :
    ∃ oe, h0.get? a = some oe ∧ Zc cls d oe ∧ (∃ vs, oe.data = .fields vs) ∧ Inv (X.suite a ((a, oe) :: (X.pn ++ pins))) [] σ H { s with heap := h0 } := by
  obtain ⟨oe, vs, he, hz, hd⟩ := G.fl.there
  have off : a ∉ frs (X.env :: X.outer) := fun hm => by
    obtain ⟨_, ob, eb, hnf⟩ := G.fl.2.2.1.mem hm
    rw [he] at eb
    cases eb
    exact hnf vs hd
  have nL : a ≠ X.env.locals := fun z => off (List.mem_filterMap.mpr ⟨X.env, List.mem_cons_self, by rw [hf, z]⟩)
  have nF : a ∉ X.fs := fun hm => by
    obtain ⟨env, hin, q⟩ := List.mem_filterMap.mp hm
    exact off (List.mem_filterMap.mpr ⟨env, List.mem_cons_of_mem _ hin, q⟩)
  exact ⟨oe, he, hz, ⟨vs, hd⟩, G.inv.suite he hd G.na nL nF⟩
theorem handle_mix (hf : X.env.frame = some X.env.locals) {pins : List (Addr × Obj)} {σ : L2.St} {H : Hp} {sI s : Shared} {B h0 : Heap} {a : Addr} {cls : Value} {d : Option Addr} {D : Ends} (ok : X.Ok) (G : Ground X pins σ H sI B a cls d h0 s)
    (hk : HdMix X hds l) (wq : wMix X.K D l cls d σ H) : wpAny (model X.prog X.w) X.A (handleBy (.ref a) X.env hds) (SP X pins D) X.xe { s with heap := h0 } := by
  obtain ⟨oe3, he3, hz3, hd3, S3⟩ := G.suite hf
  have LT : PySem.W.Looks (model X.prog X.w) h0 (typeOf (.ref a)) cls := fun A Q E s' kp q => wpAny_typeOf_ref (kp _ _ he3) (by rw [hz3.1]; exact q)
  have asks : ∀ {x : Str} {np : Pos} {c : Value} {Q E : Value → Shared → Prop}, Names X x c → Q c { s with heap := h0 } → wpAny (model X.prog X.w) (X.A.mark (some (.ref a))) (eval (.Name x np) X.env) Q E { s with heap := h0 } := fun {x np c Q E} hc q => by
    obtain ⟨hg, hdbg, hm | ⟨hm, hv, hnn⟩⟩ := hc
    · exact ld_glob (X := X.suite a ((a, oe3) :: (X.pn ++ pins))) S3 hg hm q hdbg
    · exact ld_blt (X := X.suite a ((a, oe3) :: (X.pn ++ pins))) S3 hg hm hv q hnn hdbg
  induction hk with
  | nil => exact False.elim wq
  | @plain x c ts b₀ suite np hp hds2 l2 hc hsu r ih =>
    obtain ⟨b, hb1, hyes, hno⟩ := wq
    refine wpAny_handleBy_cons (codeAny_handlers_test (asks hc ((PySem.W.exm_one (M := model X.prog X.w) S3.kIn LT hb1).here ?_))) (by intro q; cases q)
    cases b with
    | false => exact ih (hno rfl)
    | true =>
      refine codeAny_handlers_suite (HandSPX.lands_againZ G.fl fun h4 fl4 up4 => ?_)
      have G4 : Ground X pins σ H sI B a cls d h4 s := ⟨G.J, G.nb, G.up.trans up4, fl4, G.os, G.ag, G.na⟩
      obtain ⟨oe4, he4, hz4, hd4, S4⟩ := G4.suite hf
      refine wpAny_mono ((hsu a oe4 cls d (X.pn ++ pins) hz4 hd4).run [] _ _ H _ S4 (hyes rfl a G.na)) (fun fo s6 hsp => ?_) (fun _ _ z => False.elim z)
      cases fo with
      | ret u =>
        obtain ⟨v6, σ6, H6, S6, r6, q6⟩ := hsp
        exact ⟨v6, σ6, H6, S6.unsuite ok, r6, q6⟩
      | next =>
        obtain ⟨σ6, H6, S6, q6⟩ := hsp
        exact ⟨σ6, H6, S6.unsuite ok, q6⟩
      | brk =>
        obtain ⟨σ6, H6, S6, q6⟩ := hsp
        exact ⟨σ6, H6, S6.unsuite ok, q6⟩
      | cont =>
        obtain ⟨σ6, H6, S6, q6⟩ := hsp
        exact ⟨σ6, H6, S6.unsuite ok, q6⟩
  | @named x n i c ts b₀ suite np hp hds2 l2 hc hN hi hln hsu r ih =>
    obtain ⟨b, hb1, hyes, hno⟩ := wq
    refine wpAny_handleBy_cons (codeAny_handlers_test (asks hc ((PySem.W.exm_one (M := model X.prog X.w) S3.kIn LT hb1).here ?_))) (by intro q; cases q)
    cases b with
    | false => exact ih (hno rfl)
    | true =>
      refine codeAny_handlers_suite_as (HandSPX.lands_againZ G.fl fun h4 fl4 up4 => ?_)
      have G4 : Ground X pins σ H sI B a cls d h4 s := ⟨G.J, G.nb, G.up.trans up4, fl4, G.os, G.ag, G.na⟩
      obtain ⟨oe4, he4, hz4, hd4, S4⟩ := G4.suite hf
      refine store_ok (X := X.suite a ((a, oe4) :: (X.pn ++ pins))) (v := .ref a) S4 hN hi (.inl hln) rfl (fun s5 S5 => ?_) (.inr hln)
      refine wpAny_mono ((hsu a oe4 cls d (X.pn ++ pins) hz4 hd4).run [] s5 _ H _ S5 (hyes rfl a G.na)) (fun fo s6 hsp => ?_) (fun _ _ z => False.elim z)
      have ends : ∀ {σ6 : L2.St} {H6 : Hp} {Q : Shared → Prop}, Inv (X.suite a ((a, oe4) :: (X.pn ++ pins))) [] σ6 H6 s6 → (∀ s7, Inv X pins (σ6.set i none) H6 s7 → Q s7) →
          wpAny (model X.prog X.w) X.A (do bindName X.env n .none; unbindBehindTheSuite X.env n hp) (fun _ s7 => Q s7) X.xe s6 := fun S6 hq => gone_ok (S6.unsuite ok) hN hi hln hq
      cases fo with
      | ret u =>
        obtain ⟨v6, σ6, H6, S6, r6, q6⟩ := hsp
        exact ends S6 fun s7 J7 => ⟨v6, _, H6, J7, r6, q6⟩
      | next =>
        obtain ⟨σ6, H6, S6, q6⟩ := hsp
        exact ends S6 fun s7 J7 => ⟨_, H6, J7, q6⟩
      | brk =>
        obtain ⟨σ6, H6, S6, q6⟩ := hsp
        exact ends S6 fun s7 J7 => ⟨_, H6, J7, q6⟩
      | cont =>
        obtain ⟨σ6, H6, S6, q6⟩ := hsp
        exact ends S6 fun s7 J7 => ⟨_, H6, J7, q6⟩
theorem ps_try_mix (hs : X.stack = X.env :: X.outer) (hf : X.env.frame = some X.env.locals)
    (hb : ∀ (W : WX) (pn : List (Addr × Obj)) (xe : Value → Shared → Prop), Takes (X.tr pn xe) W → PassesOwn (model X.prog X.w) X.A X.env xe → PSs (X.tr pn xe) body (tb W))
    (hh : HdMix X (h₀ :: hds) l) : PS X (.Try body (h₀ :: hds) [] [] pos) (fun D σ H => tb (wMix X.K D l) D σ H) := by
  constructor
  intro pins s σ H D I hw
  have ok := I.ok
  refine wpAny_Try_except (wpAny_mono ((hb (wMix X.K D l) (X.pn ++ pins) (fun e sA => wpAny (model X.prog X.w) X.A (noteFrame e X.env) (fun _ sB => wpAny (model X.prog X.w) X.A (setFlight e none) (fun _ sC =>
    wpAny (model X.prog X.w) X.A (handleBy e X.env (h₀ :: hds)) (SP X pins D) X.xe sC) X.xe sB) X.xe sA) (fun u sA xx => ?_) PassesOwn.looking).run [] s σ H D (I.toTry _) hw) (fun fo s1 hsp => ?_) (fun e s1 he => he))
  · obtain ⟨a, B, sI, pins', σ', H', cls, d, rfl, J', nb, up, sky, na, os, ag, w⟩ := xx
    have sky' : Sky B (X.env :: X.outer) a (Zc cls d) X.env.locals sA.heap := by rw [← hs]; exact sky
    exact Sky.land Zc.steady (by rw [ok.frames, hs]) hf sky' fun h3 fl3 up3 => handle_mix hf ok ⟨J'.ofTry ok, nb, up.trans up3, fl3, os, ag, na⟩ hh w
  · cases fo with
    | ret v =>
      obtain ⟨v, σ', H', J', r, q⟩ := hsp
      exact ⟨v, σ', H', J'.ofTry ok, r, q⟩
    | next =>
      obtain ⟨σ', H', J', q⟩ := hsp
      exact wpAny_execs_nil ⟨σ', H', J'.ofTry ok, q⟩
    | brk =>
      obtain ⟨σ', H', J', q⟩ := hsp
      exact ⟨σ', H', J'.ofTry ok, q⟩
    | cont =>
      obtain ⟨σ', H', J', q⟩ := hsp
      exact ⟨σ', H', J'.ofTry ok, q⟩
end
end PD
namespace PD
open PySem L2 PyProof.Rows PySem.Spec
open Evl (Ex)
abbrev ClD := Value × Option Nat × (Addr → Value → Option Addr → FS)
def fsUn (i : Nat) (P : Post) : Post := { nx := fun ρ => P.nx (ρ.set i .no), rt := P.rt, bk := fun ρ => P.bk (ρ.set i .no), ct := fun ρ => P.ct (ρ.set i .no) }
def fsClause (oi : Option Nat) (fs : Addr → Value → Option Addr → FS) (c : Value) (fl : List (D × D)) (ρ : Rho) (P : Post) : Prop := match oi with
  | none => ∀ a d, fs a c d ρ P
  | some i => ∀ a d, fs a c d (ρ.set i (.exc a d fl)) (fsUn i P)
def pick (K : PySem.W.Frag) : List ClD → Value → List (D × D) → Rho → Post → Prop
  | [], _, _, _, _ => False
  | (c0, oi, fs) :: r, c, fl, ρ, P => ∃ b, PySem.W.exmOne K c c0 = some b ∧ (b = true → fsClause oi fs c fl ρ P) ∧ (b = false → pick K r c fl ρ P)
def fsTry (K : PySem.W.Frag) (fb : FS) (fx : FX) (l : List ClD) : FS := fun ρ P => fb ρ P ∨ fx ρ fun c fl ρ1 => pick K l c fl ρ1 P
inductive HdD (X : Cx) (M : Mk0) : List ExceptHandler → List ClD → Prop
  | nil : HdD X M [] []
  | plain {x : Str} {c : Value} {fs : Addr → Value → Option Addr → FS} {b₀ : Stmt} {suite : List Stmt} {np hp : Pos} {hds : List ExceptHandler} {l : List ClD} (hc : Names X x c)
      (hsu : ∀ (a : Addr) (oe : Obj) (cls : Value) (d : Option Addr) (pn : List (Addr × Obj)), Zc cls d oe → (∃ vs, oe.data = .fields vs) → PDs (X.suite a ((a, oe) :: pn)) M (b₀ :: suite) (fs a cls d)) (r : HdD X M hds l) :
      HdD X M (.ExceptHandler (some (.Name x np)) none (b₀ :: suite) hp :: hds) ((c, none, fs) :: l)
  | named {x n : Str} {i : Nat} {c : Value} {fs : Addr → Value → Option Addr → FS} {b₀ : Stmt} {suite : List Stmt} {np hp : Pos} {hds : List ExceptHandler} {l : List ClD} (hc : Names X x c) (hN : X.N.Nodup) (hi : X.N[i]? = some n) (hln : X.env.kindOf n = some .local)
      (hsu : ∀ (a : Addr) (oe : Obj) (cls : Value) (d : Option Addr) (pn : List (Addr × Obj)), Zc cls d oe → (∃ vs, oe.data = .fields vs) → PDs (X.suite a ((a, oe) :: pn)) M (b₀ :: suite) (fs a cls d)) (r : HdD X M hds l) :
      HdD X M (.ExceptHandler (some (.Name x np)) (some n) (b₀ :: suite) hp :: hds) ((c, some i, fs) :: l)
def clV (K : Fr0) (M : Mk0) (l : List ClD) : List Cl := l.map fun z => (z.1, z.2.1, fun a cls d => DS K M (z.2.2 a cls d))
theorem HdD.mix {X : Cx} {M : Mk0} {hds : List ExceptHandler} {l : List ClD} (h : HdD X M hds l) : HdMix X hds (clV X.k0 M l) := by
  induction h with
  | nil => exact .nil
  | plain hc hsu r ih => exact .plain hc (fun a oe cls d pn z1 z2 => (hsu a oe cls d pn z1 z2).ps) ih
  | named hc hN hi hln hsu r ih => exact .named hc hN hi hln (fun a oe cls d pn z1 z2 => (hsu a oe cls d pn z1 z2).ps) ih
theorem fsUn_le {i : Nat} {P Q : Post} (h : Post.Le P Q) : Post.Le (fsUn i P) (fsUn i Q) := ⟨fun _ q => h.nx _ q, h.rt, fun _ q => h.bk _ q, fun _ q => h.ct _ q⟩
/-- each clause's reading grows with what is wished -/
def Grows (l : List ClD) : Prop := ∀ z ∈ l, ∀ a c d ρ P Q, Post.Le P Q → z.2.2 a c d ρ P → z.2.2 a c d ρ Q
theorem HdD.grows {X : Cx} {M : Mk0} {hds : List ExceptHandler} {l : List ClD} (h : HdD X M hds l) : Grows l := by
  have ob : ∀ (cls : Value) (d : Option Addr), Zc cls d ({ cls := cls, dict := d, data := .fields #[] } : Obj) := fun cls d => ⟨rfl, rfl⟩
  induction h with
  | nil => exact fun z hz => absurd hz List.not_mem_nil
  | plain hc hsu r ih =>
    intro z hz a c d
    rcases List.mem_cons.mp hz with e | hz
    · subst e
      exact (hsu a _ c d [] (ob c d) ⟨_, rfl⟩).mono
    · exact ih z hz a c d
  | named hc hN hi hln hsu r ih =>
    intro z hz a c d
    rcases List.mem_cons.mp hz with e | hz
    · subst e
      exact (hsu a _ c d [] (ob c d) ⟨_, rfl⟩).mono
    · exact ih z hz a c d
theorem pick_mono {K : PySem.W.Frag} {c : Value} {fl : List (D × D)} {ρ : Rho} {P Q : Post} (le : Post.Le P Q) : ∀ {l : List ClD}, Grows l → pick K l c fl ρ P → pick K l c fl ρ Q
  | [], _, q => q
  | (c0, oi, fs) :: r, g, ⟨b, h1, h2, h3⟩ => by
    refine ⟨b, h1, fun hb => ?_, fun hb => pick_mono le (fun z hz => g z (List.mem_cons_of_mem _ hz)) (h3 hb)⟩
    have q := h2 hb
    have m := g _ List.mem_cons_self
    cases oi with
    | none => exact fun a d => m a c d _ _ _ le (q a d)
    | some i => exact fun a d => m a c d _ _ _ (fsUn_le le) (q a d)
theorem pick_ok {K : Fr0} {M : Mk0} {P : Option Addr} {F : Hp} {L : List Addr} {H : Hp} {D : Ends} {c : Value} {fl : List (PD.D × PD.D)} {ρ : Rho} : ∀ {l : List ClD}, Grows l → pick K.f l c fl ρ (postOf K M P F L H D) → KX K M P F L H (wMix K.f D (clV K M l)) c fl ρ
  | [], _, q => q.elim
  | (c0, oi, fs) :: r, g, ⟨b, h1, h2, h3⟩ => by
    intro σ' L' H' d e rr x
    refine ⟨b, h1, fun hb a na => ?_, fun hb => pick_ok (fun z hz => g z (List.mem_cons_of_mem _ hz)) (h3 hb) σ' L' H' d e rr x⟩
    have q := h2 hb
    have m := g _ List.mem_cons_self
    cases oi with
    | none => exact ⟨P, F, L', ρ, rr, m a c d _ _ _ (postLe_frz e D) (q a d)⟩
    | some i =>
      refine ⟨P, F, L', _, rr.setD i (.exc a d fl) (some (.ref a)) ⟨rfl, x⟩ (fun xs z => nomatch z), m a c d _ _ _ ?_ (q a d)⟩
      have gone : ∀ {ρ2 : Rho} {σ2 : L2.St} {L2' : List Addr} {H2 : Hp}, R K M P F L2' ρ2 σ2 H2 → R K M P F L2' (ρ2.set i .no) (σ2.set i none) H2 := fun r2 => r2.setD i .no none trivial fun xs z => nomatch z
      exact ⟨fun ρ2 z σ2 L2' H2 e2 r2 => z _ L2' H2 (e.trans e2) (gone r2), fun d2 ρ2 z v σ2 L2' H2 e2 r2 dd => z v σ2 L2' H2 (e.trans e2) r2 dd, fun ρ2 z σ2 L2' H2 e2 r2 => z _ L2' H2 (e.trans e2) (gone r2), fun ρ2 z σ2 L2' H2 e2 r2 => z _ L2' H2 (e.trans e2) (gone r2)⟩
section
variable {X : Cx} {M : Mk0} {body : List Stmt} {h₀ : ExceptHandler} {hds : List ExceptHandler} {l : List ClD} {pos : Pos} {fb : FS} {fx : FX}
theorem pds_try (hs : X.stack = X.env :: X.outer) (hf : X.env.frame = some X.env.locals)
    (hb : ∀ (Y : Cx) (W : WX) (pn : List (Addr × Obj)) (xe : Value → Shared → Prop), Y = X.tr pn xe → Takes Y W → PassesOwn (model X.prog X.w) X.A X.env xe → PDs Y M body fb ∧ PRs Y M W body fx)
    (hh : HdD X M (h₀ :: hds) l) : PDS X M (.Try body (h₀ :: hds) [] [] pos) (fsTry X.K fb fx l) := by
  have gr := hh.grows
  obtain ⟨mb, mx⟩ : (∀ ρ k k', Post.Le k k' → fb ρ k → fb ρ k') ∧ ∀ ρ k k', (∀ c fl ρ', k c fl ρ' → k' c fl ρ') → fx ρ k → fx ρ k' := by
    obtain ⟨b1, b2⟩ := hb _ (fun _ _ _ _ => False) X.pn (fun _ _ => False) rfl takes_none5 PassesOwn.never
    exact ⟨b1.mono, b2.mono⟩
  refine ⟨PS.wk (ps_try_mix (tb := fun W D σ H => DS X.k0 M fb D σ H ∨ DX X.k0 M W fx σ H) hs hf (fun W pn xe tk po => ?_) hh.mix) fun D σ H ⟨P, F, L, ρ, r, q⟩ => ?_, fun ρ k k' le q => ?_⟩
  · obtain ⟨b1, b2⟩ := hb _ W pn xe rfl tk po
    exact pss_or b1.ps b2.ps
  · rcases q with q | q
    · exact .inl ⟨P, F, L, ρ, r, q⟩
    · exact .inr ⟨P, F, L, ρ, r, mx _ _ _ (fun c fl ρ1 z => pick_ok (K := X.k0) gr z) q⟩
  · exact q.elim (fun z => .inl (mb _ _ _ le z)) fun z => .inr (mx _ _ _ (fun c fl ρ1 y => pick_mono le gr y) z)
/-- e.f, e the caught exception -/
def lookF (n : Str) : List (D × D) → Option D
  | [] => none
  | (.str m, d) :: r => if m = n then some d else lookF n r
  | _ :: r => lookF n r
theorem lookF_ok {K : Fr0} {H : Hp} {n : Str} {x : D} : ∀ {fs : List (Str × V)} {fl : List (D × D)}, RpF K H fs fl → lookF n fl = some x → ∃ v, fs.lookup n = some v ∧ Rp K H v x
  | _, [], h, e => by cases e
  | _, (k, d) :: r, h, e => by
    cases h with
    | @cons m v fs _ _ h1 h2 =>
      have e : (if m = n then some d else lookF n r) = some x := e
      by_cases hm : m = n
      · rw [if_pos hm] at e
        cases e
        exact ⟨v, by simp [List.lookup, hm], h1⟩
      · rw [if_neg hm] at e
        obtain ⟨v', g1, g2⟩ := lookF_ok h2 e
        refine ⟨v', ?_, g2⟩
        have : (n == m) = false := by
          rw [beq_eq_false_iff_ne]
          exact fun z => hm z.symm
        simp [List.lookup, this, g1]
def fXf (a : Addr) (cls : Value) (d : Option Addr) (C : Addr) (i : Nat) (n : Str) : FE := fun ρ k => cls = .ref C ∧ ∃ fl x, ρ.sl[i]? = some (.exc a d fl) ∧ lookF n fl = some x ∧ k x ρ
theorem pd_xf {a C : Addr} {oe : Obj} {cls : Value} {d : Option Addr} {pn : List (Addr × Obj)} {i : Nat} {y n : Str} {py apos : Pos} (T : XfC X.K C) (hno : PySem.W.findIn X.K (.ref C) n = some none) (hz : Zc cls d oe) (hf : ∃ vs, oe.data = .fields vs)
    (he : PE (X.suite a ((a, oe) :: pn)) (.Name y py) (tVar i)) (hb : attributeBase (.Name y py) n X.env (eval (.Name y py) X.env) = eval (.Name y py) X.env := by rfl) :
    PD (X.suite a ((a, oe) :: pn)) M (.Attribute (.Name y py) n apos) (fXf a cls d C i n) := by
  refine ⟨PE.wk (pe_xf T hno hz hf he hb) fun σ H Q ⟨P, F, L, ρ, r, ec, fl, x, h1, h2, q⟩ => ?_, fun ρ k k' g ⟨ec, fl, x, h1, h2, q⟩ => ⟨ec, fl, x, h1, h2, g _ _ q⟩⟩
  have hi : i < σ.length := by rw [r.len]; exact (List.getElem?_eq_some_iff.mp h1).1
  obtain ⟨e1, e2⟩ := r.sl i _ _ h1 (List.getElem?_eq_getElem hi)
  refine ⟨.ref a, by rw [List.getElem?_eq_getElem hi, e1], rfl, ec, ?_⟩
  rcases e2 with ⟨z, _⟩ | ⟨dd, fs, g1, g2, g3⟩
  · subst z
    cases h2
  · obtain ⟨v, k1, k2⟩ := lookF_ok g3 h2
    exact ⟨dd, fs, v, g1, (hide_some.mp g2).2, k1, q v L H (Ex.refl _) r k2⟩
end
end PD
namespace PD
open PySem L2 PyProof.Rows PySem.Spec
open Evl (Ex)
section
variable {X : Cx} {pins : List (Addr × Obj)} {σ : L2.St} {H : Hp} {s : Shared}
mutual
/-- data that can be a key is that key, at its value -/
theorem nested_is (I : Inv X pins σ H s) : ∀ (d : D) (v : V) (u : Value) (k : NestedKey), Rp X.k0 H v d → RelV v u → keyN d = some k → NestedIs s.heap k u
  | .none, _, _, _, h, r, e => by
    cases h
    cases r
    cases e
    exact .none
  | .bool b, _, _, _, h, r, e => by
    cases h
    cases r
    cases e
    exact .bool rfl
  | .int i, _, _, _, h, r, e => by
    cases h
    obtain ⟨t, rfl⟩ := r
    cases e
    exact .int _ _
  | .str x, _, _, _, h, r, e => by
    cases h
    obtain ⟨t, rfl⟩ := r
    cases e
    exact .text _ _
  | .tuple ds, _, _, _, h, r, e => by
    rw [keyN] at e
    obtain ⟨ks, e1, rfl⟩ := Option.map_eq_some_iff.mp e
    cases h with
    | tup hs ha =>
      cases r
      obtain ⟨us, rv, ⟨o, ho, hc, n, hd⟩, _⟩ := I.tuple hs
      exact .tup ho hc hd (by simpa using nested_all I ds _ us ks ha rv e1)
  | .list _, _, _, _, _, _, e => by cases e
  | .dict _, _, _, _, _, _, e => by cases e
theorem nested_all (I : Inv X pins σ H s) : ∀ (ds : List D) (vs : List V) (us : List Value) (ks : List NestedKey), RpAll X.k0 H vs ds → Vals vs us → keyNs ds = some ks → NestedAll s.heap ks us
  | [], _, _, _, h, r, e => by
    cases h
    cases r
    cases e
    exact .nil
  | d :: ds, _, _, _, h, r, e => by
    rw [keyNs] at e
    cases h with
    | cons h1 h2 =>
      cases r with
      | cons r1 r2 =>
        split at e
        · rename_i k ks e1 e2
          cases e
          exact .cons (nested_is I d _ _ k h1 r1 e1) (nested_all I ds _ _ ks h2 r2 e2)
        · cases e
end
abbrev NX := List (NestedKey × Addr × V)
abbrev NY := List (NestedKey × Addr × Value)
/-- the same entries, in values of the heap -/
def SameN : NX → NY → Prop := Paired fun x y => x.1 = y.1 ∧ x.2.1 = y.2.1 ∧ RelV x.2.2 y.2.2
theorem sameN_keys : ∀ {xs : NX} {ys : NY}, SameN xs ys → ys.map (·.1) = xs.map (·.1)
  | _, _, .nil => rfl
  | _, _, .cons h t => by rw [List.map_cons, List.map_cons, h.1, sameN_keys t]
theorem sameN_of : ∀ {xs : NX} {us : List Value}, Vals (xs.map fun x => x.2.2) us → SameN xs ((xs.zip us).map fun p => (p.1.1, p.1.2.1, p.2))
  | [], _, h => by
    cases h
    exact .nil
  | x :: xs, _, h => by
    cases h with
    | cons r t => exact .cons ⟨rfl, rfl, r⟩ (sameN_of t)
theorem sameN_vals : ∀ {xs : NX} {ys : NY}, SameN xs ys → Vals (xs.map fun x => x.2.2) (ys.map fun y => y.2.2) ∧ (xs.zip (ys.map fun y => y.2.2)).map (fun p => (p.1.1, p.1.2.1, p.2)) = ys
  | _, _, .nil => ⟨.nil, rfl⟩
  | _, _, .cons h t => by
    obtain ⟨h1, h2⟩ := sameN_vals t
    obtain ⟨a, b, c⟩ := h
    exact ⟨.cons c h1, by rw [List.map_cons, List.zip_cons_cons, List.map_cons, h2, a, b]⟩
theorem ndo_obj {P : Program} {w : World} {h : Heap} {a : Addr} {xs : NX} {ys : NY} {H' : Hp} (hs : (a == sysModules) = false) (r : SameN xs ys) (m : h.DictOfH (nestedKind P w) a ys) (hz : xs.length ≤ sizeLine) : ∃ o, ObjOk P w H' h a (NdO w a o xs) := by
  obtain ⟨o, es, ep, h1, h2, h3, h4, _, h6⟩ := m
  obtain ⟨v1, v2⟩ := sameN_vals r
  refine ⟨o, ⟨h1, hs, h2, hz, by rw [← sameN_keys r]; exact h6, es, ep, ys.map (fun y => y.2.2), h3, v1, ?_⟩, ⟨o, h1⟩, fun ha hb ⟨g1, g⟩ k => ⟨k o g1, g⟩⟩
  have v3 := congrArg (List.map (entryOfKey (nestedKind P w))) v2
  rw [h4, ← v3, List.map_map]
  rfl
/-- a dict of ints and texts -/
theorem pairs_of {P : Program} {w : World} : ∀ {es : List DictEntry} {vs : List (Key × Value)}, Pairs (mixKind P w) es vs → Paired (fun (e : DictEntry) (kv : Key × Value) => keyIs kv.1 e.key = true ∧ e.val = kv.2) es vs
  | _, _, .nil => .nil
  | _, _, .cons h1 h2 t => .cons ⟨h1, h2⟩ (pairs_of t)
theorem of_pairs {P : Program} {w : World} : ∀ {es : List DictEntry} {vs : List (Key × Value)}, Paired (fun (e : DictEntry) (kv : Key × Value) => keyIs kv.1 e.key = true ∧ e.val = kv.2) es vs → Pairs (mixKind P w) es vs
  | _, _, .nil => .nil
  | _, _, .cons h t => .cons h.1 h.2 (of_pairs t)
theorem kdo_obj {P : Program} {w : World} {h : Heap} {a : Addr} {kvs : List (Key × V)} {vs : List (Key × Value)} {H' : Hp} (hs : (a == sysModules) = false) (r : KV kvs vs) (m : h.DictOf (mixKind P w) a vs) (hz : kvs.length ≤ sizeLine) : ∃ o, ObjOk P w H' h a (KdO w a o kvs) := by
  obtain ⟨o, es, ep, h1, h2, h3, h4, h5, h6⟩ := m
  exact ⟨o, ⟨h1, hs, h2, hz, es, ep, vs, h3, h4, pairs_of h5, h6, r⟩, ⟨o, h1⟩, fun ha hb ⟨g1, g⟩ k => ⟨k o g1, g⟩⟩
theorem kdo_get (I : Inv X pins σ H s) {a : Addr} {o : Obj} {kvs : List (Key × V)} (h : H a = some (KdO X.w a o kvs)) : (a == sysModules) = false ∧ kvs.length ≤ sizeLine ∧ ∃ vs, KV kvs vs ∧ s.heap.DictOf (mixKind X.prog X.w) a vs := by
  obtain ⟨⟨h1, hs, h2, hz, es, ep, vs, h3, h4, h5, h6, r⟩, _, _⟩ := (show ObjOk X.prog X.w H s.heap a (KdO X.w a o kvs) from I.hok a _ h)
  exact ⟨hs, hz, vs, r, o, es, ep, h1, h2, h3, h4, of_pairs h5, h6⟩
theorem rpn_keys (I : Inv X pins σ H s) : ∀ {xs : NX} {ps : List (D × D)}, RpN X.k0 H xs ps → ∀ x ∈ xs, (nestedKind X.prog X.w).is s.heap x.1 x.2.1
  | _, [], h, x, hx => by
    cases h
    cases hx
  | _, _ :: _, h, x, hx => by
    cases h with
    | cons h0 hd h1 h2 h3 =>
      rcases List.mem_cons.mp hx with e | hx
      · subst e
        exact ⟨nested_is I _ _ _ _ h1 rfl h0, hd⟩
      · exact rpn_keys I h3 x hx
/-- such a dict in the heap -/
theorem ndo_get (I : Inv X pins σ H s) {a : Addr} {o : Obj} {xs : NX} {ps : List (D × D)} (h : H a = some (NdO X.w a o xs)) (hp : RpN X.k0 H xs ps) :
    (a == sysModules) = false ∧ xs.length ≤ sizeLine ∧ ∃ ys, SameN xs ys ∧ s.heap.DictOfH (nestedKind X.prog X.w) a ys := by
  obtain ⟨⟨h1, hs, h2, h7, h6, es, ep, us, h3, h4, h5⟩, _, _⟩ := (show ObjOk X.prog X.w H s.heap a (NdO X.w a o xs) from I.hok a _ h)
  have r := sameN_of h4
  refine ⟨hs, h7, _, r, o, es, ep, h1, h2, h3, ?_, fun y hy => ?_, by rw [sameN_keys r]; exact h6⟩
  · rw [h5, List.map_map]
    rfl
  · obtain ⟨x, hx, e1, e2⟩ : ∃ x ∈ xs, x.1 = y.1 ∧ x.2.1 = y.2.1 := by
      obtain ⟨p, hp', rfl⟩ := List.mem_map.mp hy
      exact ⟨p.1, (List.of_mem_zip (show (p.1, p.2) ∈ _ from hp')).1, rfl, rfl⟩
    rw [← e1, ← e2]
    exact rpn_keys I hp x hx
def dAt (ps : List (D × D)) (k : NestedKey) : Option D := (ps.find? fun p => decide (keyN p.1 = some k)).map (·.2)
def dPut (ps : List (D × D)) (kd : D) (k : NestedKey) (v : D) : List (D × D) := if (dAt ps k).isSome then ps.map fun p => if keyN p.1 = some k then (p.1, v) else p else ps ++ [(kd, v)]
theorem at_none : ∀ {xs : NX} {ys : NY} {ps : List (D × D)} {k : NestedKey}, SameN xs ys → RpN X.k0 H xs ps → (dAt ps k = none ↔ atKey ys k = none)
  | _, _, _, _, .nil, h => by
    cases h
    exact ⟨fun _ => rfl, fun _ => rfl⟩
  | _ :: _, y :: _, _, k, .cons r t, h => by
    cases h with
    | @cons k0 b v xs d e ps h0 hd h1 h2 h3 =>
      have ih := at_none (k := k) t h3
      have ey : k0 = y.1 := r.1
      unfold dAt atKey at *
      rw [List.find?_cons, List.find?_cons]
      by_cases hk : k0 = k
      · rw [show decide (keyN d = some k) = true from decide_eq_true (by rw [h0, hk]), show decide (y.1 = k) = true from decide_eq_true (by rw [← ey, hk])]
        exact ⟨fun z => (by cases z), fun z => (by cases z)⟩
      · rw [show decide (keyN d = some k) = false from decide_eq_false (by rw [h0]; exact fun z => hk (Option.some.inj z)), show decide (y.1 = k) = false from decide_eq_false (by rw [← ey]; exact hk)]
        exact ih
theorem at_some : ∀ {xs : NX} {ys : NY} {ps : List (D × D)} {k : NestedKey} {e : D}, SameN xs ys → RpN X.k0 H xs ps → dAt ps k = some e → ∃ b v u, atKey ys k = some (b, u) ∧ RelV v u ∧ Rp X.k0 H v e
  | _, _, _, _, _, .nil, h, q => by
    cases h
    cases q
  | _ :: _, y :: _, _, k, e', .cons r t, h, q => by
    cases h with
    | @cons k0 b v xs d e ps h0 hd h1 h2 h3 =>
      have ey : k0 = y.1 := r.1
      unfold dAt at q
      rw [List.find?_cons] at q
      by_cases hk : k0 = k
      · rw [show decide (keyN d = some k) = true from decide_eq_true (by rw [h0, hk])] at q
        cases q
        refine ⟨y.2.1, v, y.2.2, ?_, r.2.2, h2⟩
        unfold atKey
        rw [List.find?_cons, show decide (y.1 = k) = true from decide_eq_true (by rw [← ey, hk])]
        rfl
      · rw [show decide (keyN d = some k) = false from decide_eq_false (by rw [h0]; exact fun z => hk (Option.some.inj z))] at q
        obtain ⟨b', v', u', g1, g2, g3⟩ := at_some (k := k) t h3 q
        refine ⟨b', v', u', ?_, g2, g3⟩
        unfold atKey at g1 ⊢
        rw [List.find?_cons, show decide (y.1 = k) = false from decide_eq_false (by rw [← ey]; exact hk)]
        exact g1
/-- stored: the same in data -/
theorem put_same {k : NestedKey} {v : V} {u : Value} (ru : RelV v u) : ∀ {xs : NX} {ys : NY}, SameN xs ys → SameN (xs.map fun x => if x.1 = k then (x.1, x.2.1, v) else x) (ys.map (putAt k u))
  | _, _, .nil => .nil
  | x :: _, y :: _, .cons r t => by
    refine .cons ?_ (put_same ru t)
    unfold putAt
    have ex : x.1 = y.1 := r.1
    by_cases hk : x.1 = k
    · rw [if_pos (show y.1 = k by rw [← ex, hk])]
      simp only [if_pos hk]
      exact ⟨ex, r.2.1, ru⟩
    · rw [if_neg (show ¬ y.1 = k by rw [← ex]; exact hk)]
      simp only [if_neg hk]
      exact r
theorem put_rp {K : Fr0} {k : NestedKey} {v : V} {e : D} (hv : Rp K H v e) : ∀ {xs : NX} {ps : List (D × D)}, RpN K H xs ps → RpN K H (xs.map fun x => if x.1 = k then (x.1, x.2.1, v) else x) (ps.map fun p => if keyN p.1 = some k then (p.1, e) else p)
  | _, [], h => by
    cases h
    exact .nil
  | _, _ :: _, h => by
    cases h with
    | @cons k0 b w xs d e0 ps h0 hd h1 h2 h3 =>
      have ih := put_rp (k := k) hv h3
      rw [List.map_cons, List.map_cons]
      by_cases hk : k0 = k
      · rw [if_pos hk, if_pos (show keyN d = some k by rw [h0, hk])]
        exact .cons h0 hd h1 hv ih
      · rw [if_neg hk, if_neg (show ¬ keyN d = some k by rw [h0]; exact fun z => hk (Option.some.inj z))]
        exact .cons h0 hd h1 h2 ih
theorem rpn_app {K : Fr0} : ∀ {xs zs : NX} {ps qs : List (D × D)}, RpN K H xs ps → RpN K H zs qs → RpN K H (xs ++ zs) (ps ++ qs)
  | _, _, [], _, h, g => by
    cases h
    exact g
  | _, _, _ :: _, _, h, g => by
    cases h with
    | cons h0 hd h1 h2 h3 => exact .cons h0 hd h1 h2 (rpn_app h3 g)
theorem rpn_len {K : Fr0} : ∀ {xs : NX} {ps : List (D × D)}, RpN K H xs ps → xs.length = ps.length
  | _, [], h => by
    cases h
    rfl
  | _, _ :: _, h => by
    cases h with
    | cons _ _ _ _ h3 => rw [List.length_cons, List.length_cons, rpn_len h3]
end
end PD
namespace PD
open PySem L2 PyProof.Rows PySem.Spec
open Evl (Ex)
def isTupK : D → Bool
  | .tuple _ => true
  | _ => false
/-- ints and texts -/
def isFlatK : D → Bool
  | .int _ => true
  | .str _ => true
  | _ => false
/-- a key of this depth, of the kind of the dict's keys -/
def keyOk (kd : D) (ps : List (D × D)) : Option NestedKey := match keyN kd with
  | some k => if (isTupK kd && ps.all fun p => isTupK p.1) || (isFlatK kd && ps.all fun p => isFlatK p.1) then (if k.depth ≤ 8 then some k else none) else none
  | none => none
theorem keyOk_of {kd : D} {ps : List (D × D)} {k : NestedKey} (h : keyOk kd ps = some k) : keyN kd = some k ∧ k.depth ≤ 8 ∧ ((isTupK kd = true ∧ (ps.all fun p => isTupK p.1) = true) ∨ (isFlatK kd = true ∧ (ps.all fun p => isFlatK p.1) = true)) := by
  unfold keyOk at h
  split at h
  · rename_i k' e
    split at h
    · rename_i hk
      split at h
      · rename_i hd
        cases h
        refine ⟨e, hd, ?_⟩
        rcases Bool.or_eq_true_iff.mp hk with z | z
        · exact .inl (Bool.and_eq_true_iff.mp z)
        · exact .inr (Bool.and_eq_true_iff.mp z)
      · cases h
    · cases h
  · cases h
section
variable {X : Cx} {pins : List (Addr × Obj)} {σ : L2.St} {H : Hp} {s : Shared} {K : Fr0}
/-- the key of a dict of ints and texts -/
theorem flatK_of {v : V} {kd : D} {k : NestedKey} (h : Rp K H v kd) (f : isFlatK kd = true) (e : keyN kd = some k) : ∃ kk : Key, v = kV kk ∧ ∀ (kk' : Key) (d : D), Rp K H (kV kk') d → (keyN d = some k ↔ kk' = kk) := by
  cases h with
  | int i =>
    cases e
    refine ⟨.inl i, rfl, fun kk' d hd => ?_⟩
    cases kk' with
    | inl j =>
      cases hd
      exact ⟨fun z => (by cases z; rfl), fun z => (by cases z; rfl)⟩
    | inr y =>
      cases hd
      exact ⟨fun z => (by cases z), fun z => (by cases z)⟩
  | str x =>
    cases e
    refine ⟨.inr x, rfl, fun kk' d hd => ?_⟩
    cases kk' with
    | inl j =>
      cases hd
      exact ⟨fun z => (by cases z), fun z => (by cases z)⟩
    | inr y =>
      cases hd
      exact ⟨fun z => (by cases z; rfl), fun z => (by cases z; rfl)⟩
  | non => cases f
  | bl _ => cases f
  | lst _ _ => cases f
  | tup _ _ => cases f
  | dct _ _ => cases f
  | dctN _ _ => cases f
  | obj _ _ => cases f
  | clo _ _ _ _ _ => cases f
theorem valV_at {k : NestedKey} {kk : Key} (hk : ∀ (kk' : Key) (d : D), Rp K H (kV kk') d → (keyN d = some k ↔ kk' = kk)) : ∀ {kvs : List (Key × V)} {ps : List (D × D)}, RpKv K H kvs ps →
    (dAt ps k = none ∧ valV kvs kk = none) ∨ ∃ v e, dAt ps k = some e ∧ valV kvs kk = some v ∧ Rp K H v e
  | _, [], h => by
    cases h
    exact .inl ⟨rfl, rfl⟩
  | _, _ :: _, h => by
    cases h with
    | @cons k0 v kvs d e ps h1 h2 h3 =>
      have ih := valV_at hk h3
      unfold dAt valV at *
      rw [List.find?_cons, List.find?_cons]
      by_cases q : k0 = kk
      · rw [show decide (keyN d = some k) = true from decide_eq_true ((hk _ _ h1).mpr q), show decide (k0 = kk) = true from decide_eq_true q]
        exact .inr ⟨v, e, rfl, rfl, h2⟩
      · rw [show decide (keyN d = some k) = false from decide_eq_false fun z => q ((hk _ _ h1).mp z), show decide (k0 = kk) = false from decide_eq_false q]
        exact ih
theorem kd_nil (I : Inv X pins σ H s) {a : Addr} {o : Obj} (h : H a = some (KdO X.w a o [])) : (a == sysModules) = false ∧ s.heap.DictOfH (nestedKind X.prog X.w) a [] := by
  obtain ⟨hs, _, vs, rel, o, es, ep, h1, h2, h3, h4, h5, _⟩ := kdo_get I h
  cases rel
  refine ⟨hs, o, es, ep, h1, h2, h3, ?_, fun x hx => absurd hx List.not_mem_nil, List.nodup_nil⟩
  cases q : es.toList with
  | nil => rfl
  | cons e r => rw [q] at h5; cases h5
theorem nd_nil (I : Inv X pins σ H s) {a : Addr} {o : Obj} (h : H a = some (NdO X.w a o [])) : (a == sysModules) = false ∧ s.heap.MapOf (mixKind X.prog X.w) a (fun _ => none) := by
  obtain ⟨⟨h1, hs, h2, _, _, es, ep, us, h3, h4, h5⟩, _, _⟩ := (show ObjOk X.prog X.w H s.heap a (NdO X.w a o []) from I.hok a _ h)
  have e0 : es = #[] := Array.toList_inj.mp (by rw [h5]; rfl)
  subst e0
  refine ⟨hs, o, #[], ep, h1, h2, h3, fun e he => absurd he (by simp), fun k => ?_⟩
  unfold findBy
  simp
/-- the look-ups of a dict of ints and texts -/
theorem kd_in (I : Inv X pins σ H s) {a : Addr} {o : Obj} {kvs : List (Key × V)} {kk : Key} {u : Value} {neg : Bool} (h : H a = some (KdO X.w a o kvs)) (ry : RelV (kV kk) u) {Q : Value → Shared → Prop} {E : Value → Shared → Prop}
    (q : ∀ s', Inv X pins σ H s' → Q (.bool (if neg = true then !(valV kvs kk).isSome else (valV kvs kk).isSome)) s') : wpAny (model X.prog X.w) X.A (compareOp (if neg = true then .NotIn else .In) u (.ref a)) Q E s := by
  obtain ⟨hs, _, vs, rel, dd⟩ := kdo_get I h
  cases neg with
  | false =>
    refine wpAny_in_of (kV_is ry) hs dd.mapOf ?_
    rw [← (rel.val kk).isSome_eq]
    exact q _ (I.tok _)
  | true =>
    refine wpAny_notIn_of (kV_is ry) hs dd.mapOf ?_
    rw [← (rel.val kk).isSome_eq]
    exact q _ (I.tok _)
theorem kd_at (I : Inv X pins σ H s) {a : Addr} {o : Obj} {kvs : List (Key × V)} {kk : Key} {u : Value} {v : V} (h : H a = some (KdO X.w a o kvs)) (ry : RelV (kV kk) u) (hv : valV kvs kk = some v) {Q : Value → Shared → Prop} {E : Value → Shared → Prop}
    (q : ∀ r s', Inv X pins σ H s' → RelV v r → Q r s') : wpAny (model X.prog X.w) X.A (getItem (.ref a) u) Q E s := by
  obtain ⟨hs, _, vs, rel, dd⟩ := kdo_get I h
  obtain ⟨r, hr, rr⟩ := RelO.some_of (v := v) (o := valueAt vs kk) (by rw [← hv]; exact rel.val kk)
  exact wpAny_getItem_of (kV_is ry) dd.mapOf hr (q r _ (I.tok _) rr)
/-- y in d -/
theorem in_dict (hu : X.A.units + 64 < cLine) (neg : Bool) (I : Inv X pins σ H s) {a : Addr} {y : V} {u : Value} {kd : D} {ps : List (D × D)} {k : NestedKey} (hd : Rp X.k0 H (.ref a) (.dict ps)) (hy : Rp X.k0 H y kd) (ry : RelV y u) (hk : keyOk kd ps = some k)
    {Q : Value → Shared → Prop} {E : Value → Shared → Prop} (q : ∀ s', Inv X pins σ H s' → Q (.bool (if neg = true then !(dAt ps k).isSome else (dAt ps k).isSome)) s') :
    wpAny (model X.prog X.w) X.A (compareOp (if neg = true then .NotIn else .In) u (.ref a)) Q E s := by
  obtain ⟨e1, e2, hkind⟩ := keyOk_of hk
  have room : (nestedKind X.prog X.w).room X.A.in1 := by
    show X.A.units + 1 + 8 < cLine
    omega
  -- the look-up with a tuple
  have byTup : ∀ {ys : NY} {r : Bool}, (a == sysModules) = false → s.heap.DictOfH (nestedKind X.prog X.w) a ys → isTupK kd = true → (atKey ys k).isSome = (dAt ps k).isSome → wpAny (model X.prog X.w) X.A (compareOp (if neg = true then .NotIn else .In) u (.ref a)) Q E s := by
    intro ys r hs hm ht hr
    cases kd with
    | tuple ds =>
      have hy' := hy
      cases hy' with
      | @tup b xs _ g1 g2 =>
        cases ry
        have hkey : (nestedKind X.prog X.w).is s.heap k b := ⟨nested_is I _ _ _ k hy rfl e1, e2⟩
        cases neg with
        | false =>
          refine wpAny_in_heap room hkey hs hm ?_
          rw [hr]
          exact q _ (I.tok _)
        | true =>
          refine wpAny_notIn_heap room hkey hs hm ?_
          rw [hr]
          exact q _ (I.tok _)
    | _ => cases ht
  cases hd with
  | @dct _ _ kvs _ h1 h2 =>
    rcases hkind with ⟨ht, hall⟩ | ⟨hf, hall⟩
    · -- no int, no text is a tuple: the dict is empty
      have e0 : ps = [] ∧ kvs = [] := by
        cases h2 with
        | nil => exact ⟨rfl, rfl⟩
        | @cons k0 v kvs d e ps g1 g2 g3 =>
          rw [List.all_cons, Bool.and_eq_true] at hall
          cases k0 <;> (cases g1; cases hall.1)
      obtain ⟨rfl, rfl⟩ := e0
      obtain ⟨hs, hm⟩ := kd_nil I h1
      exact byTup (r := false) hs hm ht rfl
    · obtain ⟨kk, ey, hkk⟩ := flatK_of hy hf e1
      subst ey
      have same : (valV kvs kk).isSome = (dAt ps k).isSome := by
        rcases valV_at hkk h2 with ⟨z1, z2⟩ | ⟨v, e, z1, z2, _⟩
        · rw [z1, z2]
          rfl
        · rw [z1, z2]
          rfl
      exact kd_in I h1 ry fun s' I' => by rw [same]; exact q s' I'
  | @dctN _ _ xs _ h1 h2 =>
    rcases hkind with ⟨ht, hall⟩ | ⟨hf, hall⟩
    · obtain ⟨hs, hz, ys, r, hm⟩ := ndo_get I h1 h2
      refine byTup (r := false) hs hm ht ?_
      have n := at_none (k := k) r h2
      cases z : dAt ps k with
      | none =>
        rw [n.mp z]
        rfl
      | some e =>
        cases z2 : atKey ys k with
        | none =>
          have := n.mpr z2
          rw [z] at this
          cases this
        | some _ => rfl
    · have e0 : ps = [] ∧ xs = [] := by
        cases h2 with
        | nil => exact ⟨rfl, rfl⟩
        | @cons k0 b v xs d e ps g0 gd g1 g2 g3 =>
          rw [List.all_cons, Bool.and_eq_true] at hall
          cases g1 <;> cases hall.1
      obtain ⟨rfl, rfl⟩ := e0
      obtain ⟨hs, hm⟩ := nd_nil I h1
      obtain ⟨kk, ey, _⟩ := flatK_of hy hf e1
      subst ey
      cases neg with
      | false =>
        refine wpAny_in_of (kV_is ry) hs hm ?_
        exact q _ (I.tok _)
      | true =>
        refine wpAny_notIn_of (kV_is ry) hs hm ?_
        exact q _ (I.tok _)
  | obj h1 h2 =>
    -- no object
    rcases hkind with ⟨_, hall⟩ | ⟨_, hall⟩
    · rw [List.all_cons, Bool.and_eq_true] at hall
      cases hall.1
    · rw [List.all_cons, Bool.and_eq_true] at hall
      cases hall.1
  | clo h1 h2 =>
    rcases hkind with ⟨_, hall⟩ | ⟨_, hall⟩
    · rw [List.all_cons, Bool.and_eq_true] at hall
      cases hall.1
    · rw [List.all_cons, Bool.and_eq_true] at hall
      cases hall.1
end
end PD
namespace PD
open PySem L2 PyProof.Rows PySem.Spec
open Evl (Ex)
section
variable {X : Cx} {pins : List (Addr × Obj)} {σ : L2.St} {H : Hp} {s : Shared} {K : Fr0}
theorem dct_typeIs (I : Inv X pins σ H s) {a : Addr} {ps : List (D × D)} (hd : Rp X.k0 H (.ref a) (.dict ps)) (hk : (ps.all fun p => isTupK p.1) = true ∨ (ps.all fun p => isFlatK p.1) = true) : s.TypeIs (.ref a) "dict" := by
  cases hd with
  | dct h1 h2 =>
    obtain ⟨_, _, vs, _, o, _, _, e, c, _⟩ := kdo_get I h1
    exact ⟨o, e, c.1⟩
  | dctN h1 h2 =>
    obtain ⟨⟨e, _, c, _⟩, _, _⟩ := (show ObjOk X.prog X.w H s.heap a (NdO X.w a _ _) from I.hok a _ h1)
    exact ⟨_, e, c.1⟩
  | obj h1 h2 =>
    rcases hk with z | z
    · rw [List.all_cons, Bool.and_eq_true] at z
      cases z.1
    · rw [List.all_cons, Bool.and_eq_true] at z
      cases z.1
  | clo _ _ _ _ _ =>
    rcases hk with z | z
    · rw [List.all_cons, Bool.and_eq_true] at z
      cases z.1
    · rw [List.all_cons, Bool.and_eq_true] at z
      cases z.1
/-- d[y], y in it -/
theorem get_dict (hu : X.A.units + 64 < cLine) (I : Inv X pins σ H s) (L : List Addr) {a : Addr} {y : V} {u : Value} {kd e : D} {ps : List (D × D)} {k : NestedKey} (hd : Rp X.k0 (hide L H) (.ref a) (.dict ps)) (hy : Rp X.k0 H y kd) (ry : RelV y u) (hk : keyOk kd ps = some k)
    (he : dAt ps k = some e) {Q : Value → Shared → Prop} {E : Value → Shared → Prop} (q : ∀ v r s', Inv X pins σ H s' → RelV v r → Rp X.k0 (hide L H) v e → Q r s') : wpAny (model X.prog X.w) X.A (getItem (.ref a) u) Q E s := by
  obtain ⟨e1, e2, hkind⟩ := keyOk_of hk
  have room : (nestedKind X.prog X.w).room X.A.in1 := by
    show X.A.units + 1 + 8 < cLine
    omega
  have full : ps ≠ [] := fun z => by rw [z] at he; cases he
  cases hd with
  | @dct _ _ kvs _ h1 h2 =>
    rcases hkind with ⟨ht, hall⟩ | ⟨hf, hall⟩
    · cases h2 with
      | nil => exact absurd rfl full
      | @cons k0 v kvs d e ps g1 g2 g3 =>
        rw [List.all_cons, Bool.and_eq_true] at hall
        cases k0 <;> (cases g1; cases hall.1)
    · obtain ⟨kk, ey, hkk⟩ := flatK_of hy hf e1
      have hkk' : ∀ (kk' : Key) (d : D), Rp X.k0 (hide L H) (kV kk') d → (keyN d = some k ↔ kk' = kk) := fun kk' d z => hkk kk' d (rp_up (hide_le L H) z)
      rcases valV_at hkk' h2 with ⟨z1, _⟩ | ⟨v, e', z1, z2, z3⟩
      · rw [he] at z1
        cases z1
      · rw [he] at z1
        cases z1
        subst ey
        exact kd_at I (hide_le L H _ _ h1) ry z2 fun r s' I' rr => q v r s' I' rr z3
  | @dctN _ _ xs _ h1 h2 =>
    rcases hkind with ⟨ht, hall⟩ | ⟨hf, hall⟩
    · obtain ⟨hs, hz, ys, r, hm⟩ := ndo_get I (hide_le L H _ _ h1) (rpn_up (hide_le L H) h2)
      obtain ⟨b', v, w', g1, g2, g3⟩ := at_some (k := k) r h2 he
      cases kd with
      | tuple ds =>
        have hy' := hy
        cases hy' with
        | @tup b xs' _ t1 t2 =>
          cases ry
          exact wpAny_getItem_heap room ⟨nested_is I _ _ _ k hy rfl e1, e2⟩ hm g1 (q v w' _ (I.tok _) g2 g3)
      | _ => cases ht
    · cases h2 with
      | nil => exact absurd rfl full
      | @cons k0 b v xs d e ps g0 gd g1 g2 g3 =>
        rw [List.all_cons, Bool.and_eq_true] at hall
        cases g1 <;> cases hall.1
  | obj h1 h2 =>
    rcases hkind with ⟨_, hall⟩ | ⟨_, hall⟩
    · rw [List.all_cons, Bool.and_eq_true] at hall
      cases hall.1
    · rw [List.all_cons, Bool.and_eq_true] at hall
      cases hall.1
  | clo _ _ _ _ _ =>
    rcases hkind with ⟨_, hall⟩ | ⟨_, hall⟩
    · rw [List.all_cons, Bool.and_eq_true] at hall
      cases hall.1
    · rw [List.all_cons, Bool.and_eq_true] at hall
      cases hall.1
def rInD (K : Fr0) (neg : Bool) : R2 := fun y x H Q => ∃ a kd ps k, x = .ref a ∧ Rp K H (.ref a) (.dict ps) ∧ Rp K H y kd ∧ keyOk kd ps = some k ∧ Q (.bl (if neg = true then !(dAt ps k).isSome else (dAt ps k).isSome)) H
theorem op_inD (hu : X.A.units + 64 < cLine) : OpR X (compareOp .In) (rInD X.k0 false) := by
  intro pins s σ H y x u r Q I ry rx ⟨a, kd, ps, k, e, h1, h2, h3, q⟩
  subst e
  cases rx
  exact in_dict hu false I h1 h2 ry h3 fun s' I' => ⟨.bl _, H, I', rfl, q⟩
theorem op_notInD (hu : X.A.units + 64 < cLine) : OpR X (compareOp .NotIn) (rInD X.k0 true) := by
  intro pins s σ H y x u r Q I ry rx ⟨a, kd, ps, k, e, h1, h2, h3, q⟩
  subst e
  cases rx
  exact in_dict hu true I h1 h2 ry h3 fun s' I' => ⟨.bl _, H, I', rfl, q⟩
def rIxD (K : Fr0) : R2 := fun x y H Q => ∃ L a kd ps k e, x = .ref a ∧ Rp K (hide L H) (.ref a) (.dict ps) ∧ Rp K H y kd ∧ keyOk kd ps = some k ∧ dAt ps k = some e ∧ ∀ v, Rp K (hide L H) v e → Q v H
theorem keyOk_all {kd : D} {ps : List (D × D)} {k : NestedKey} (h : keyOk kd ps = some k) : (ps.all fun p => isTupK p.1) = true ∨ (ps.all fun p => isFlatK p.1) = true := (keyOk_of h).2.2.elim (fun z => .inl z.2) fun z => .inr z.2
theorem ix_dict (hu : X.A.units + 64 < cLine) : IxR X (rIxD X.k0) := by
  intro value slice pins s σ H x y v u Q I rx ry ⟨L, a, kd, ps, k, e, ex, h1, h2, h3, h4, q⟩ hs
  subst ex
  cases rx
  exact tail_any (dct_typeIs I (rp_up (hide_le L H) h1) (keyOk_all h3)) slot_dict_getitem.lookup (get_dict hu I L h1 h2 ry h3 h4 fun v r s' I' rr hv => ⟨v, H, I', rr, q v hv⟩) hs
end
def gInD (neg : Bool) : D → D → Option D
  | kd, .dict ps => (keyOk kd ps).map fun k => .bool (if neg = true then !(dAt ps k).isSome else (dAt ps k).isSome)
  | _, _ => none
def gInX (x y : D) : Option D := match y with
  | .dict _ => gInD false x y
  | _ => gIn x y
def gNotInX (x y : D) : Option D := match y with
  | .dict _ => gInD true x y
  | _ => gNotIn x y
def gIxX (x y : D) : Option D := match x with
  | .dict ps => (keyOk y ps).bind (dAt ps)
  | _ => gIx x y
section
variable {K : Fr0} {X : Cx}
theorem dict_ref {H : Hp} {v : V} {ps : List (D × D)} (h : Rp K H v (.dict ps)) : ∃ a, v = .ref a := by
  cases h <;> exact ⟨_, rfl⟩
theorem rd_inD {neg : Bool} : R2D K (rInD K neg) (gInD neg) := by
  intro L H x y dx dy d Q tr hx hy hg k
  unfold gInD at hg
  split at hg
  · rename_i ps
    obtain ⟨kk, h1, h2⟩ := Option.map_eq_some_iff.mp hg
    subst h2
    have hy' := rp_up (hide_le L H) hy
    obtain ⟨a, rfl⟩ := dict_ref hy
    exact ⟨a, _, ps, kk, rfl, hy', rp_up (hide_le L H) hx, h1, k _ _ (Ex.refl _) (.bl _)⟩
  · cases hg
theorem rd_inX : R2D K (opOr (rIn K.f false) (rInD K false)) gInX := by
  intro L H x y dx dy d Q tr hx hy hg k
  unfold gInX at hg
  split at hg
  · exact .inr (rd_inD L H x y dx _ d Q tr hx hy hg k)
  · exact .inl (rd_in L H x y dx _ d Q tr hx hy hg k)
theorem rd_notInX : R2D K (opOr (rIn K.f true) (rInD K true)) gNotInX := by
  intro L H x y dx dy d Q tr hx hy hg k
  unfold gNotInX at hg
  split at hg
  · exact .inr (rd_inD L H x y dx _ d Q tr hx hy hg k)
  · exact .inl (rd_notIn L H x y dx _ d Q tr hx hy hg k)
theorem op_inX (hu : X.A.units + 64 < cLine) : OpR X (compareOp .In) (opOr (rIn X.K false) (rInD X.k0 false)) := or_op op_in_seq (op_inD hu)
theorem op_notInX (hu : X.A.units + 64 < cLine) : OpR X (compareOp .NotIn) (opOr (rIn X.K true) (rInD X.k0 true)) := or_op op_notIn_seq (op_notInD hu)
theorem rd_ixX : R2D K (opOr (rIxA K.f) (rIxD K)) gIxX := by
  intro L H x y dx dy d Q tr hx hy hg k
  unfold gIxX at hg
  split at hg
  · rename_i ps
    obtain ⟨kk, h1, h2⟩ := Option.bind_eq_some_iff.mp hg
    obtain ⟨a, rfl⟩ := dict_ref hx
    exact .inr ⟨L, a, dy, ps, kk, d, rfl, hx, rp_up (hide_le L H) hy, h1, h2, fun v hv => k _ _ (Ex.refl _) hv⟩
  · exact .inl (rd_ix L H x y dx dy d Q tr hx hy hg k)
theorem ix_X (hu : X.A.units + 64 < cLine) : IxR X (opOr (rIxA X.K) (rIxD X.k0)) := IxR.or ix_any (ix_dict hu)
end
end PD
namespace PD
open PySem L2 PyProof.Rows PySem.Spec
open Evl (Ex)
def putN (xs : NX) (k : NestedKey) (b : Addr) (v : V) : NX := if (xs.any fun x => decide (x.1 = k)) = true then xs.map (fun x => if x.1 = k then (x.1, x.2.1, v) else x) else xs ++ [(k, b, v)]
section
variable {X : Cx} {pins : List (Addr × Obj)} {σ : L2.St} {H : Hp} {s : Shared} {K : Fr0}
theorem any_at : ∀ {xs : NX} {ys : NY} {k : NestedKey}, SameN xs ys → (xs.any fun x => decide (x.1 = k)) = (atKey ys k).isSome
  | _, _, _, .nil => rfl
  | x :: _, y :: _, k, .cons r t => by
    have ih := any_at (k := k) t
    have ex : x.1 = y.1 := r.1
    unfold atKey at *
    rw [List.any_cons, List.find?_cons, ih]
    by_cases hk : x.1 = k
    · rw [decide_eq_true hk, show decide (y.1 = k) = true from decide_eq_true (by rw [← ex, hk])]
      rfl
    · rw [decide_eq_false hk, show decide (y.1 = k) = false from decide_eq_false (by rw [← ex]; exact hk)]
      rfl
theorem any_dat : ∀ {xs : NX} {ps : List (D × D)} {k : NestedKey}, RpN K H xs ps → (xs.any fun x => decide (x.1 = k)) = (dAt ps k).isSome
  | _, [], _, h => by
    cases h
    rfl
  | _, _ :: _, k, h => by
    cases h with
    | @cons k0 b v xs d e ps h0 hd h1 h2 h3 =>
      have ih := any_dat (k := k) h3
      unfold dAt at *
      rw [List.any_cons, List.find?_cons, ih]
      by_cases hk : k0 = k
      · rw [decide_eq_true hk, show decide (keyN d = some k) = true from decide_eq_true (by rw [h0, hk])]
        rfl
      · rw [decide_eq_false hk, show decide (keyN d = some k) = false from decide_eq_false (by rw [h0]; exact fun z => hk (Option.some.inj z))]
        rfl
theorem putN_len (xs : NX) (k : NestedKey) (b : Addr) (v : V) : (putN xs k b v).length ≤ xs.length + 1 := by
  unfold putN
  split
  · rw [List.length_map]; omega
  · rw [List.length_append]; exact Nat.le_refl _
theorem same_app {xs : NX} {ys : NY} (r : SameN xs ys) {x : NestedKey × Addr × V} {y : NestedKey × Addr × Value} (h : x.1 = y.1 ∧ x.2.1 = y.2.1 ∧ RelV x.2.2 y.2.2) : SameN (xs ++ [x]) (ys ++ [y]) := by
  induction r with
  | nil => exact .cons h .nil
  | cons r t ih => exact .cons r ih
theorem same_put {xs : NX} {ys : NY} (r : SameN xs ys) (k : NestedKey) (b : Addr) {v : V} {u : Value} (ru : RelV v u) : SameN (putN xs k b v) (storedH ys k b u) := by
  unfold putN storedH
  rw [any_at r]
  split
  · exact put_same ru r
  · exact same_app r ⟨rfl, rfl, ru⟩
theorem rp_put {xs : NX} {ps : List (D × D)} {k : NestedKey} {b : Addr} {v : V} {kd e : D} (h : RpN K H xs ps) (hk : keyN kd = some k) (hd : k.depth ≤ 8) (hb : Rp K H (.ref b) kd) (hv : Rp K H v e) : RpN K H (putN xs k b v) (dPut ps kd k e) := by
  unfold putN dPut
  rw [any_dat h]
  split
  · exact put_rp hv h
  · exact rpn_app h (.cons hk hd hb hv .nil)
theorem set_ndo (hu : X.A.units + 64 < cLine) (I : Inv X pins σ H s) {a b : Addr} {o : Obj} {xs : NX} {ps : List (D × D)} {kd : D} {k : NestedKey} {v : V} {r : Value} (ha : H a = some (NdO X.w a o xs)) (hp : RpN X.k0 H xs ps) (hk : keyN kd = some k) (hd : k.depth ≤ 8)
    (hb : Rp X.k0 H (.ref b) kd) (rv : RelV v r) (hz : xs.length < sizeLine) {Q : Unit → Shared → Prop} {E : Value → Shared → Prop} (q : ∀ o' s', Inv X pins σ (upd H a (NdO X.w a o' (putN xs k b v))) s' → Q () s') :
    wpAny (model X.prog X.w) X.A (setItem (.ref a) (.ref b) r) Q E s := by
  obtain ⟨hs, _, ys, rel, hm⟩ := ndo_get I ha hp
  have room : (nestedKind X.prog X.w).room X.A.in1 := by
    show X.A.units + 1 + 8 < cLine
    omega
  have hl : ys.length ≤ sizeLine := by rw [← Paired.length rel]; omega
  refine wpAny_setItem_heap (hsz := hl) room ⟨nested_is I _ _ _ k hb rfl hk, hd⟩ hm fun h' dd' hsb => ?_
  have he : ∃ o, h'.get? a = some o := let ⟨o, _, _, ho, _⟩ := dd'; ⟨o, ho⟩
  obtain ⟨o', ok⟩ := ndo_obj (H' := upd H a (NdO X.w a o (putN xs k b v))) hs (same_put rel k b rv) dd' (Nat.le_trans (putN_len xs k b v) hz)
  exact q o' _ (d_write I (by rw [ha]; exact True.intro) hsb he ⟨ok.1, ok.2⟩)
theorem set_kdo (I : Inv X pins σ H s) {a : Addr} {o : Obj} {kvs : List (Key × V)} {kk : Key} {u r : Value} {v : V} (ha : H a = some (KdO X.w a o kvs)) (ry : RelV (kV kk) u) (rv : RelV v r) (hz : kvs.length < sizeLine) {Q : Unit → Shared → Prop} {E : Value → Shared → Prop}
    (q : ∀ o' s', Inv X pins σ (upd H a (KdO X.w a o' (putK kvs kk v))) s' → Q () s') : wpAny (model X.prog X.w) X.A (setItem (.ref a) u r) Q E s := by
  obtain ⟨hs, _, vs, rel, dd⟩ := kdo_get I ha
  have hl : vs.length ≤ sizeLine := by rw [← rel.length]; omega
  refine wpAny_setItem_pairs (hsz := hl) (kV_is ry) dd fun h' dd' hsb => ?_
  have he : ∃ o, h'.get? a = some o := let ⟨o, _, _, ho, _⟩ := dd'; ⟨o, ho⟩
  have hn : (putK kvs kk v).length ≤ sizeLine := by have := length_putK kvs kk v; omega
  obtain ⟨o', ok⟩ := kdo_obj (H' := upd H a (KdO X.w a o (putK kvs kk v))) hs (rel.put kk rv) dd' hn
  exact q o' _ (d_write I (by rw [ha]; exact True.intro) hsb he ⟨ok.1, ok.2⟩)
theorem kv_put {kvs : List (Key × V)} {ps : List (D × D)} {kk : Key} {k : NestedKey} {kd e : D} {v : V} (hk : ∀ (kk' : Key) (d : D), Rp K H (kV kk') d → (keyN d = some k ↔ kk' = kk)) (hb : Rp K H (kV kk) kd) (hv : Rp K H v e) (h : RpKv K H kvs ps) :
    RpKv K H (putK kvs kk v) (dPut ps kd k e) := by
  have an : ∀ {kvs : List (Key × V)} {ps : List (D × D)}, RpKv K H kvs ps → (kvs.any fun kv => decide (kv.1 = kk)) = (dAt ps k).isSome := by
    intro kvs ps h
    rcases valV_at hk h with ⟨z1, z2⟩ | ⟨v, e, z1, z2, _⟩
    · rw [z1]
      unfold valV at z2
      cases q : kvs.any fun kv => decide (kv.1 = kk) with
      | false => rfl
      | true =>
        have : (kvs.find? fun kv => decide (kv.1 = kk)).isSome = true := by rw [List.find?_isSome]; simpa using q
        cases z : kvs.find? fun kv => decide (kv.1 = kk) with
        | none => rw [z] at this; cases this
        | some _ => rw [z] at z2; cases z2
    · rw [z1]
      unfold valV at z2
      obtain ⟨p, hp, _⟩ := Option.map_eq_some_iff.mp z2
      have : (kvs.find? fun kv => decide (kv.1 = kk)).isSome = true := by rw [hp]; rfl
      rw [List.find?_isSome] at this
      simpa using this
  have mp : ∀ {kvs : List (Key × V)} {ps : List (D × D)}, RpKv K H kvs ps → RpKv K H (kvs.map fun kv => if kv.1 = kk then (kv.1, v) else kv) (ps.map fun p => if keyN p.1 = some k then (p.1, e) else p) := by
    intro kvs ps h
    induction kvs generalizing ps with
    | nil =>
      cases h
      exact .nil
    | cons x kvs ih =>
      cases h with
      | @cons k0 w _ d e0 ps h1 h2 h3 =>
        rw [List.map_cons, List.map_cons]
        by_cases q : k0 = kk
        · rw [if_pos q, if_pos ((hk _ _ h1).mpr q)]
          exact .cons h1 hv (ih h3)
        · rw [if_neg q, if_neg fun z => q ((hk _ _ h1).mp z)]
          exact .cons h1 h2 (ih h3)
  have ap : ∀ {kvs : List (Key × V)} {ps : List (D × D)}, RpKv K H kvs ps → RpKv K H (kvs ++ [(kk, v)]) (ps ++ [(kd, e)]) := by
    intro kvs ps h
    induction kvs generalizing ps with
    | nil =>
      cases h
      exact .cons hb hv .nil
    | cons x kvs ih =>
      cases h with
      | cons h1 h2 h3 => exact .cons h1 h2 (ih h3)
  unfold putK dPut
  rw [an h]
  split
  · exact mp h
  · exact ap h
end
end PD
namespace PD
open PySem L2 PyProof.Rows PySem.Spec
open Evl (Ex)
section
variable {X : Cx} {M : Mk0} {e i o value : Expr} {fa fb : FE} {pos pos' : Pos}
/-- {}, of keys to be -/
def tDNewA (w : World) (kd : Bool) : TE := fun _ H Q => ∀ p o, H p = none → Q (.ref p) (upd H p (if kd = true then NdO w p o [] else KdO w p o []))
theorem pe_dnewA (kd : Bool) : PE X (.Dict [] [] pos) (tDNewA X.w kd) := by
  refine ⟨fun pins s σ H Q I h => ?_⟩
  have fresh : (s.heap.objs.size == sysModules) = false := beq_eq_false_iff_ne.mpr (Nat.ne_of_gt I.big)
  have none_ := I.hok.fresh (Nat.le_refl _)
  cases kd with
  | true =>
    obtain ⟨o, ok⟩ := ndo_obj (P := X.prog) (w := X.w) (xs := []) (ys := []) (H' := H) fresh .nil (Heap.DictOfH.new s.heap) (by simp)
    exact wpAny_Dict_empty ⟨.ref s.heap.objs.size, _, I.laid (a := s.heap.objs.size) (o := NdO X.w s.heap.objs.size o []) (t' := s.toks) (fun _ _ q => Heap.get?_push_of_some _ q) (Nat.le_refl _) ⟨ok.1, ok.2⟩, rfl, h _ o none_⟩
  | false =>
    have em : (s.heap.push { cls := .type "dict", data := .dict #[] }).DictOf (mixKind X.prog X.w) s.heap.objs.size [] := by
      obtain ⟨_, _, vs, r, dd⟩ := dk_empty (P := X.prog) (w := X.w) (H := H) s.heap I.big
      cases r
      exact dd
    obtain ⟨o, ok⟩ := kdo_obj (P := X.prog) (w := X.w) (kvs := []) (vs := []) (H' := H) fresh .nil em (by simp)
    exact wpAny_Dict_empty ⟨.ref s.heap.objs.size, _, I.laid (a := s.heap.objs.size) (o := KdO X.w s.heap.objs.size o []) (t' := s.toks) (fun _ _ q => Heap.get?_push_of_some _ q) (Nat.le_refl _) ⟨ok.1, ok.2⟩, rfl, h _ o none_⟩
/-- x = {} -/
def fsOwnD (i : Nat) (kd : Bool) : FS := fun ρ P => P.nx (ρ.set i (.own (.d kd [])))
theorem pds_ownD {j : Nat} (kd : Bool) {x : Str} {px dp : Pos} (hg : PG X (.Name x px) (gName j)) (hs : swapsWithSole [.Name x px] (.Dict [] [] dp) pos.line X.env = pure false := by rfl) (hw : swappedStores [.Name x px] (.Dict [] [] dp) X.env = pure none := by rfl)
    (h1 : (assignEach [.Name x px] X.env).map (·.2) = [assign (.Name x px) X.env] := by rfl) : PDS X M (.Assign [.Name x px] (.Dict [] [] dp) pos) (fsOwnD j kd) := by
  refine ⟨PS.wk (ps_asg (pe_dnewA kd) hg hs hw h1) fun D σ H ⟨P, F, L, ρ, r, q⟩ p o hp => ?_, fun ρ k k' h q => h.nx _ q⟩
  have hF : F p = none := by
    cases z : F p with
    | none => rfl
    | some o => have := (r.fr p o z).1; rw [hp] at this; cases this
  refine q _ (p :: L) _ (hide_newex hp) ((r.pinNew hp).toOwnC hF ?_ j)
  cases kd with
  | true => exact ⟨o, [], rfl, .nil⟩
  | false => exact ⟨o, [], rfl, .nil⟩
/-- x[k] = v, of values -/
def rPutD (K : Fr0) : TSet := fun o y v H Q => ∃ (L : List Addr) (a : Addr) (kd : Bool) (ps : List (D × D)) (dk dv : D) (k : NestedKey) (u : HO), o = .ref a ∧ a ∈ L ∧ H a = some u ∧ OwAt K (hide L H) a u (.d kd ps) ∧ Rp K (hide L H) y dk ∧ Rp K (hide L H) v dv ∧
  keyN dk = some k ∧ k.depth ≤ 8 ∧ (if kd = true then isTupK dk else isFlatK dk) = true ∧ ps.length < 1000000 ∧ ∀ u', OwAt K (hide L H) a u' (.d kd (dPut ps dk k dv)) → Q (upd H a u')
theorem rpk_len {K : Fr0} {H : Hp} : ∀ {xs : List (Key × V)} {ps : List (D × D)}, RpKv K H xs ps → xs.length = ps.length
  | _, [], h => by
    cases h
    rfl
  | _, _ :: _, h => by
    cases h with
    | cons _ _ h3 => rw [List.length_cons, List.length_cons, rpk_len h3]
theorem set_D (hu : X.A.units + 64 < cLine) : PSet X (rPutD X.k0) := by
  intro pins s σ H o y v ov yv rv Q I ro ry rr ⟨L, a, kd, ps, dk, dv, k, u, e, haL, ha, hw, hy, hv, hk, hd, hkind, hz, q⟩
  subst e
  cases ro
  have up := hide_le L H
  cases kd with
  | true =>
    obtain ⟨ob, xs, e, hp⟩ := hw
    subst e
    have hl := rpn_len hp
    cases dk with
    | tuple ds =>
      have hy' := hy
      cases hy' with
      | @tup b xs' _ t1 t2 =>
        cases ry
        refine set_ndo hu I ha (rpn_up up hp) hk hd (rp_up up hy) rr (by rw [sizeLine_eq]; omega) fun o' s' I' => ⟨_, I', q _ ⟨o', _, rfl, rp_put hp hk hd hy hv⟩⟩
    | _ => cases hkind
  | false =>
    obtain ⟨ob, kvs, e, hp⟩ := hw
    subst e
    have hl := rpk_len hp
    obtain ⟨kk, ey, hkk⟩ := flatK_of hy hkind hk
    subst ey
    exact set_kdo I ha ry rr (by rw [sizeLine_eq]; omega) fun o' s' I' => ⟨_, I', q _ ⟨o', _, rfl, kv_put hkk hy hv hp⟩⟩
def fsPut (i : Nat) (fk fv : FE) : FS := fun ρ P => fv ρ fun dv ρ1 => (∃ c, ρ1.sl[i]? = some (.own c)) ∧ fk ρ1 fun dk ρ2 => ∃ kd ps k, ρ2.sl[i]? = some (.own (.d kd ps)) ∧ keyN dk = some k ∧ k.depth ≤ 8 ∧ (if kd = true then isTupK dk else isFlatK dk) = true ∧ ps.length < 1000000 ∧
  P.nx (ρ2.set i (.own (.d kd (dPut ps dk k dv))))
theorem pds_dput {j : Nat} {x : Str} {px : Pos} {ki : Expr} {fk fv : FE} (hv : PD X M value fv) (hk : PD X M ki fk) (hg : PG X (.Subscript (.Name x px) ki pos') (L2.gSub (tVar j) (DE X.k0 M fk) (rPutD X.k0)))
    (hs : swapsWithSole [.Subscript (.Name x px) ki pos'] value pos.line X.env = pure false := by rfl) (hw : swappedStores [.Subscript (.Name x px) ki pos'] value X.env = pure none := by rfl)
    (h1 : (assignEach [.Subscript (.Name x px) ki pos'] X.env).map (·.2) = [assign (.Subscript (.Name x px) ki pos') X.env] := by rfl) : PDS X M (.Assign [.Subscript (.Name x px) ki pos'] value pos) (fsPut j fk fv) := by
  refine ⟨PS.wk (ps_asg hv.pe hg hs hw h1) fun D σ H ⟨P, F, L, ρ, r, q⟩ => ?_, fun ρ k k' h q => hv.mono _ _ _ (fun dv ρ1 z => ⟨z.1, hk.mono _ _ _ (fun dk ρ2 ⟨kd, ps, k, a1, a2, a3, a4, a5, a6⟩ => ⟨kd, ps, k, a1, a2, a3, a4, a5, h.nx _ a6⟩) z.2⟩) q⟩
  refine ⟨P, F, L, ρ, r, hv.mono _ _ _ (fun dv ρ1 ⟨⟨c0, h0⟩, q⟩ v L1 H1 e1 r1 d1 => ?_) q⟩
  obtain ⟨l, u0, g1, _, _, _⟩ := r1.getOwn h0
  refine ⟨.ref l, g1, P, F, L1, ρ1, r1, hk.mono _ _ _ (fun dk ρ2 ⟨kd, ps, k, a1, a2, a3, a4, a5, a6⟩ y L2 H2 e2 r2 d2 => ?_) q⟩
  obtain ⟨p, u, f1, f2, f3, f4, f5, f6⟩ := r2.ofOwnC a1
  rw [g1] at f1
  cases f1
  refine ⟨L2, l, kd, ps, dk, dv, k, u, rfl, f4, f2, f5, d2, rp_up e2 d1, a2, a3, a4, a5, fun u' hw' => ?_⟩
  have hh := hide_repin (H := H2) (o' := u') f4
  have r3 := (f6.repin (o' := u')).toOwnC f3 (by rw [hh]; exact hw') j
  rw [set_set_id g1] at r3
  have es : (ρ2.set j .no).set j (.own (.d kd (dPut ps dk k dv))) = ρ2.set j (.own (.d kd (dPut ps dk k dv))) := by
    show Rho.mk ((ρ2.sl.set j .no).set j (.own (.d kd (dPut ps dk k dv)))) ρ2.n = _
    rw [List.set_set]
  rw [es] at r3
  exact a6 σ L2 _ (by rw [hh]; exact e1.trans e2) r3
/-- x[k], x a dict of the def's own -/
def fOwnIx (i : Nat) (fk : FE) : FE := fun ρ q => (∃ c, ρ.sl[i]? = some (.own c)) ∧ fk ρ fun dk ρ1 => ∃ kd ps k d, ρ1.sl[i]? = some (.own (.d kd ps)) ∧ keyOk dk ps = some k ∧ dAt ps k = some d ∧ q d ρ1
end
end PD
namespace PD
open PySem L2 PyProof.Rows PySem.Spec
open Evl (Ex)
/-- what stands at d is a dict, by the object o: its keys, its values, in their order -/
structure DEnt (d : Addr) (o : Obj) (u : HO) (es : Array DictEntry) (ep : Nat) (ks vs : List V) : Prop where
  sys : (d == sysModules) = false
  ex : o.ExactDict
  dat : o.data = .dict es ep
  lk : es.size = ks.length
  lv : es.size = vs.length
  key : ∀ (i : Nat) (hi : i < es.size) (x : V), ks[i]? = some x → RelV x es[i].key
  val : ∀ (i : Nat) (hi : i < es.size) (x : V), vs[i]? = some x → RelV x es[i].val
  at_ : ∀ (P : Program) (w : World) (H : Hp) (h : Heap), ObjOk P w H h d u → h.get? d = some o
theorem DEnt.raw {P : Program} {w : World} {H : Hp} {h : Heap} {d : Addr} {o : Obj} {u : HO} {es : Array DictEntry} {ep : Nat} {ks vs : List V} (E : DEnt d o u es ep ks vs) (ok : HOk P w H h) (e : H d = some u) : h.DictRaw d es ep := ⟨o, E.at_ P w H h (ok d u e), E.ex, E.dat⟩
theorem nd_ent {w : World} {d : Addr} {o : Obj} {xs : NX} (h : NdF w d o xs) : ∃ es ep, DEnt d o (NdO w d o xs) es ep (xs.map fun x => .ref x.2.1) (xs.map fun x => x.2.2) := by
  obtain ⟨hs, h2, h7, h6, es, ep, us, h3, h4, h5⟩ := h
  have hl : us.length = xs.length := by rw [← h4.length, List.length_map]
  have hz : es.size = xs.length := by
    rw [← Array.length_toList, h5, List.length_map, List.length_zip, hl, Nat.min_self]
  have en : ∀ (i : Nat) (hi : i < es.size) (x : NestedKey × Addr × V), xs[i]? = some x → ∃ u, us[i]? = some u ∧ es[i].key = .ref x.2.1 ∧ es[i].val = u := by
    intro i hi x hx
    have hu : i < us.length := by omega
    refine ⟨us[i], List.getElem?_eq_getElem hu, ?_⟩
    have q : es.toList[i]? = some ⟨x.1.hash w, .ref x.2.1, us[i]⟩ := by
      rw [h5, List.getElem?_map, show (xs.zip us)[i]? = some (x, us[i]) from List.getElem?_zip_eq_some.mpr ⟨hx, List.getElem?_eq_getElem hu⟩]
      rfl
    rw [Array.getElem?_toList, Array.getElem?_eq_getElem hi] at q
    rw [Option.some.inj q]
    exact ⟨rfl, rfl⟩
  refine ⟨es, ep, hs, h2, h3, by rw [hz, List.length_map], by rw [hz, List.length_map], fun i hi x hx => ?_, fun i hi x hx => ?_, fun P w H h ok => ok.1.1⟩
  · rw [List.getElem?_map] at hx
    obtain ⟨y, hy, e⟩ := Option.map_eq_some_iff.mp hx
    obtain ⟨u, _, g1, _⟩ := en i hi y hy
    subst e
    exact g1
  · rw [List.getElem?_map] at hx
    obtain ⟨y, hy, e⟩ := Option.map_eq_some_iff.mp hx
    obtain ⟨u, g0, _, g2⟩ := en i hi y hy
    obtain ⟨u', g3, g4⟩ := h4.get (i := i) (x := x) (by rw [List.getElem?_map, hy, ← e]; rfl)
    rw [g0] at g3
    cases g3
    rw [g2]
    exact g4
theorem kd_ent {w : World} {d : Addr} {o : Obj} {kvs : List (Key × V)} (h : KdF w d o kvs) : ∃ es ep, DEnt d o (KdO w d o kvs) es ep (kvs.map fun x => kV x.1) (kvs.map fun x => x.2) := by
  obtain ⟨hs, h2, h7, es, ep, vs, h3, h4, h5, h6, r⟩ := h
  have hz : es.size = kvs.length := by
    rw [← Array.length_toList, Paired.length h5, ← Paired.length r]
  have en : ∀ (i : Nat) (hi : i < es.size) (x : Key × V), kvs[i]? = some x → RelV (kV x.1) es[i].key ∧ RelV x.2 es[i].val := by
    intro i hi x hx
    obtain ⟨y, hy, e1, e2⟩ := paired_get r hx
    obtain ⟨y', hy', e3, e4⟩ := paired_get h5 (i := i) (a := es[i]) (by rw [Array.getElem?_toList, Array.getElem?_eq_getElem hi])
    rw [hy] at hy'
    cases hy'
    exact ⟨relV_key (by rw [e1]; exact e3), by rw [e4]; exact e2⟩
  refine ⟨es, ep, hs, h2, h3, by rw [hz, List.length_map], by rw [hz, List.length_map], fun i hi x hx => ?_, fun i hi x hx => ?_, fun P w H h ok => ok.1.1⟩
  · rw [List.getElem?_map] at hx
    obtain ⟨y, hy, e⟩ := Option.map_eq_some_iff.mp hx
    subst e
    exact (en i hi y hy).1
  · rw [List.getElem?_map] at hx
    obtain ⟨y, hy, e⟩ := Option.map_eq_some_iff.mp hx
    subst e
    exact (en i hi y hy).2
/-- one by one, as they stand -/
def ItX (d : Addr) (u : HO) (xs : List V) : It := ⟨fun i H => H d = some u ∧ i < xs.length, fun i H x H' => H' = H ∧ xs[i]? = some x, fun i H => H d = some u ∧ xs.length ≤ i⟩
section
variable {P : Program} {w : World} {K : PySem.W.Frag} {tg : Expr} {d : Addr} {o : Obj} {u : HO} {es : Array DictEntry} {ep : Nat} {ks vs : List V}
theorem turn_k (it : Addr) (E : DEnt d o u es ep ks vs) : Turn P w K tg (ItX d u ks) [it] it (fun i h => h.IsKeyIter it d i es.size ep) where
  mem := List.mem_cons_self
  obj := fun i h st b hb => by
    obtain rfl : b = it := by simpa using hb
    obtain ⟨oi, e, c, dd⟩ := st
    exact ⟨oi, e, fun v z => by rw [dd] at z; cases z⟩
  keep := fun i h h' st kp => st.at fun oi e => kp it List.mem_cons_self oi e
  item := by
    intro X hP hw hK hc i pins s σ H F I hf st ⟨hd, hi⟩
    subst hP hw hK
    obtain ⟨f0, f1, f2, f3, f4, f5⟩ := hf it List.mem_cons_self
    have hi' : i < es.size := by rw [E.lk]; exact hi
    refine wpAny_pyNext_keys_item_raw st (E.raw I.hok hd) hi' fun h' st' sb => ?_
    have J : Inv X pins σ H { s with heap := h' } := I.turned (t' := s.toks) (fun b ob hb e => (sb.2 b hb).trans e) f0 f1 f3 f4 f5
    obtain ⟨oi, e, c, dd⟩ := id st'
    exact ⟨_, rfl, go_of (s := { s with heap := h' }) e c dd (by decide) ⟨ks[i], H, J, E.key i hi' _ (List.getElem?_eq_getElem hi), ⟨rfl, List.getElem?_eq_getElem hi⟩, st', fun b hb => (hf b hb).1⟩⟩
  done := by
    intro X hP hw hK hc i pins s σ H F I hf st ⟨hd, hi⟩
    subst hP hw hK
    obtain ⟨f0, f1, f2, f3, f4, f5⟩ := hf it List.mem_cons_self
    exact wpAny_pyNext_keys_end_raw (I.ok.hd hc) st (E.raw I.hok hd) (by rw [E.lk]; exact hi) fun h' eb => ⟨rfl, I.turned (t' := s.toks) (fun b ob hb e => eb b ob hb e) f0 f1 f3 f4 f5⟩
  self := fun A i s Q F st h => wpAny_pyIter_keyiter st h
end
end PD
namespace PD
open PySem L2 PyProof.Rows PySem.Spec
open Evl (Ex)
def nk (xs : NX) : List V := xs.map fun x => .ref x.2.1
def nv (xs : NX) : List V := xs.map fun x => x.2.2
def kk (kvs : List (Key × V)) : List V := kvs.map fun x => kV x.1
def kv (kvs : List (Key × V)) : List V := kvs.map fun x => x.2
section
variable {X : Cx} {tg e : Expr} {td : TE} {apos cpos : Pos}
theorem over_ent {pins : List (Addr × Obj)} {σ : L2.St} {H1 : Hp} {s1 : Shared} {J : Addr → HO → List V → List V → It} {R : It → Hp → Prop} {d : Addr} (I1 : Inv X pins σ H1 s1)
    (q : (∃ o xs, H1 d = some (NdO X.w d o xs) ∧ R (J d (NdO X.w d o xs) (nk xs) (nv xs)) H1) ∨ ∃ o kvs, H1 d = some (KdO X.w d o kvs) ∧ R (J d (KdO X.w d o kvs) (kk kvs) (kv kvs)) H1) :
    ∃ o u es ep ks vs, H1 d = some u ∧ DEnt d o u es ep ks vs ∧ R (J d u ks vs) H1 := by
  rcases q with ⟨o, xs, hd, q⟩ | ⟨o, kvs, hd, q⟩
  · obtain ⟨es, ep, E⟩ := nd_ent (show ObjOk X.prog X.w H1 s1.heap d (NdO X.w d o xs) from I1.hok d _ hd).1.2
    exact ⟨o, _, es, ep, _, _, hd, E, q⟩
  · obtain ⟨es, ep, E⟩ := kd_ent (show ObjOk X.prog X.w H1 s1.heap d (KdO X.w d o kvs) from I1.hok d _ hd).1.2
    exact ⟨o, _, es, ep, _, _, hd, E, q⟩
end
section
variable {K : Fr0} {L : List Addr} {H : Hp} {d : Addr} {u : HO}
theorem walks_x {xs : List V} {ds : List D} (h : hide L H d = some u) (hd : RpAll K (hide L H) xs ds) : Walks K (ItX d u xs) L H ds := by
  intro L2 H2 e tr i
  have g := (hide_some.mp (e _ _ h)).2
  have dd := dpa_ex e _ _ hd
  refine ⟨fun x hi => ?_, fun hl => ⟨g, by rw [dpa_len hd]; exact hl⟩⟩
  obtain ⟨v, hv, dv⟩ := dpa_get' dd hi
  refine ⟨⟨g, (List.getElem?_eq_some_iff.mp hv).1⟩, fun y H3 ⟨e3, hy⟩ => ?_⟩
  subst e3
  rw [hv] at hy
  cases hy
  exact ⟨Ex.refl _, dv⟩
theorem rpn_all {H : Hp} : ∀ {xs : NX} {ps : List (D × D)}, RpN K H xs ps → RpAll K H (nk xs) (ps.map (·.1)) ∧ RpAll K H (nv xs) (ps.map (·.2))
  | _, [], h => by
    cases h
    exact ⟨.nil, .nil⟩
  | _, _ :: _, h => by
    cases h with
    | cons h0 hd h1 h2 h3 =>
      obtain ⟨a, b⟩ := rpn_all h3
      exact ⟨.cons h1 a, .cons h2 b⟩
theorem rpk_all {H : Hp} : ∀ {xs : List (Key × V)} {ps : List (D × D)}, RpKv K H xs ps → RpAll K H (kk xs) (ps.map (·.1)) ∧ RpAll K H (kv xs) (ps.map (·.2))
  | _, [], h => by
    cases h
    exact ⟨.nil, .nil⟩
  | _, _ :: _, h => by
    cases h with
    | cons h1 h2 h3 =>
      obtain ⟨a, b⟩ := rpk_all h3
      exact ⟨.cons h1 a, .cons h2 b⟩
/-- keys of one kind -/
def keysOk (ps : List (D × D)) : Bool := (ps.all fun p => isTupK p.1) || ps.all fun p => isFlatK p.1
end
def fiOver (g : List (D × D) → List D) (fa : FE) : FI := fun ρ k => fa ρ fun d ρ1 => ∃ ps, d = .dict ps ∧ keysOk ps = true ∧ k (g ps) ρ1
section
variable {X : Cx} {M : Mk0} {tg e : Expr} {fa : FE} {apos cpos : Pos}
def dKeys (ps : List (D × D)) : List D := ps.map (·.1)
def dVals (ps : List (D × D)) : List D := ps.map (·.2)
def dPairs (ps : List (D × D)) : List D := ps.map fun p => .tuple [p.1, p.2]
end
end PD
namespace PD
open PySem L2 PyProof.Rows PySem.Spec
open Evl (Ex)
section
variable {X : Cx} {M : Mk0} {W : WX} {a b e : Expr} {es : List Expr} {fa fb : FE} {fl : FL} {fs : FS} {f g : FX} {pos p : Pos}
theorem pxl_hd (h : PX X M W e f) (hr : PDL X M es fl) (hs : starEach (e :: es) X.env = (false, eval e X.env) :: starEach es X.env := by rfl) : PXL X M W (e :: es) f :=
  ⟨PA.wk (pa_cons h.pe hr.pa hs) fun _ _ _ q => q, h.mono⟩
/-- an earlier one runs through -/
def fxVal (fa : FE) (g : FX) : FX := fun ρ k => fa ρ fun _ ρ1 => g ρ1 k
theorem pxl_tl (h : PD X M e fa) (hr : PXL X M W es g) (hs : starEach (e :: es) X.env = (false, eval e X.env) :: starEach es X.env := by rfl) : PXL X M W (e :: es) (fxVal fa g) := by
  refine ⟨PA.wk (pa_cons h.pe hr.pa hs) fun σ H Q ⟨P, F, L, ρ, r, q⟩ => ?_, fun ρ k k' le q => h.mono _ _ _ (fun _ ρ1 z => hr.mono _ _ _ le z) q⟩
  exact ⟨P, F, L, ρ, r, h.mono _ _ _ (fun d ρ1 z v L1 H1 e1 r1 d1 => ⟨P, F, L1, ρ1, r1, hr.mono _ _ _ (KX.later e1) z⟩) q⟩
/-- arguments raise, whatever is called -/
theorem px_args {k : Nat} {fn : Addr} {fd : FuncData} {ps : List Str} {x : Str} {sp : Sp} (G : FnG X.prog X.w X.K X.mg X.base (L2.CX X.prog X.w) k fn fd ps sp) (hgd : X.A.guards = some []) (hr : Room k X.A) (hg : Gl X x) (hm : X.mg x = some (.ref fn))
    (hk : PySem.W.keepIn X.K (.ref fn) = true) (hb : Binds X.K fd ps []) (ha : PXL X M W (e :: es) f) (hdb : (x == ("__debug__" : Str)) = false := by decide) (he : starEach (e :: es) X.env = (false, eval e X.env) :: starEach es X.env := by rfl)
    (hpl : (backTo pos (starEach es X.env)).any (·.1) = false := by rfl) : PX X M W (.Call (.Name x p) (e :: es) [] pos) f :=
  ⟨PE.wk (pe_callG (E := E0) G hgd hr hg hm hk hb passF ha.pa hdb he hpl) fun _ _ _ q => q, ha.mono⟩
theorem px_cmpl {op : CmpOp} {r : R2} (ho : OpR X (compareOp op) r) (h : PX X M W a f) (h' : PD X M b fb) (hm : behindInMarks op b = false) : PX X M W (.Compare a [op] [b] pos) f := ⟨PE.wk (pe_cmpR ho h.pe h'.pe hm) fun _ _ _ q => q, h.mono⟩
theorem px_slc {p2 : Pos} {lo hi : Option Expr} {fl fh : FO} (h : PX X M W a f) (hl : PDO X M lo fl) (hh : PDO X M hi fh) : PX X M W (.Subscript a (.Slice lo hi none p2) pos) f := ⟨PE.wk (pe_slice sl_any h.pe hl.po hh.po) fun _ _ _ q => q, h.mono⟩
theorem pr_asg {tg : Expr} {gg : FG} {vs : List Nat} (h : PX X M W e f) (hg : PG1 X M tg vs gg) (hs : swapsWithSole [tg] e pos.line X.env = pure false := by rfl) (hw : swappedStores [tg] e X.env = pure none := by rfl) (h1 : (assignEach [tg] X.env).map (·.2) = [assign tg X.env] := by rfl) :
    PR X M W (.Assign [tg] e pos) f := ⟨PS.wk (ps_asg h.pe hg.pg hs hw h1) fun _ _ _ q => q, h.mono⟩
end
end PD
namespace PD
open PySem L2 PyProof.Rows PySem.Spec
open Evl (Ex)
section
variable {X : Cx} {M : Mk0} {e : Expr} {fa : FE} {fn : FN} {pos : Pos} {K : Fr0} {P : Option Addr} {F : Hp} {L : List Addr} {ρ : Rho} {σ : L2.St} {H : Hp}
/-- what is a slot's own is changed -/
theorem R.owned {c c' : Ow} {i : Nat} {l : Addr} {u u' : HO} (r : R K M P F L ρ σ H) (h : ρ.sl[i]? = some (.own c)) (hs : σ[i]? = some (some (.ref l))) (hl : H l = some u) (hw : OwAt K (hide L H) l u' c') :
    Ex (hide L H) (hide L (upd H l u')) ∧ R K M P F L (ρ.set i (.own c')) σ (upd H l u') := by
  obtain ⟨p, u0, f1, f2, f3, f4, f5, f6⟩ := r.ofOwnC h
  rw [hs] at f1
  cases f1
  have hh := hide_repin (H := H) (o' := u') f4
  have r3 := (f6.repin (o' := u')).toOwnC f3 (by rw [hh]; exact hw) i
  rw [set_set_id hs] at r3
  have es : (ρ.set i .no).set i (.own c') = ρ.set i (.own c') := by
    show Rho.mk ((ρ.sl.set i .no).set i (.own c')) ρ.n = _
    rw [List.set_set]
  rw [es] at r3
  exact ⟨by rw [hh]; exact Ex.refl _, r3⟩
/-- x.pop(), x a list of the def's own -/
def fPop (i : Nat) : FE := fun ρ k => ∃ (xs : List D) (y : D), ρ.sl[i]? = some (.own (.l (xs ++ [y]))) ∧ k y (ρ.set i (.own (.l xs)))
theorem rpa_last {H : Hp} : ∀ {xs : List D} {y : D} {vs : List V}, RpAll K H vs (xs ++ [y]) → ∃ ws v, vs = ws ++ [v] ∧ RpAll K H ws xs ∧ Rp K H v y
  | [], y, _, h => by
    cases h with
    | cons h1 h2 =>
      cases h2
      exact ⟨[], _, rfl, .nil, h1⟩
  | x :: xs, y, _, h => by
    cases h with
    | @cons v0 _ _ _ h1 h2 =>
      obtain ⟨ws, v, e, a, b⟩ := rpa_last h2
      subst e
      exact ⟨v0 :: ws, v, rfl, .cons h1 a, b⟩
theorem pd_pop {i : Nat} {x : Str} {px pa : Pos} (hp : PE X (.Call (.Attribute (.Name x px) "pop" pa) [] [] pos) (tBM0 X.K "list" rPop (tVar i))) : PD X M (.Call (.Attribute (.Name x px) "pop" pa) [] [] pos) (fPop i) := by
  refine ⟨PE.wk hp fun σ H Q ⟨P, F, L, ρ, r, xs, y, h0, q⟩ => ?_, fun ρ k k' g ⟨xs, y, h0, q⟩ => ⟨xs, y, h0, g _ _ q⟩⟩
  obtain ⟨l, u, g1, g2, g3, vs, g5, g4⟩ := r.getOwn h0
  subst g5
  obtain ⟨ws, v, e, a, b⟩ := rpa_last g4
  subst e
  refine ⟨.ref l, g1, .inl ⟨rfl, _, .inl (.inl g3)⟩, l, ws ++ [v], v, rfl, rfl, g3, by simp, ?_⟩
  rw [List.dropLast_concat]
  obtain ⟨ex, r2⟩ := r.owned (c' := .l xs) h0 g1 g3 ⟨ws, rfl, a⟩
  exact q v L _ ex r2 (rp_up ex b)
/-- x.extend(a new list) -/
def fsExt (i : Nat) (fn : FN) : FS := fun ρ P => (∃ xs : List D, ρ.sl[i]? = some (.own xs)) ∧ fn ρ fun ds ρ1 => ∃ xs : List D, ρ1.sl[i]? = some (.own xs) ∧ xs.length + ds.length < 1000000 ∧ P.nx (ρ1.set i (.own (.l (xs ++ ds))))
theorem pds_ext {i : Nat} {x : Str} {px pa pc : Pos} (hn : PN X M e fn) (hp : PE X (.Call (.Attribute (.Name x px) "extend" pa) [e] [] pc) (tBM X.K "list" rExtend (tVar i) (tCons (DNw X.k0 M fn) tNil)))
    (hs : swapsWith (.Call (.Attribute (.Name x px) "extend" pa) [e] [] pc) none pos.line X.env = pure false := by rfl) : PDS X M (.Expr (.Call (.Attribute (.Name x px) "extend" pa) [e] [] pc) pos) (fsExt i fn) := by
  refine ⟨PS.wk (ps_expr hp hs) fun D σ H ⟨P, F, L, ρ, r, ⟨xs0, h0⟩, k⟩ => ?_, fun ρ k k' h q => ⟨q.1, hn.mono _ _ _ (fun ds ρ1 ⟨xs, h1, h2, z⟩ => ⟨xs, h1, h2, h.nx _ z⟩) q.2⟩⟩
  obtain ⟨l, u, g1, g2, g3, vs, g5, g4⟩ := r.getOwn h0
  subst g5
  refine ⟨.ref l, g1, .inl ⟨rfl, vs, .inl (.inl g3)⟩, P, F, L, ρ, r, hn.mono _ _ _ (fun ds ρ1 ⟨xs, h1, h2, q⟩ p ws L1 H1 e1 hF r1 d1 => ?_) k⟩
  obtain ⟨hp1, hp2⟩ := r1.pinned
  have r2 := r1.unpin hF
  obtain ⟨l', u', f1, f2, f3, us, f5, f4⟩ := r2.getOwn h1
  rw [g1] at f1
  cases f1
  subst f5
  have l1 := dpa_len f4
  have l2 := dpa_len d1
  refine ⟨l, p, us, ws, rfl, rfl, f3, hp1, by rw [sizeLine_eq]; omega, ?_⟩
  obtain ⟨ex, r3⟩ := r2.owned (c' := .l (xs ++ ds)) h1 g1 f3 ⟨us ++ ws, rfl, dpa_app f4 d1⟩
  exact q σ L1 _ (e1.trans ex) r3
end
end PD
namespace PD
open PySem L2 PyProof.Rows PySem.Spec
open Evl (Ex)
/-- an instance of the class at C, as data -/
@[reducible] def oD (C : Addr) (ps : List (D × D)) : D := .dict ((.list [], .int (C : Nat)) :: ps)
def lookD (f : Str) : List (D × D) → Option D
  | [] => none
  | (.str g, x) :: r => if f = g then some x else lookD f r
  | _ :: r => lookD f r
def putD (f : Str) (d : D) : List (D × D) → List (D × D)
  | [] => [(.str f, d)]
  | (.str g, x) :: r => if g = f then (.str g, d) :: r else (.str g, x) :: putD f d r
  | e :: r => e :: putD f d r
section
variable {X : Cx} {M : Mk0} {e o : Expr} {es : List Expr} {fa fo : FE} {fA : FA} {pos p apos : Pos} {C : Addr} {f m : Str}
/-- e.f, e an instance of the class at C -/
def fFld (C : Addr) (f : Str) (fa : FE) : FE := fun ρ k => fa ρ fun d ρ1 => ∃ ps x, d = oD C ps ∧ lookD f ps = some x ∧ k x ρ1
/-- x.f = e, x an instance of the def's own -/
def fsFld (i : Nat) (C : Addr) (f : Str) (fa : FE) : FS := fun ρ P => fa ρ fun d ρ1 => ∃ p ps, ρ1.sl[i]? = some (.own (.o p C ps)) ∧ ps.length < 1000 ∧ P.nx (ρ1.set i (.own (.o p C (putD f d ps))))
end
section
variable {X : Cx} {M : Mk0} {k : Nat} {C f : Addr} {fd : FuncData} {ps : List Str} {n : Nat} {W : FE} {m : Str} {apos pos : Pos} {o e : Expr} {es : List Expr} {fo : FE} {fa : FA} {pl : Sem Bool}
/-- a call of the method m of an instance (data) of the class at C -/
def fMeth (C : Addr) (m : Str) (n : Nat) (W : FE) (fo : FE) (fa : FA) : FE := fun ρ k => fo ρ fun d ρ1 => ∃ ps, d = oD C ps ∧ lookD m ps = none ∧
  fa ρ1 fun ss ρ2 => ss.length + 1 = n ∧ W ⟨.d d :: ss, ρ2.n⟩ fun y ρ3 => k y ⟨ρ2.sl, ρ3.n⟩
def faNil : FA := fun ρ k => k [] ρ
end
end PD
namespace PD
open PySem L2 PyProof.Rows PySem.Spec
open Evl (Ex)
def tagD (C : Nat) : D → D → Bool
  | .list [], .int i => decide (i = (C : Int))
  | _, _ => false
mutual
def noO (C : Nat) : D → Bool
  | .list ds => noOs C ds
  | .tuple ds => noOs C ds
  | .dict ps => noOk C ps
  | .none | .bool _ | .int _ | .str _ => true
def noOs (C : Nat) : List D → Bool
  | [] => true
  | d :: ds => noO C d && noOs C ds
def noOk (C : Nat) : List (D × D) → Bool
  | [] => true
  | (k, v) :: ps => noO C k && noO C v && !tagD C k v && noOk C ps
end
section
variable {X : Cx} {M : Mk0} {e : Expr} {fa : FE} {C : Addr}
def fLendO (i : Nat) (C : Addr) (fa : FE) : FE := fun ρ k => (∃ p ps, ρ.sl[i]? = some (.own (.o p C ps))) ∧ fa (lendR i ρ) fun d ρ' => noO C d = true ∧ k d ⟨ρ.sl, ρ'.n⟩
end
abbrev VI := List Sl → Nat → (List (D × D) → Nat → Prop) → Prop
section
variable {X : Cx} {M : Mk0} {k : Nat} {C f : Addr} {fd : FuncData} {ps : List Str} {n : Nat} {V : VI} {x : Str} {p pos : Pos} {e : Expr} {es : List Expr} {fa : FA}
/-- C(..), the instance as data -/
def fMake (C : Addr) (n : Nat) (V : VI) (fa : FA) : FE := fun ρ k => fa ρ fun ss ρ1 => ss.length + 1 = n ∧ V ss ρ1.n fun ps m => k (oD C ps) ⟨ρ1.sl, m⟩
end
end PD
namespace PD
open PySem L2 PyProof.Rows PySem.Spec
open Evl (Ex)
/-- a dict with nothing in it -/
def newO (w : World) (kd : Bool) (p : Addr) (o : Obj) : HO := if kd = true then NdO w p o [] else KdO w p o []
theorem newO_ok {P : Program} {w : World} {H : Hp} (kd : Bool) (h : Heap) (big : sysModules < h.objs.size) : ∃ o, ObjOk P w H (h.push { cls := .type "dict", data := .dict #[] }) h.objs.size (newO w kd h.objs.size o) := by
  have ne : (h.objs.size == sysModules) = false := beq_eq_false_iff_ne.mpr (Nat.ne_of_gt big)
  cases kd with
  | true => exact ndo_obj (P := P) (w := w) (xs := []) (ys := []) (H' := H) ne .nil (Heap.DictOfH.new h) (by simp)
  | false =>
    obtain ⟨_, _, vs, r, dd⟩ := dk_empty (P := P) (w := w) (H := H) h big
    cases r
    exact kdo_obj (P := P) (w := w) (kvs := []) (vs := []) (H' := H) ne .nil dd (by simp)
theorem newO_at {K : Kw} {H : Hp} {p : Addr} {o : Obj} (kd : Bool) : OwAt K H p (newO K.w kd p o) (.d kd []) := by
  cases kd with
  | true => exact ⟨o, [], rfl, .nil⟩
  | false => exact ⟨o, [], rfl, .nil⟩
/-- what a pair that is put asks -/
def rKeep (K : Fr0) (D : Addr) : V → V → Hp → (Hp → Prop) → Prop := fun y v H Q => rPutD K (.ref D) y v H Q
theorem dset_D {X : Cx} (hu : X.A.units + 64 < cLine) {pins : List (Addr × Obj)} {s : Shared} {σ : L2.St} {H : Hp} {D : Addr} {y v : V} {yv rv : Value} {Q : Hp → Prop} {E : Value → Shared → Prop} (I : Inv X pins σ H s) (ry : RelV y yv) (rr : RelV v rv)
    (h : rKeep X.k0 D y v H Q) : wpAny (model X.prog X.w) X.A (dictSet D yv rv) (fun _ s' => ∃ H', Inv X pins σ H' s' ∧ Q H') E s := by
  obtain ⟨L, a, kd, ps, dk, dv, k, u, e, haL, ha, hw, hy, hv, hk, hd, hkind, hz, q⟩ := h
  cases e
  have up := hide_le L H
  cases kd with
  | true =>
    obtain ⟨ob, xs, e, hp⟩ := hw
    subst e
    have hl := rpn_len hp
    obtain ⟨hs, _, ys, rel, hm⟩ := ndo_get I ha (rpn_up up hp)
    have room : (nestedKind X.prog X.w).room X.A := by
      show X.A.units + 8 < cLine
      omega
    have hl2 : ys.length ≤ sizeLine := by rw [← Paired.length rel, sizeLine_eq]; omega
    cases dk with
    | tuple ds =>
      have hy' := hy
      cases hy' with
      | @tup b xs' _ t1 t2 =>
        cases ry
        refine wpAny_dictSet_heap (hsz := hl2) room ⟨nested_is I _ _ _ k (rp_up up hy) rfl hk, hd⟩ hm fun h' dd' hsb => ?_
        have he : ∃ o, h'.get? D = some o := let ⟨o, _, _, ho, _⟩ := dd'; ⟨o, ho⟩
        have hn := putN_len xs k b v
        obtain ⟨o', ok⟩ := ndo_obj (H' := upd H D (NdO X.w D ob xs)) hs (same_put rel k b rr) dd' (by rw [sizeLine_eq]; omega)
        exact ⟨upd H D (NdO X.w D o' (putN xs k b v)), d_write I (by rw [ha]; exact True.intro) hsb he ⟨ok.1, ok.2⟩, q _ ⟨o', _, rfl, rp_put hp hk hd hy hv⟩⟩
    | _ => cases hkind
  | false =>
    obtain ⟨ob, kvs, e, hp⟩ := hw
    subst e
    have hl := rpk_len hp
    obtain ⟨kk, ey, hkk⟩ := flatK_of hy hkind hk
    subst ey
    obtain ⟨hs, _, vs, rel, dd⟩ := kdo_get I ha
    have hl2 : vs.length ≤ sizeLine := by rw [← rel.length, sizeLine_eq]; omega
    refine wpAny_dictSet_pairs (hsz := hl2) (kV_is ry) dd fun h' dd' hsb => ?_
    have he : ∃ o, h'.get? D = some o := let ⟨o, _, _, ho, _⟩ := dd'; ⟨o, ho⟩
    have hn := length_putK kvs kk v
    obtain ⟨o', ok⟩ := kdo_obj (H' := upd H D (KdO X.w D ob kvs)) hs (rel.put kk rr) dd' (by rw [sizeLine_eq]; omega)
    exact ⟨upd H D (KdO X.w D o' (putK kvs kk v)), d_write I (by rw [ha]; exact True.intro) hsb he ⟨ok.1, ok.2⟩, q _ ⟨o', _, rfl, kv_put hkk hy hv hp⟩⟩
section
variable {X : Cx}
/-- one turn -/
def tTurn (K : Fr0) (D : Addr) (g : TG) (tt : TT) (tk tv : TE) (vs : List Nat) (σ : L2.St) (x : V) (H : Hp) (Nx : Hp → Prop) : Prop :=
  g x (wipe σ vs) H fun σ2 H2 => wipe σ2 vs = wipe σ vs ∧ tt σ2 H2 fun b H3 => if b = true then tk σ2 H3 fun y H4 => tv σ2 H4 fun z H5 => rKeep K D y z H5 Nx else Nx H3
def tDcA (K : Fr0) (kd : Bool) (wi : TI) (g : TG) (tt : TT) (tk tv : TE) (vs : List Nat) : TE := fun σ H Q => wi σ H fun J H1 => ∀ D o, H1 D = none → ∃ W : Nat → Nat → Hp → Prop, (∃ m, W 0 m (upd H1 D (newO K.w kd D o))) ∧ ∀ i m H, W i m H →
  (J.stop i H ∧ Q (.ref D) H) ∨ (J.go i H ∧ ∃ Nx : Hp → Prop, (∀ H', Nx H' → ∃ m', m' < m ∧ W (i + 1) m' H') ∧ ∀ x H', J.yld i H x H' → tTurn K D g tt tk tv vs σ x H' Nx)
theorem dcA {pins : List (Addr × Obj)} {s : Shared} {σ : L2.St} {H : Hp} {Q : VK} {kx vx tg iter : Expr} {ifs : List Expr} {scope : Scope} {own : List (Str × Nat)} {pos pos' : Pos} {wi : TI} {g : TG} {tt : TT} {tk tv : TE} {use : Option (Value → Sem Unit)} {Qf : Value → Shared → Prop} (kd : Bool)
    (hc : X.calm = true) (hu : X.A.units + 64 < cLine) (hN : X.N.Nodup) (I : Inv X pins σ H s) (hi : PI X tg iter wi) (ok : BlkOk X.N X.env.scope scope own)
    (hg : ∀ s H C cl fp, PG (Blk X scope s H C cl fp) tg g) (ht : ∀ s H C cl fp, PTs (Blk X scope s H C cl fp) ifs tt) (hk : ∀ s H C cl fp, PE (Blk X scope s H C cl fp) kx tk) (he : ∀ s H C cl fp, PE (Blk X scope s H C cl fp) vx tv)
    (hs : ∀ x, foldedSetIterable iter X.env x = pure x) (h : tDcA X.k0 kd wi g tt tk tv (own.map (·.2)) σ H Q)
    (out : ∀ D C s' m H', Inv X pins σ H' s' → Q (.ref D) H' → s'.heap.Ns C m → FpOk X pins H' C → compPost (model X.prog X.w) X.A X.xe use Qf (.ref D) C (.ok .next) s') :
    wpAny (model X.prog X.w) X.A (comprehension (.DictComp kx vx [⟨tg, iter, ifs, 0⟩] scope pos) scope X.env pos' newDict false (eval iter X.env) use) Qf X.xe s := by
  have fr : ∀ y ∈ scope.names, y.2 = .free → ∃ c, X.env.cells.lookup y.1 = some c := fun y hy e => (ok.free y hy e).elim (fun z => I.ok.has _ (.inl z)) fun z => I.ok.has _ (.inr z)
  refine wpAny_comprehension_free (use := use) rfl hs (closure_ok fr) ok.kind (fun y hy e => by rw [ok.uniq y hy, e]) (thn (hi.run pins s σ H _ I h) fun xv s1 hx => thn hx fun itv s2 ⟨it, fp, tn, J, H2, ev, I2, T, st2, f2, q⟩ => ?_)
  subst ev
  refine wpAny_newObj_type (newEnv_comp ?_)
  obtain ⟨o, oOk⟩ := newO_ok (P := X.prog) (w := X.w) (H := H2) kd s2.heap I2.big
  have oOk2 : ∀ {H : Hp}, ObjOk X.prog X.w H (s2.heap.push { cls := .type "dict", data := .dict #[] }) s2.heap.objs.size (newO X.w kd s2.heap.objs.size o) := fun {H} => by
    cases kd <;> exact ⟨oOk.1, oOk.2⟩
  have keepD : ∀ {b : Addr} {ob : Obj}, s2.heap.get? b = some ob → (s2.heap.push ({ cls := .type "dict", data := .dict #[] } : Obj)).get? b = some ob := fun {b ob} e => Heap.get?_push_of_some _ e
  have lt2 : ∀ b ∈ fp, b < s2.heap.objs.size := fun b hb => let ⟨_, e, _⟩ := T.obj _ _ st2 b hb; Heap.lt_size e
  generalize hD : s2.heap.objs.size = D at *
  obtain ⟨W, ⟨m0, w0⟩, turn⟩ := q D o (I2.hok.fresh (Nat.le_of_eq hD))
  have I3 : Inv X pins σ (upd H2 D (newO X.w kd D o)) { s2 with heap := s2.heap.push { cls := .type "dict", data := .dict #[] } } := I2.laid (t' := s2.toks) (fun b ob e => keepD e) (Nat.le_of_eq hD) oOk2
  generalize hs3 : ({ s2 with heap := s2.heap.push { cls := .type "dict", data := .dict #[] } } : Shared) = s3 at I3
  have hp3 : s3.heap = s2.heap.push { cls := .type "dict", data := .dict #[] } := by rw [← hs3]
  have f3 : ∀ b ∈ fp, FpOk X pins (upd H2 D (newO X.w kd D o)) b ∧ b < s3.heap.objs.size := fun b hb => by
    refine ⟨⟨?_, (f2 b hb).2⟩, by rw [hp3, Heap.size_push, hD]; exact Nat.lt_succ_of_lt (lt2 b hb)⟩
    rw [upd_ne (Nat.ne_of_lt (lt2 b hb))]
    exact (f2 b hb).1
  have st3 : tn 0 s3.heap := T.keep _ _ _ st2 fun b _ ob e => by rw [hp3]; exact keepD e
  have I4 := block_start I3 ok hN f3
  generalize hH3 : upd H2 D (newO X.w kd D o) = H3 at I3 I4 w0 f3
  generalize hcl : cellsFrom (s3.heap.objs.size + 1) scope.names (cloFrom X.env.cells scope.names []) = cl at I4
  have pg : PG (X.blk s3 H3 scope (compEnvC scope cl s3.heap.objs.size X.env) fp) tg g := hg s3 H3 s3.heap.objs.size cl fp
  have pt : PTs (X.blk s3 H3 scope (compEnvC scope cl s3.heap.objs.size X.env) fp) ifs tt := ht s3 H3 s3.heap.objs.size cl fp
  have pk : PE (X.blk s3 H3 scope (compEnvC scope cl s3.heap.objs.size X.env) fp) kx tk := hk s3 H3 s3.heap.objs.size cl fp
  have pe : PE (X.blk s3 H3 scope (compEnvC scope cl s3.heap.objs.size X.env) fp) vx tv := he s3 H3 s3.heap.objs.size cl fp
  have sh : codeAny (model X.prog X.w) X.A (.compStart (.DictComp kx vx [⟨tg, iter, ifs, 0⟩] scope pos) 0 (.ref it) (.ref D) (compEnvC scope cl s3.heap.objs.size X.env)) (compPost (model X.prog X.w) X.A X.xe use Qf (.ref D) s3.heap.objs.size)
      { s3 with heap := pushCells (s3.heap.push { cls := .type "dict", data := .dict #[] }) scope.names } := by
    generalize hs4 : ({ s3 with heap := pushCells (s3.heap.push { cls := .type "dict", data := .dict #[] }) scope.names } : Shared) = s4 at I4 ⊢
    have st4 : tn 0 s4.heap := T.keep _ _ _ st3 fun b _ ob e => by rw [← hs4]; exact pushCells_keeps _ _ _ _ (Heap.get?_push_of_some _ e)
    generalize hce : compEnvC scope cl s3.heap.objs.size X.env = ce at I4 pg pt pk pe ⊢
    have loc : ce.locals = s3.heap.objs.size := by rw [← hce]; rfl
    have quiet : ∀ {σ' : L2.St} {H' : Hp} {s' : Shared}, Inv (X.blk s3 H3 scope ce fp) [] σ' H' s' → (∀ b ∈ fp, H' b = none) → ∀ b ∈ fp, FpOk (X.blk s3 H3 scope ce fp) [] H' b := fun {σ' H' s'} I' hn b hb =>
      ⟨hn b hb, (I'.ok.exf b hb).1, I'.ok.exfs b hb, .inl hb, fun x c e => (I'.ok.exf b hb).2 x c e, fun p hp => absurd (show p ∈ ([] : List (Addr × Obj)) ++ [] from hp) (by simp)⟩
    have main : codeAny (model X.prog X.w) X.A (.compLoop (.DictComp kx vx [⟨tg, iter, ifs, 0⟩] scope pos) 0 (.ref it) (.ref D) ce) (compPost (model X.prog X.w) X.A X.xe use Qf (.ref D) s3.heap.objs.size) s4 := by
      refine compLoop_anyD (fun n s' => ∃ i H', Inv (X.blk s3 H3 scope ce fp) [] (wipe σ (own.map (·.2))) H' s' ∧ tn i s'.heap ∧ (∀ b ∈ fp, H' b = none) ∧ W i n H') (fun n s5 ⟨i, H5, I5, st5, n5, w5⟩ => ?_) m0 ⟨0, H3, I4, st4, fun b hb => (f3 b hb).1.1, w0⟩
      rcases turn i n H5 w5 with ⟨stop, qq⟩ | ⟨go, Nx, hNx, step⟩
      · refine thnF (T.done (X.blk s3 H3 scope ce fp) rfl rfl rfl hc i [] s5 _ H5 (fun _ _ => False) I5 (quiet I5 n5) st5 stop) fun r s6 ⟨hr, I6⟩ => ?_
        subst hr
        have I7 : Inv X pins σ H5 s6 := I3.call' (ch := fp) I6.os I6.base I6.hok I6.bare fun b hb => ⟨(f3 b hb).1.2.2.2.1, (f3 b hb).1.2.1, (f3 b hb).1.2.2.2.2.1, (f3 b hb).1.2.2.2.2.2⟩
        have nC : H5 s3.heap.objs.size = none := by rw [← loc]; exact I6.free
        obtain ⟨m, hn, _⟩ := I6.loc
        exact out D s3.heap.objs.size s6 m H5 I7 qq (by rw [← loc]; exact hn) (I3.fpOk (Nat.le_refl _) nC)
      · refine thnF (T.item (X.blk s3 H3 scope ce fp) rfl rfl rfl hc i [] s5 _ H5 (fun _ _ => False) I5 (quiet I5 n5) st5 go) fun r s6 ⟨u, hr, h6⟩ => ?_
        subst hr
        refine thnF h6 fun _ s7 ⟨x, H7, I7, r7, y7, st7, n7⟩ => ?_
        have I7' := I7.pinned (quiet I7 n7) (T.obj _ _ st7)
        refine thnF (pg.run _ s7 _ H7 x u _ I7' r7 (step x H7 y7)) fun _ s8 ⟨σ8, H8, I8, hw8, q8⟩ => thnF (pt.run _ s8 σ8 H8 _ I8 q8) fun b s9 ⟨H9, I9, q9⟩ => ?_
        have fin : ∀ {s' : Shared} {H' : Hp}, Inv (X.blk s3 H3 scope ce fp) ([] ++ pinsAt fp s7.heap) σ8 H' s' → Nx H' → ∃ m, m < n ∧ ∃ i H', Inv (X.blk s3 H3 scope ce fp) [] (wipe σ (own.map (·.2))) H' s' ∧ tn i s'.heap ∧ (∀ b ∈ fp, H' b = none) ∧ W i m H' := fun {s' H'} I' nx => by
          obtain ⟨m', hm, w'⟩ := hNx H' nx
          have still : ∀ b ∈ fp, ∀ ob, s7.heap.get? b = some ob → s'.heap.get? b = some ob ∧ H' b = none := fun b hb ob e => by
            have z := I'.pin (b, ob) (List.mem_append_right _ (List.mem_append_right _ (mem_pinsAt hb e)))
            exact ⟨z.1, z.2.1⟩
          refine ⟨m', hm, i + 1, H', (I'.unpinned (pins := [])).weak (by rw [← hw8, wipe_length]) (fun j v e => ?_), T.keep _ _ _ st7 fun b hb ob e => (still b hb ob e).1, fun b hb => ?_, w'⟩
          · rw [← hw8] at e
            exact (wipe_some e).1
          · obtain ⟨ob, e, _⟩ := T.obj _ _ st7 b hb
            exact (still b hb ob e).2
        cases b with
        | false => exact fin I9 q9
        | true =>
          refine thnF (pk.run _ s9 σ8 H9 _ I9 q9) fun z s10 ⟨yk, H10, I10, r10, q10⟩ => thnF (pe.run _ s10 σ8 H10 _ I10 q10) fun z2 s11 ⟨yv, H11, I11, r11, q11⟩ => ?_
          exact thnF (dset_D (X := X.blk s3 H3 scope ce fp) hu I11 r10 r11 q11) fun _ s12 ⟨H12, I12, nx⟩ => fin I12 nx
    exact codeAny_compStart_dict main (T.self X.A 0 _ _ _ st4 main)
  exact sh
end
end PD
namespace PD
open PySem L2 PyProof.Rows PySem.Spec
open Evl (Ex)
/-- a dict comprehension: what is put so far, one by one -/
def compK (kd : Bool) (g : FG) (ft : FT) (fk fv : FE) (vs : List Nat) : List D → List (D × D) → Rho → (List (D × D) → Rho → Prop) → Prop
  | [], acc, ρ, k => k acc ρ
  | x :: xs, acc, ρ, k => g x (wipeR vs ρ) fun ρ1 => ft ρ1 fun b ρ2 => if b = true then fk ρ2 fun y ρ3 => fv ρ3 fun z ρ4 => ∃ kk, keyN y = some kk ∧ kk.depth ≤ 8 ∧ (if kd = true then isTupK y else isFlatK y) = true ∧ compK kd g ft fk fv vs xs (dPut acc y kk z) ⟨ρ.sl, ρ4.n⟩ k
      else compK kd g ft fk fv vs xs acc ⟨ρ.sl, ρ2.n⟩ k
theorem dPut_len (ps : List (D × D)) (kd : D) (k : NestedKey) (e : D) : (dPut ps kd k e).length ≤ ps.length + 1 := by
  unfold dPut
  split
  · rw [List.length_map]; omega
  · rw [List.length_append]; exact Nat.le_refl _
section
variable {X : Cx} {M : Mk0} {tg iter kx vx : Expr} {ifs : List Expr} {fi : FI} {g : FG} {ft : FT} {fk fv : FE} {kd : Bool} {pos : Pos}
theorem compK_mono (mg : ∀ d ρ k k', (∀ ρ', k ρ' → k' ρ') → g d ρ k → g d ρ k') (mt : ∀ ρ k k', (∀ d ρ', k d ρ' → k' d ρ') → ft ρ k → ft ρ k') (mk : ∀ ρ k k', (∀ d ρ', k d ρ' → k' d ρ') → fk ρ k → fk ρ k') (mv : ∀ ρ k k', (∀ d ρ', k d ρ' → k' d ρ') → fv ρ k → fv ρ k') {vs : List Nat} :
    ∀ (ds : List D) (acc : List (D × D)) (ρ : Rho) (k k' : List (D × D) → Rho → Prop), (∀ d ρ', k d ρ' → k' d ρ') → compK kd g ft fk fv vs ds acc ρ k → compK kd g ft fk fv vs ds acc ρ k'
  | [], acc, ρ, k, k', h, q => h _ _ q
  | d :: ds, acc, ρ, k, k', h, q => mg _ _ _ _ (fun ρ1 q => mt _ _ _ (fun t ρ2 q => by
    cases t with
    | true => exact mk _ _ _ (fun y ρ3 q => mv _ _ _ (fun z ρ4 ⟨kk, h1, h2, h3, q⟩ => ⟨kk, h1, h2, h3, compK_mono mg mt mk mv ds _ _ _ _ h q⟩) q) q
    | false => exact compK_mono mg mt mk mv ds _ _ _ _ h q) q) q
def fDc (kd : Bool) (fi : FI) (g : FG) (ft : FT) (fk fv : FE) (vs : List Nat) : FE := fun ρ k => fi ρ fun ds ρ1 => ds.length ≤ 1000000 ∧ compK kd g ft fk fv vs ds [] ⟨ρ1.sl.map dropOwn, ρ1.n⟩ fun out ρ2 => k (.dict out) ⟨ρ1.sl, ρ2.n⟩
theorem fDc_mono {vs : List Nat} (mi : ∀ ρ k k', (∀ d ρ', k d ρ' → k' d ρ') → fi ρ k → fi ρ k') (mg : ∀ d ρ k k', (∀ ρ', k ρ' → k' ρ') → g d ρ k → g d ρ k') (mt : ∀ ρ k k', (∀ d ρ', k d ρ' → k' d ρ') → ft ρ k → ft ρ k') (mk : ∀ ρ k k', (∀ d ρ', k d ρ' → k' d ρ') → fk ρ k → fk ρ k')
    (mv : ∀ ρ k k', (∀ d ρ', k d ρ' → k' d ρ') → fv ρ k → fv ρ k') (ρ : Rho) (k k' : D → Rho → Prop) (h : ∀ d ρ', k d ρ' → k' d ρ') (q : fDc kd fi g ft fk fv vs ρ k) : fDc kd fi g ft fk fv vs ρ k' :=
  mi _ _ _ (fun ds ρ1 q => ⟨q.1, compK_mono mg mt mk mv ds _ _ _ _ (fun out ρ2 q => h _ _ q) q.2⟩) q
theorem dDc {vs : List Nat} (mi : ∀ ρ k k', (∀ d ρ', k d ρ' → k' d ρ') → fi ρ k → fi ρ k') (mg : ∀ d ρ k k', (∀ ρ', k ρ' → k' ρ') → g d ρ k → g d ρ k') (mt : ∀ ρ k k', (∀ d ρ', k d ρ' → k' d ρ') → ft ρ k → ft ρ k') (mk : ∀ ρ k k', (∀ d ρ', k d ρ' → k' d ρ') → fk ρ k → fk ρ k')
    (mv : ∀ ρ k k', (∀ d ρ', k d ρ' → k' d ρ') → fv ρ k → fv ρ k') (σ : L2.St) (H : Hp) (Q : VK) (h : DE X.k0 M (fDc kd fi g ft fk fv vs) σ H Q) :
    tDcA X.k0 kd (DI X.k0 M fi) (DGt X.k0 M vs g) (DT X.k0 M ft) (DE X.k0 M fk) (DE X.k0 M fv) vs σ H Q := by
  obtain ⟨P, F, L, ρ, r, k⟩ := h
  refine ⟨P, F, L, ρ, r, mi _ _ _ (fun ds ρ1 q J L1 H1 e1 r1 w => ?_) k⟩
  obtain ⟨hsz, q⟩ := q
  intro A o hA
  have hFA : F A = none := by
    cases z : F A with
    | none => rfl
    | some u => have := (r1.fr A u z).1; rw [hA] at this; cases this
  have rb := r1.pinNew (o := newO X.k0.w kd A o) hA
  have hno := rb.pinOwn
  have r3 := r1.aside.pinNew (o := newO X.k0.w kd A o) hA
  have e3 : Ex (hide L1 H1) (hide (A :: L1) (upd H1 A (newO X.k0.w kd A o))) := hide_newex hA
  have last : ∀ {L' H' n' out u}, Ex (hide L1 H1) (hide L' H') → R X.k0 M P (upd (keepF ρ1 σ F H1) A u) L' ⟨ρ1.sl.map dropOwn, n'⟩ σ H' → OwAt X.k0 (hide L' H') A u (.d kd out) → KV' X.k0 M P F L σ H Q (.dict out) ⟨ρ1.sl, n'⟩ → Q (.ref A) H' := fun {L' H' n' out u} e' r' d' fin => by
    have ex : Ex (hide (A :: L1) (upd (upd H1 A (newO X.k0.w kd A o)) A u)) (hide L' H') := fun b ob hb => by
      obtain ⟨g1, g2⟩ := hide_some.mp hb
      have nA : b ≠ A := fun z => g1 (by rw [z]; exact List.mem_cons_self)
      rw [upd_ne nA, upd_ne nA] at g2
      exact e' b ob (hide_some.mpr ⟨fun z => g1 (List.mem_cons_of_mem _ z), g2⟩)
    have rk := (rb.repin (o' := u)).back (ρc := ⟨ρ1.sl.map dropOwn, n'⟩) (by
      rw [keepF_upd (H := H1) hno fun a ha => by rw [upd_ne ha, upd_ne ha]]
      exact r') ex
    obtain ⟨L3, e4, r4, d4, _⟩ := reveal_own (c := .d kd out) (e1.trans e') hFA rk d'
    exact fin (.ref A) L3 H' e4 r4 d4
  refine ⟨fun i m H' => m = ds.length - i ∧ i ≤ ds.length ∧ ∃ L' n' acc u, Ex (hide L1 H1) (hide L' H') ∧ R X.k0 M P (upd (keepF ρ1 σ F H1) A u) L' ⟨ρ1.sl.map dropOwn, n'⟩ σ H' ∧ OwAt X.k0 (hide L' H') A u (.d kd acc) ∧ acc.length ≤ i ∧
      compK kd g ft fk fv vs (ds.drop i) acc ⟨ρ1.sl.map dropOwn, n'⟩ (fun out ρ2 => KV' X.k0 M P F L σ H Q (.dict out) ⟨ρ1.sl, ρ2.n⟩),
    ⟨ds.length, by simp, Nat.zero_le _, A :: L1, ρ1.n, [], _, e3, r3, newO_at kd, Nat.le_refl _, by simpa using q⟩, ?_⟩
  rintro i m H' ⟨rfl, hi, L', n', acc, u, e', r', d', ha, q'⟩
  have ww := w L' H' e' r'.tr i
  by_cases hlt : i < ds.length
  · have hd : ds[i]? = some ds[i] := List.getElem?_eq_getElem hlt
    obtain ⟨go, yl⟩ := ww.1 _ hd
    rw [List.drop_eq_getElem_cons hlt] at q'
    refine .inr ⟨go, fun H2 => ∃ L2 n2 acc2 u2, Ex (hide L1 H1) (hide L2 H2) ∧ R X.k0 M P (upd (keepF ρ1 σ F H1) A u2) L2 ⟨ρ1.sl.map dropOwn, n2⟩ σ H2 ∧ OwAt X.k0 (hide L2 H2) A u2 (.d kd acc2) ∧ acc2.length ≤ i + 1 ∧
      compK kd g ft fk fv vs (ds.drop (i + 1)) acc2 ⟨ρ1.sl.map dropOwn, n2⟩ (fun out ρ2 => KV' X.k0 M P F L σ H Q (.dict out) ⟨ρ1.sl, ρ2.n⟩),
      fun H2 ⟨L2, n2, acc2, u2, e2, r2', d2, a2, q2⟩ => ⟨ds.length - (i + 1), by omega, rfl, hlt, L2, n2, acc2, u2, e2, r2', d2, a2, q2⟩, fun x H2 y => ?_⟩
    obtain ⟨e2, d2⟩ := yl x H2 y
    have r4 := (r'.ex e2).wipe vs
    refine ⟨P, _, L', _, ds[i], r4, d2, mg _ _ _ _ (fun ρ5 q5 σ5 L5 H5 e5 r5 o5 => ?_) q'⟩
    refine ⟨by rw [wipe_only o5]; exact wipe_only (wipe_self vs σ), ?_⟩
    have e15 : Ex (hide L1 H1) (hide L5 H5) := (e'.trans (hide_ex e2)).trans e5
    have e'5 : Ex (hide L' H') (hide L5 H5) := (hide_ex e2).trans e5
    refine ⟨P, _, L5, ρ5, r5, mt _ _ _ (fun t ρ6 q6 L6 H6 e6 r6 => ?_) q5⟩
    cases t with
    | true =>
      refine ⟨P, _, L6, ρ6, r6, mk _ _ _ (fun y ρ7 q7 v L7 H7 e7 r7 d7 => ?_) q6⟩
      refine ⟨P, _, L7, ρ7, r7, mv _ _ _ (fun z ρ8 ⟨kk, k1, k2, k3, q8⟩ v2 L8 H8 e8 r8 d8 => ?_) q7⟩
      have pin := r8.pinned
      have ea := e'5.trans (e6.trans (e7.trans e8))
      refine ⟨L8, A, kd, acc, y, z, kk, u, rfl, pin.2, pin.1, d'.up ea, rp_up e8 d7, d8, k1, k2, k3, by omega, fun u' hw => ?_⟩
      have hl := dPut_len acc y kk z
      have hh := hide_repin (H := H8) (o' := u') pin.2
      exact ⟨L8, ρ8.n, dPut acc y kk z, u', by rw [hh]; exact e15.trans (e6.trans (e7.trans e8)), (r'.swap (bare_drop ρ1.sl n') r8 ea).repin, by rw [hh]; exact hw, by omega, q8⟩
    | false =>
      exact ⟨L6, ρ6.n, acc, u, e15.trans e6, r'.swap (bare_drop ρ1.sl n') r6 (e'5.trans e6), d'.up (e'5.trans e6), by omega, q6⟩
  · have e : ds.length ≤ i := by omega
    rw [List.drop_eq_nil_of_le e] at q'
    exact .inl ⟨ww.2 e, last e' r' d' q'⟩
theorem pd_dc (kd : Bool) {scope : Scope} {own : List (Str × Nat)} {vs : List Nat} (hc : X.calm = true) (hu : X.A.units + 64 < cLine) (hN : X.N.Nodup) (hi : PDI X M tg iter fi) (ok : BlkOk X.N X.env.scope scope own) (hv : own.map (·.2) = vs)
    (hg : ∀ s H C cl fp, PG1 (Blk X scope s H C cl fp) M tg vs g) (ht : ∀ s H C cl fp, PTn (Blk X scope s H C cl fp) M ifs ft) (hk : ∀ s H C cl fp, PD (Blk X scope s H C cl fp) M kx fk) (he : ∀ s H C cl fp, PD (Blk X scope s H C cl fp) M vx fv)
    (w0 : Shared) (hs : ∀ x, foldedSetIterable iter X.env x = pure x := by intro _; rfl) : PD X M (.DictComp kx vx [⟨tg, iter, ifs, 0⟩] scope pos) (fDc kd fi g ft fk fv vs) := by
  subst hv
  have h0 := hg w0 (fun _ => none) 0 [] []
  have t0 := ht w0 (fun _ => none) 0 [] []
  have k0 := hk w0 (fun _ => none) 0 [] []
  have e0 := he w0 (fun _ => none) 0 [] []
  refine ⟨⟨fun pins s σ H Q I h => ?_⟩, fDc_mono hi.mono h0.mono t0.mono k0.mono e0.mono⟩
  have h := dDc hi.mono h0.mono t0.mono k0.mono e0.mono σ H Q h
  rw [arm_eval_DictComp]
  refine dcA (g := DGt X.k0 M (own.map (·.2)) g) kd hc hu hN I hi.pi ok (fun s H C cl fp => (hg s H C cl fp).pg) (fun s H C cl fp => (ht s H C cl fp).pt) (fun s H C cl fp => (hk s H C cl fp).pe) (fun s H C cl fp => (he s H C cl fp).pe) hs h fun D C s' m H' I' q hn f => ⟨m, hn, fun h'' sb => ?_⟩
  obtain ⟨f0, f1, f2, f3, f4, f5⟩ := f
  exact ⟨.ref D, H', I'.turned (t' := s'.toks) (fun b o hb e => (sb.2 b hb).trans e) f0 f1 f3 f4 f5, rfl, q⟩
end
end PD
namespace PD
open PySem L2 PyProof.Rows PySem.Spec
open Evl (Ex)
abbrev FP := Rho → (List (D × D) → Rho → Prop) → Prop
/-- the pairs, one by one into what is there -/
def putAll (kd : Bool) : List (D × D) → List (D × D) → Option (List (D × D))
  | acc, [] => some acc
  | acc, (y, z) :: r => match keyN y with
    | some kk => if kk.depth ≤ 8 ∧ (if kd = true then isTupK y else isFlatK y) = true then putAll kd (dPut acc y kk z) r else none
    | none => none
section
variable {X : Cx} {M : Mk0} {pos : Pos} {ke ve : Expr} {ks : List (Option Expr)} {vs : List Expr} {fk fv : FE} {fp : FP}
def fpNil : FP := fun ρ k => k [] ρ
def fpCons (fk fv : FE) (fp : FP) : FP := fun ρ k => fk ρ fun y ρ1 => fv ρ1 fun z ρ2 => fp ρ2 fun ps ρ3 => k ((y, z) :: ps) ρ3
end
section
variable {X : Cx} {M : Mk0} {pos : Pos} {keys : List (Option Expr)} {values : List Expr} {fp : FP}
def fDisp (kd : Bool) (fp : FP) : FE := fun ρ k => fp ρ fun ps ρ1 => ∃ out, putAll kd [] ps = some out ∧ ps.length ≤ 1000000 ∧ k (.dict out) ρ1
/-- {}, as data -/
def fDict0 : FE := fun ρ k => k (.dict []) ρ
end
end PD
namespace PD
open PySem L2 PyProof.Rows PySem.Spec
open Evl (Ex)
section
variable {X : Cx} {pins : List (Addr × Obj)} {σ : L2.St} {H : Hp} {s : Shared}
theorem get_or (hu : X.A.units + 64 < cLine) (I : Inv X pins σ H s) (L : List Addr) {a : Addr} {ps : List (D × D)} {kd dz : D} {k : NestedKey} {y z : V} {u r : Value} {Q : Value → Shared → Prop} {E : Value → Shared → Prop} (h1 : Rp X.k0 (hide L H) (.ref a) (.dict ps)) (hy : Rp X.k0 H y kd) (ry : RelV y u)
    (hz : Rp X.k0 (hide L H) z dz) (rz : RelV z r) (hk : keyOk kd ps = some k) (full : ps ≠ []) (q : ∀ w r' s', Inv X pins σ H s' → RelV w r' → Rp X.k0 (hide L H) w ((dAt ps k).getD dz) → Q r' s') :
    wpAny (model X.prog X.w) X.A (call (.builtin "dict.get") [.ref a, u, r]) Q E s := by
  obtain ⟨e1, e2, hkind⟩ := keyOk_of hk
  have room : (nestedKind X.prog X.w).room X.A.in1 := by
    show X.A.units + 1 + 8 < cLine
    omega
  have up := hide_le L H
  cases h1 with
  | @dct _ o kvs _ h1 h2 =>
    have ha := up _ _ h1
    rcases hkind with ⟨ht, hall⟩ | ⟨hf, hall⟩
    · cases h2 with
      | nil => exact absurd rfl full
      | @cons k0 v kvs d e ps g1 g2 g3 =>
        rw [List.all_cons, Bool.and_eq_true] at hall
        cases k0 <;> (cases g1; cases hall.1)
    · obtain ⟨kk, ey, hkk⟩ := flatK_of hy hf e1
      have hkk' : ∀ (kk' : Key) (d : D), Rp X.k0 (hide L H) (kV kk') d → (keyN d = some k ↔ kk' = kk) := fun kk' d z => hkk kk' d (rp_up up z)
      subst ey
      obtain ⟨hd, _, vs, rel, dd⟩ := kdo_get I ha
      refine call_meetsIn PySem.F.slot_dict_get dd.typeIs PySem.F.entry_dict_get (PySem.F.args_dict_get_3 _ _ _) (meets_dict_get_default (mixKind X.prog X.w) a (kV_is ry) hd r) ⟨_, dd.mapOf, q ((valV kvs kk).getD z) _ _ (I.tok _) ((rel.val kk).getD rz) ?_⟩
      rcases valV_at hkk' h2 with ⟨z1, z2⟩ | ⟨v, e', z1, z2, z3⟩
      · rw [z1, z2]; exact hz
      · rw [z1, z2]; exact z3
  | @dctN _ o xs _ h1 h2 =>
    have ha := up _ _ h1
    rcases hkind with ⟨ht, hall⟩ | ⟨hf, hall⟩
    · obtain ⟨hd, hz2, ys, rel, hm⟩ := ndo_get I ha (rpn_up up h2)
      cases kd with
      | tuple ds =>
        have hy' := hy
        cases hy' with
        | @tup b xs' _ t1 t2 =>
          cases ry
          have is : (nestedKind X.prog X.w).is s.heap k b := ⟨nested_is I _ _ _ k hy rfl e1, e2⟩
          have tp : s.TypeIs (.ref a) "dict" := hm.typeIs
          cases he : dAt ps k with
          | none =>
            have hn := (at_none (k := k) rel (rpn_up up h2)).mp he
            refine call_meetsIn PySem.F.slot_dict_get tp PySem.F.entry_dict_get (PySem.F.args_dict_get_3 _ _ _) (meetsH_dict_get_default (nestedKind X.prog X.w) a b hd r) ⟨room, k, ys, is, hm, q z _ _ (I.tok _) ?_ (by rw [he]; exact hz)⟩
            rw [hn]
            exact rz
          | some e =>
            obtain ⟨b', v, w', g1, g2, g3⟩ := at_some (k := k) rel h2 he
            refine call_meetsIn PySem.F.slot_dict_get tp PySem.F.entry_dict_get (PySem.F.args_dict_get_3 _ _ _) (meetsH_dict_get_default (nestedKind X.prog X.w) a b hd r) ⟨room, k, ys, is, hm, q v _ _ (I.tok _) ?_ (by rw [he]; exact g3)⟩
            rw [g1]
            exact g2
      | _ => cases ht
    · cases h2 with
      | nil => exact absurd rfl full
      | @cons k0 b v xs d e ps g0 gd g1 g2 g3 =>
        rw [List.all_cons, Bool.and_eq_true] at hall
        cases g1 <;> cases hall.1
  | obj h1 h2 =>
    rcases hkind with ⟨_, hall⟩ | ⟨_, hall⟩
    · rw [List.all_cons, Bool.and_eq_true] at hall
      cases hall.1
    · rw [List.all_cons, Bool.and_eq_true] at hall
      cases hall.1
  | clo _ _ _ _ _ =>
    rcases hkind with ⟨_, hall⟩ | ⟨_, hall⟩
    · rw [List.all_cons, Bool.and_eq_true] at hall
      cases hall.1
    · rw [List.all_cons, Bool.and_eq_true] at hall
      cases hall.1
end
section
variable {X : Cx} {M : Mk0} {o e f : Expr} {fo fk fx : FE} {apos cpos : Pos}
/-- d.get(k, x), d a dict that is not empty -/
def fGet (fo fk fx : FE) : FE := fun ρ q => fo ρ fun d ρ1 => ∃ ps, d = .dict ps ∧ ps ≠ [] ∧ ((ps.all fun p => isTupK p.1) = true ∨ (ps.all fun p => isFlatK p.1) = true) ∧ fk ρ1 fun dk ρ2 => ∃ k, keyOk dk ps = some k ∧ fx ρ2 fun dx ρ3 => q ((dAt ps k).getD dx) ρ3
theorem pd_get (hu : X.A.units + 64 < cLine) (ho : PD X M o fo) (he : PD X M e fk) (hf : PD X M f fx) (m : M2 X o "get" apos e f cpos) : PD X M (.Call (.Attribute o "get" apos) [e, f] [] cpos) (fGet fo fk fx) := by
  refine ⟨⟨fun pins s σ H Q I ⟨P, F, L, ρ, r, q⟩ => ?_⟩, fun ρ k k' g q => ho.mono _ _ _ (fun d ρ1 ⟨ps, h1, h2, h3, q⟩ => ⟨ps, h1, h2, h3, he.mono _ _ _ (fun dk ρ2 ⟨kk, h4, q⟩ => ⟨kk, h4, hf.mono _ _ _ (fun dx ρ3 q => g _ _ q) q⟩) q⟩) q⟩
  refine wpAny_Call_method m.base m.few m.line PySem.F.plainAttrs_dict PySem.F.slot_dict_get PySem.F.type_dict_get (thn (ho.pe.run pins s σ H
    (fun x H1 => ∃ L1 ρ1 ps, Ex (hide L H) (hide L1 H1) ∧ R X.k0 M P F L1 ρ1 σ H1 ∧ Rp X.k0 (hide L1 H1) x (.dict ps) ∧ ps ≠ [] ∧ ((ps.all fun p => isTupK p.1) = true ∨ (ps.all fun p => isFlatK p.1) = true) ∧ fk ρ1 fun dk ρ2 => ∃ k, keyOk dk ps = some k ∧ fx ρ2 fun dx ρ3 => KV' X.k0 M P F L σ H Q ((dAt ps k).getD dx) ρ3) I
    ⟨P, F, L, ρ, r, ho.mono _ _ _ (fun d ρ1 ⟨ps, h1, h2, h3, q⟩ v L1 H1 e1 r1 d1 => ⟨L1, ρ1, ps, e1, r1, by rw [← h1]; exact d1, h2, h3, q⟩) q⟩) fun u s1 ⟨x, H1, I1, rx, L1, ρ1, ps, e1, r1, d1, full, kinds, q1⟩ => ?_)
  obtain ⟨a, rfl⟩ := dict_ref d1
  obtain rfl : u = Value.ref a := rx
  have tp : s1.TypeIs (.ref a) "dict" := dct_typeIs I1 (rp_up (hide_le L1 H1) d1) kinds
  refine ⟨tp, ?_, ?_⟩
  · intro b hb
    cases hb
    cases d1 with
    | dct h1 h2 =>
      obtain ⟨_, _, vs, _, ob, _, _, g1, g2, _⟩ := kdo_get I1 (hide_le L1 H1 _ _ h1)
      exact ⟨ob, g1, g2.2.1⟩
    | dctN h1 h2 =>
      obtain ⟨_, _, ys, _, ob, _, _, g1, g2, _⟩ := ndo_get I1 (hide_le L1 H1 _ _ h1) (rpn_up (hide_le L1 H1) h2)
      exact ⟨ob, g1, g2.2.1⟩
    | obj h1 h2 =>
      rcases kinds with z | z
      · rw [List.all_cons, Bool.and_eq_true] at z; cases z.1
      · rw [List.all_cons, Bool.and_eq_true] at z; cases z.1
    | clo _ _ _ _ _ =>
      rcases kinds with z | z
      · rw [List.all_cons, Bool.and_eq_true] at z; cases z.1
      · rw [List.all_cons, Bool.and_eq_true] at z; cases z.1
  rw [m.trees]
  refine Calls.callWith_builtin rfl (Calls.evalArgs_plain (Calls.spliced_cons (thn (he.pe.run pins s1 σ H1
    (fun y H2 => ∃ L2 ρ2 dk k, Ex (hide L1 H1) (hide L2 H2) ∧ R X.k0 M P F L2 ρ2 σ H2 ∧ Rp X.k0 (hide L2 H2) y dk ∧ keyOk dk ps = some k ∧ fx ρ2 fun dx ρ3 => KV' X.k0 M P F L σ H Q ((dAt ps k).getD dx) ρ3) I1
    ⟨P, F, L1, ρ1, r1, he.mono _ _ _ (fun dk ρ2 ⟨k, h4, q⟩ v L2 H2 e2 r2 d2 => ⟨L2, ρ2, dk, k, e2, r2, d2, h4, q⟩) q1⟩) fun iv s2 ⟨y, H2, I2, ry, L2, ρ2, dk, k, e2, r2, d2, hk, q2⟩ => ?_)))
  refine Calls.spliced_cons (thn (hf.pe.run pins s2 σ H2
    (fun z H3 => ∃ L3 ρ3 dx, Ex (hide L2 H2) (hide L3 H3) ∧ R X.k0 M P F L3 ρ3 σ H3 ∧ Rp X.k0 (hide L3 H3) z dx ∧ KV' X.k0 M P F L σ H Q ((dAt ps k).getD dx) ρ3) I2
    ⟨P, F, L2, ρ2, r2, hf.mono _ _ _ (fun dx ρ3 q v L3 H3 e3 r3 d3 => ⟨L3, ρ3, dx, e3, r3, d3, q⟩) q2⟩) fun fv s3 ⟨z, H3, I3, rz, L3, ρ3, dx, e3, r3, d3, q3⟩ => Calls.spliced_nil ?_)
  refine get_or hu I3 L3 (rp_up (e2.trans e3) d1) (rp_up (hide_le L3 H3) (rp_up e3 d2)) ry d3 rz hk full fun w r' s4 I4 rw' dw => ?_
  exact ⟨w, H3, I4, rw', q3 w L3 H3 ((e1.trans e2).trans e3) r3 dw⟩
end
end PD
namespace PD
open PySem L2 PyProof.Rows PySem.Spec
open Evl (Ex)
section
variable {X : Cx}
theorem ent_len {d : Addr} {o : Obj} {u : HO} {es : Array DictEntry} {ep : Nat} {ks vs : List V} (E : DEnt d o u es ep ks vs) {acc : Array Value} (hi : ItemsOf (fun i v => ∃ hi : i < es.size, v = es[i].key) acc es.size) : Vals ks acc.toList := by
  have hl : ks.length = acc.toList.length := by
    have h1 := hi.1
    have h2 := E.lk
    have h3 : acc.toList.length = acc.size := Array.length_toList
    omega
  have all : ∀ (i : Nat) (x : V) (v : Value), ks[i]? = some x → acc.toList[i]? = some v → RelV x v := fun i x v h1 h2 => by
    have h3 : acc[i]? = some v := by rw [← Array.getElem?_toList]; exact h2
    obtain ⟨hlt, rfl⟩ := hi.2 i v h3
    exact E.key i hlt x h1
  clear hi
  generalize acc.toList = ws at hl all
  clear E
  induction ks generalizing ws with
  | nil =>
    cases ws with
    | nil => exact .nil
    | cons _ _ => cases hl
  | cons x ks ih =>
    cases ws with
    | nil => cases hl
    | cons v ws => exact .cons (all 0 x v rfl rfl) (ih ws (by simpa using hl) fun i y u h1 h2 => all (i + 1) y u (by simpa using h1) (by simpa using h2))
end
theorem dict_ents {K : Fr0} {H : Hp} {v : V} {ps : List (D × D)} (h : Rp K H v (.dict ps)) (hk : keysOk ps = true) :
    ∃ d, v = .ref d ∧ ((∃ o zs, H d = some (NdO K.w d o zs) ∧ RpAll K H (nk zs) (dKeys ps)) ∨ ∃ o kvs, H d = some (KdO K.w d o kvs) ∧ RpAll K H (kk kvs) (dKeys ps)) := by
  cases h with
  | dct h1 h2 => exact ⟨_, rfl, .inr ⟨_, _, h1, (rpk_all h2).1⟩⟩
  | dctN h1 h2 => exact ⟨_, rfl, .inl ⟨_, _, h1, (rpn_all h2).1⟩⟩
  | obj h1 h2 => simp [keysOk, isTupK, isFlatK] at hk
  | clo _ _ _ _ _ => simp [keysOk, isTupK, isFlatK] at hk
section
variable {X : Cx} {M : Mk0} {a : Expr} {fa : FE} {pos : Pos}
/-- over a list, a tuple, or the keys of a dict -/
def walkD : D → Option (List D)
  | .list xs => some xs
  | .tuple xs => some xs
  | .dict ps => if keysOk ps = true then some (dKeys ps) else none
  | _ => none
def fiAny (fa : FE) : FI := fun ρ k => fa ρ fun d ρ1 => ∃ ds, walkD d = some ds ∧ k ds ρ1
def iBoth (K : Fr0) (l : TE) : TI := fun σ H R => l σ H fun x H1 => ∃ a, x = V.ref a ∧ ((((∃ xs, SqL K.f H1 a xs) ∧ R (Itl K.f a) H1) ∨ ((∃ xs, SqT K.f H1 a xs) ∧ R (Itt K.f a) H1)) ∨
  ((∃ o xs, H1 a = some (NdO K.w a o xs) ∧ R (ItX a (NdO K.w a o xs) (nk xs)) H1) ∨ ∃ o kvs, H1 a = some (KdO K.w a o kvs) ∧ R (ItX a (KdO K.w a o kvs) (kk kvs)) H1))
variable {tg e : Expr} {td : TE}
theorem pi_both (he : PE X e td) : PI X tg e (iBoth X.k0 td) := by
  refine ⟨fun pins s σ H R I h => thn (he.run pins s σ H _ I h) fun v s1 ⟨x, H1, I1, rx, d, ex, q⟩ => ?_⟩
  subst ex
  obtain rfl : v = Value.ref d := rx
  rcases q with (⟨⟨xs, hq⟩, q⟩ | ⟨⟨xs, hq⟩, q⟩) | q
  · exact pi_seq.pi_list_tail I1 rfl hq q
  · exact pi_seq.pi_tup_tail I1 rfl hq q
  · obtain ⟨o, u, es, ep, ks, vs, hd, E, q⟩ := over_ent (J := fun d u ks _ => ItX d u ks) (R := R) I1 q
    exact wpAny_pyIter_dict_raw E.sys (E.raw I1.hok hd) (pi_one (tk := s1.toks) I1 _ (turn_k _ E) ⟨_, Heap.get?_push_size _ rfl, rfl, rfl⟩ q)
theorem fiAny_mono (ma : ∀ ρ k k', (∀ d ρ', k d ρ' → k' d ρ') → fa ρ k → fa ρ k') (ρ : Rho) (k k' : List D → Rho → Prop) (h : ∀ d ρ', k d ρ' → k' d ρ') (q : fiAny fa ρ k) : fiAny fa ρ k' :=
  ma _ _ _ (fun d ρ1 ⟨ds, h1, h2⟩ => ⟨ds, h1, h _ _ h2⟩) q
theorem pdi_any (h : PD X M e fa) : PDI X M tg e (fiAny fa) := by
  refine ⟨PI.wk (pi_both h.pe) fun σ H Q ⟨P, F, L, ρ, r, k⟩ => ?_, fiAny_mono h.mono⟩
  refine ⟨P, F, L, ρ, r, h.mono _ _ _ (fun d ρ1 ⟨ds, h1, q⟩ v L1 H1 e1 r1 d1 => ?_) k⟩
  cases d with
  | list xs =>
    cases h1
    cases d1 with
    | lst g1 g2 => exact ⟨_, rfl, .inl (.inl ⟨⟨_, sql_le g1⟩, q _ L1 H1 e1 r1 (walks_l g1 g2)⟩)⟩
  | tuple xs =>
    cases h1
    cases d1 with
    | tup g1 g2 => exact ⟨_, rfl, .inl (.inr ⟨⟨_, sqt_le g1⟩, q _ L1 H1 e1 r1 (walks_t g1 g2)⟩)⟩
  | dict ps =>
    have h1 : (if keysOk ps = true then some (dKeys ps) else none) = some ds := h1
    split at h1
    · cases h1
      rename_i hk
      obtain ⟨b, rfl, z⟩ := dict_ents d1 hk
      refine ⟨b, rfl, .inr ?_⟩
      rcases z with ⟨o, zs, z1, z2⟩ | ⟨o, zs, z1, z2⟩
      · exact .inl ⟨o, zs, (hide_some.mp z1).2, q _ L1 H1 e1 r1 (walks_x z1 z2)⟩
      · exact .inr ⟨o, zs, (hide_some.mp z1).2, q _ L1 H1 e1 r1 (walks_x z1 z2)⟩
    · cases h1
  | none => cases h1
  | bool _ => cases h1
  | int _ => cases h1
  | str _ => cases h1
end
end PD
namespace PD
open PySem L2 PyProof.Rows PySem.Spec
open Evl (Ex)
/-- no instance of a class -/
def noInst : D → Bool
  | .dict ((.list _, _) :: _) => false
  | _ => true
section
variable {X : Cx} {M : Mk0} {a : Expr} {fa : FE} {pos : Pos}
theorem noInst_rp {K : Fr0} {H : Hp} {v : V} {ps : List (D × D)} (h : Rp K H v (.dict ps)) (hn : noInst (.dict ps) = true) : ∃ a, v = .ref a ∧ ((∃ o kvs, H a = some (KdO K.w a o kvs)) ∨ ∃ o xs, H a = some (NdO K.w a o xs)) := by
  cases h with
  | dct h1 _ => exact ⟨_, rfl, .inl ⟨_, _, h1⟩⟩
  | dctN h1 _ => exact ⟨_, rfl, .inr ⟨_, _, h1⟩⟩
  | obj h1 _ => cases hn
  | clo _ _ _ _ _ => cases hn
def rIsiD (K : Fr0) (T : String) : List V → Hp → VK → Prop := fun xs H Q => ∃ x d, xs = [x, .ty T] ∧ okT T = true ∧ Rp K H x d ∧ noInst d = true ∧ Q (.bl (isT T d)) H
theorem call_isiD {T : String} : CallR X (.builtin "isinstance") (rIsiD X.k0 T) := by
  intro pins s σ H xs us Q I r h
  obtain ⟨x, d, rfl, hT, hx, hn, q⟩ := h
  by_cases hd : notDict d = true
  · exact call_isi pins s σ H _ us Q I r ⟨x, .ty T, _, _, isT T d, rfl, .ty T, tyx hx hd, kit_is (K := X.k0) hT d, q⟩
  · cases d with
    | dict ps =>
      obtain ⟨u1, u2, rfl, r1, r2⟩ := vals2 r
      obtain ⟨b, rfl, hb⟩ := noInst_rp hx hn
      cases (show u1 = Value.ref b from r1)
      cases (show u2 = Value.type T from r2)
      have ed : ∃ o, s.heap.get? b = some o ∧ o.ExactDict := by
        rcases hb with ⟨o, kvs, hb⟩ | ⟨o, xs, hb⟩
        · exact ⟨o, (I.hok b _ hb).1.1, (I.hok b _ hb).1.2.2.1⟩
        · exact ⟨o, (I.hok b _ hb).1.1, (I.hok b _ hb).1.2.2.1⟩
      obtain ⟨o, h1, h2⟩ := ed
      exact PySem.W.kia_one PySem.W.kitx_dict I.kIn ⟨o, h1, h2.1⟩ (kit_is (K := X.k0) hT (.dict ps)) (fun z => nomatch z) fun tk => ⟨.bl _, H, I.tok tk, rfl, q⟩
    | none => exact absurd rfl hd
    | bool _ => exact absurd rfl hd
    | int _ => exact absurd rfl hd
    | str _ => exact absurd rfl hd
    | list _ => exact absurd rfl hd
    | tuple _ => exact absurd rfl hd
def gIsTX (T : String) (d : D) : Option D := if noInst d = true then some (.bool (isT T d)) else none
theorem pd_isiX {T : String} {x : Str} {p px : Pos} (hT : okT T = true) (hg : Gl X "isinstance") (hm : X.mg "isinstance" = none) (hx : PE X (.Name x px) (tC (.ty T))) (ha : PD X M a fa)
    (hs : starEach [a, .Name x px] X.env = (false, eval a X.env) :: starEach [.Name x px] X.env := by rfl) (hs2 : starEach [.Name x px] X.env = (false, eval (.Name x px) X.env) :: starEach [] X.env := by rfl)
    (hpl : (backTo pos (starEach [.Name x px] X.env)).any (·.1) = false := by rfl) :
    PD X M (.Call (.Name "isinstance" p) [a, .Name x px] [] pos) (fUn (gIsTX T) fa) := by
  refine ⟨PE.wk (pe_callB (call_isiD (T := T)) hg hm (by decide +kernel) (pa_cons ha.pe (pa_cons hx pa_nil hs2) hs) (by decide) (by decide) hs hpl) fun σ H Q ⟨P, F, L, ρ, r, k⟩ => ?_, fUn_mono ha.mono⟩
  refine ⟨P, F, L, ρ, r, ha.mono _ _ _ (fun d ρ1 ⟨e, he, q⟩ v L1 H1 e1 r1 d1 => ?_) k⟩
  unfold gIsTX at he
  split at he
  · rename_i hd
    cases he
    exact ⟨v, d, rfl, hT, dp_ex (hide_le L1 H1) _ _ d1, hd, q _ L1 H1 e1 r1 (.bl _)⟩
  · cases he
end
end PD
namespace PD
open PySem L2 PyProof.Rows PySem.Spec TL
open Evl (Ex)
theorem FnG_never {P : Program} {w : World} {K : PySem.W.Frag} {mg : Str → Option Value} {base : Heap} {M : Mk0} {k n : Nat} {f : Addr} {fd : FuncData} {ps : List Str} : FnG P w K mg base (L2.CX P w) k f fd ps (spD ⟨K, w, P⟩ M n (fun _ _ => False)) :=
  ⟨fun _ _ _ _ ⟨_, _, _, _, _, _, _, q⟩ => q.elim, fun _ _ _ _ _ _ _ _ _ _ _ _ _ _ ⟨_, _, _, _, _, _, _, q⟩ => q.elim⟩
theorem noInst_n : noInst .none = true := rfl
theorem noInst_b (b : Bool) : noInst (.bool b) = true := rfl
theorem noInst_i (b : Int) : noInst (.int b) = true := rfl
theorem noInst_s (b : Str) : noInst (.str b) = true := rfl
theorem noInst_l (b : List D) : noInst (.list b) = true := rfl
theorem noInst_t (b : List D) : noInst (.tuple b) = true := rfl
end PD
namespace GM
open PD PySem
abbrev tupI (ns : List Int) : D := .tuple (ns.map .int)
abbrev tupT (T : List (List Int)) : D := .tuple (T.map tupI)
abbrev wishD (q : Int) (T : List (List Int)) (G : List Int) : D := .tuple [.int q, tupT T, tupI G]
structure WOK (q : Int) (T : List (List Int)) (G : List Int) : Prop where
  q1 : 1 ≤ q
  q4 : q ≤ 4
  t1 : 1 ≤ T.length
  t6 : T.length ≤ 6
  row : ∀ r ∈ T, (r.length : Int) = q ∧ ∀ x ∈ r, 0 ≤ x ∧ x ≤ (T.length : Int) - 1
  gs : G.Pairwise (· < ·)
  gr : ∀ x ∈ G, 0 ≤ x ∧ x ≤ (T.length : Int) - 1
  g0 : 0 ∈ G
structure KOK (q h a : Int) (lo : List Int) : Prop where
  h0 : 0 ≤ h
  h3 : h ≤ 3
  a0 : 0 ≤ a
  a2 : a ≤ 2
  ls : lo.Pairwise (· < ·)
  lr : ∀ x ∈ lo, 0 ≤ x ∧ x ≤ q - 1
theorem asc_len : ∀ {G : List Int} {lo hi : Int}, G.Pairwise (· < ·) → (∀ x ∈ G, lo ≤ x ∧ x ≤ hi) → (G.length : Int) ≤ max 0 (hi - lo + 1)
  | [], _, _, _, _ => by simp; omega
  | x :: xs, lo, hi, h, hr => by
    have h' := List.pairwise_cons.mp h
    have hx := hr x List.mem_cons_self
    have := asc_len (lo := x + 1) (hi := hi) h'.2 fun y hy => ⟨by have := h'.1 y hy; omega, (hr y (List.mem_cons_of_mem _ hy)).2⟩
    rw [List.length_cons]
    omega
/-- a step, a way -/
def stp (T : List (List Int)) (s d : Int) : Int := (T.getD s.toNat []).getD d.toNat 0
def walkT (T : List (List Int)) (s : Int) (r : List Int) : Int := r.foldl (stp T) s
abbrev St (T : List (List Int)) (s : Int) : Prop := 0 ≤ s ∧ s ≤ (T.length : Int) - 1
abbrev Dd (q : Int) (d : Int) : Prop := 0 ≤ d ∧ d ≤ q - 1
theorem WOK.at {q : Int} {T : List (List Int)} {G : List Int} (h : WOK q T G) {s : Int} (hs : St T s) : ∃ (i : Nat) (hi : i < T.length), s = i ∧ T.getD s.toNat [] = T[i] ∧ (T[i].length : Int) = q ∧ ∀ x ∈ T[i], St T x := by
  obtain ⟨i, rfl⟩ := Int.eq_ofNat_of_zero_le hs.1
  have hi : i < T.length := by have := hs.2; omega
  have hr := h.row T[i] (List.getElem_mem hi)
  exact ⟨i, hi, rfl, by simp [List.getD, hi], hr.1, hr.2⟩
structure IsLive (T : List (List Int)) (G S : List Int) : Prop where
  asc : S.Pairwise (· < ·)
  rng : ∀ x ∈ S, 0 ≤ x ∧ x ≤ (T.length : Int) - 1
  sup : ∀ x ∈ G, x ∈ S
  clo : ∀ (i : Nat) (h : i < T.length), (∃ b ∈ T[i], b ∈ S) → (i : Int) ∈ S
  min : ∀ A : Int → Prop, (∀ x ∈ G, A x) → (∀ (i : Nat) (h : i < T.length), (∃ b ∈ T[i], A b) → A i) → ∀ x ∈ S, A x
structure Ru where
  q : Int
  T : List (List Int)
  G : List Int
  L : List Int
  h : Int
  a : Int
  lo : List Int
structure RuOK (r : Ru) : Prop where
  w : WOK r.q r.T r.G
  l : IsLive r.T r.G r.L
  k : KOK r.q r.h r.a r.lo
inductive Po where
  | even (s : Int)
  | behind (s : Int) (x : List Int)
  | ahead (s : Int) (t : List Int)
  | off (s : Int)
  deriving DecidableEq
def Po.d : Po → D
  | .even s => .tuple [.str "even", .int s]
  | .behind s x => .tuple [.str "behind", .int s, tupI x]
  | .ahead s t => .tuple [.str "ahead", .int s, tupI t]
  | .off s => .tuple [.str "off", .int s]
/-- the order of rows -/
abbrev Lx (x y : List Int) : Prop := x < y
/-- a position by its form -/
def POK (r : Ru) : Po → Prop
  | .even s => s ∈ r.G
  | .off s => s ∈ r.G
  | .behind s x => s ∈ r.G ∧ 1 ≤ x.length ∧ (x.length : Int) ≤ r.h ∧ (∀ d ∈ x, Dd r.q d ∧ d ∉ r.lo) ∧ (∀ n, 1 ≤ n → n ≤ x.length → walkT r.T s (x.take n) ∉ r.G) ∧ walkT r.T s x ∈ r.L
  | .ahead s t => St r.T s ∧ s ∉ r.G ∧ (t.length : Int) ≤ r.a ∧ (∀ d ∈ t, Dd r.q d) ∧ walkT r.T s t ∈ r.G
end GM
namespace GM
open PD PySem
section
variable {r : Ru}
theorem RuOK.st_g (K : RuOK r) {s : Int} (h : s ∈ r.G) : St r.T s := K.w.gr s h
theorem POK.st (K : RuOK r) : ∀ {p : Po}, POK r p → St r.T (match p with | .even s => s | .behind s _ => s | .ahead s _ => s | .off s => s)
  | .even _, h => K.st_g h
  | .off _, h => K.st_g h
  | .behind _ _, h => K.st_g h.1
  | .ahead _ _, h => h.1
end
end GM
namespace GM
open PD PySem
end GM
namespace GM
open PD PySem L2
section
variable {α β : Type} [DecidableEq α] {e : α → D} {f : β → D} {l : List (α × β)} {x : α} {b : β}
theorem look_some : (l.lookup x).isSome = decide (x ∈ l.map (·.1)) := by
  induction l with
  | nil => rfl
  | cons p l ih =>
    obtain ⟨y, c⟩ := p
    rw [List.lookup_cons, List.map_cons]
    by_cases h : x = y
    · subst h; simp
    · have : (x == y) = false := by simpa using h
      rw [this]
      simp only [ih, List.mem_cons, h, false_or]
end
end GM
namespace GP
open PySem L2 PyProof.Rows PySem.Spec PD GM
open Evl (Ex)
def cntB : D → Bool
  | .int x => decide (0 ≤ x)
  | _ => false
def intB (d : D) (a b : Int) : Bool := match d with
  | .int x => decide (0 ≤ x ∧ a ≤ x ∧ x ≤ b)
  | _ => false
def numsB (d : D) (m : Int) : Bool := match d with
  | .tuple xs => xs.all fun x => intB x 0 (m - 1)
  | _ => false
/-- small enough, and no instances right below -/
def okD : D → Prop
  | .tuple xs => xs.length ≤ 100000 ∧ ∀ x ∈ xs, noInst x = true
  | d => noInst d = true
def w_is_count : FS := fsSeq (fsIf (ftOr (ftT (fUn (gIsTX "bool") (fVar 0))) (ftNot (ftT (fUn (gIsTX "int") (fVar 0))))) (fsRet (fC (.bool false))) (fsNext))
  (fsRet (fOp gGe (fVar 0) (fC (.int 0))))
def W_is_count : FE := fun ρ k => ∃ (d : D), ρ.sl = [.d d] ∧ (noInst d = true) ∧ k (.bool (cntB d)) ρ
theorem mW_is_count (ρ : Rho) (k k' : KD) (hM : ∀ d ρ', k d ρ' → k' d ρ') (q : W_is_count ρ k) : W_is_count ρ k' := by
  obtain ⟨d, e1, e2, e3⟩ := q
  exact ⟨d, e1, e2, hM _ _ e3⟩
theorem ok_is_count : ∀ ρ k, W_is_count ρ k → fBody 1 w_is_count ρ k := by
  rintro ⟨sl, n⟩ k ⟨d, e, hn, q⟩
  simp only at e
  subst e
  cases d <;> simp [w_is_count] <;> simp [and_assoc, Rho.set, dropOwn, ftLend, fLend, lendR, frz, ow, nList, -forall_exists_index, fBody, fsSeq, fsIf, fsRet, fsNext, fsDrop, fsAsg, fsNever, fsFor, fsOwn, fsPar2, fsPar3, fsPar_od, fsPar_do, fsPar_oo, fVar, fC, fUn, fOp, fChain, fTup, fLst, fCall, faD, faSt, flCons, flNil, fSl, foSome, foNone, fAnd, fOr, fNot, fIf, fOfN, fn1, fnLst, fnCat, fgN, fgTup, fgCons, fgNil, fiSeq, fiRange1, fiRange2, fiEnumA, fiZip, ftOr, ftAnd, ftNot, ftB, ftT, ftYes, truD_b, truD_i, truD_l, truD_t, truD_n, gIx_t0, gIx_t1, gIx_t2, gSl_t, gSl_l, gIsT, notDict, isT, isN, tyName, gLen_t, gLen_l, gTuple_l, gCmp, gAdd_ii, gAdd_ll, PD.gSub, gNeg, gMod, seqD, forD, wipeR, gEqA, gNeA, gEq_ii, gNe_ii, gEq_tt, gIn_ints, gIn_intsL, gNotIn_ints, gNotIn_intsL, fM0, fM1, fJoined, fJ, flStar, starD, fCall0, gIsTX, noInst_n, noInst_b, noInst_i, noInst_s, noInst_l, noInst_t, fFld, fMeth, fMake, faNil, fsFld, fLendO, fDisp, fpCons, fpNil, fDict0, fiAny, walkD, fiOver, dKeys, dVals, dPairs, fsOwnD, fsPut, fOwnIx, fPop, fsExt, fDc, compK, gInX, gNotInX, gIxX, fGet] <;> first | exact q | exact ⟨hn, q⟩
def w_is_integer : FS := fsRet (fAnd (fCall 1 W_is_count (faD (flCons (fVar 0) (flNil)))) (fChain gLe gLe (fVar 1) (fVar 0) (fVar 2)))
def W_is_integer : FE := fun ρ k => ∃ (d : D) (a b : Int), ρ.sl = [.d d, .d (.int a), .d (.int b)] ∧ (noInst d = true) ∧ k (.bool (intB d a b)) ρ
theorem mW_is_integer (ρ : Rho) (k k' : KD) (hM : ∀ d ρ', k d ρ' → k' d ρ') (q : W_is_integer ρ k) : W_is_integer ρ k' := by
  obtain ⟨d, a, b, e1, e2, e3⟩ := q
  exact ⟨d, a, b, e1, e2, hM _ _ e3⟩
theorem ok_is_integer : ∀ ρ k, W_is_integer ρ k → fBody 3 w_is_integer ρ k := by
  rintro ⟨sl, n⟩ k ⟨d, a, b, e, hn, q⟩
  simp only at e
  subst e
  simp [w_is_integer]
  simp [and_assoc, Rho.set, dropOwn, ftLend, fLend, lendR, frz, ow, nList, -forall_exists_index, fBody, fsSeq, fsIf, fsRet, fsNext, fsDrop, fsAsg, fsNever, fsFor, fsOwn, fsPar2, fsPar3, fsPar_od, fsPar_do, fsPar_oo, fVar, fC, fUn, fOp, fChain, fTup, fLst, fCall, faD, faSt, flCons, flNil, fSl, foSome, foNone, fAnd, fOr, fNot, fIf, fOfN, fn1, fnLst, fnCat, fgN, fgTup, fgCons, fgNil, fiSeq, fiRange1, fiRange2, fiEnumA, fiZip, ftOr, ftAnd, ftNot, ftB, ftT, ftYes, truD_b, truD_i, truD_l, truD_t, truD_n, gIx_t0, gIx_t1, gIx_t2, gSl_t, gSl_l, gIsT, notDict, isT, isN, tyName, gLen_t, gLen_l, gTuple_l, gCmp, gAdd_ii, gAdd_ll, PD.gSub, gNeg, gMod, seqD, forD, wipeR, gEqA, gNeA, gEq_ii, gNe_ii, gEq_tt, gIn_ints, gIn_intsL, gNotIn_ints, gNotIn_intsL, fM0, fM1, fJoined, fJ, flStar, starD, fCall0, gIsTX, noInst_n, noInst_b, noInst_i, noInst_s, noInst_l, noInst_t, fFld, fMeth, fMake, faNil, fsFld, fLendO, fDisp, fpCons, fpNil, fDict0, fiAny, walkD, fiOver, dKeys, dVals, dPairs, fsOwnD, fsPut, fOwnIx, fPop, fsExt, fDc, compK, gInX, gNotInX, gIxX, fGet]
  refine ⟨d, rfl, hn, ?_⟩
  cases d <;> simp [cntB, intB] at q ⊢ <;> first | exact q | skip
  rename_i x
  by_cases h1 : 0 ≤ x
  · by_cases h2 : a ≤ x <;> by_cases h3 : x ≤ b <;> simp [h1, h2, h3, gLe, gCmp] at q ⊢ <;> first | exact q | (exact .inr q) | skip
    all_goals exact ⟨by omega, q⟩
  · simp [h1] at q
    exact .inl ⟨by omega, q⟩
theorem tru_int {x a b : Int} (h : 0 ≤ x ∧ a ≤ x ∧ x ≤ b) : truD (.bool (intB (.int x) a b)) = some true := by
  show some (decide (0 ≤ x ∧ a ≤ x ∧ x ≤ b)) = _
  rw [decide_eq_true h]
def is3B : D → Bool
  | .tuple [_, _, _] => true
  | _ => false
theorem is3_len (xs : List D) : is3B (.tuple xs) = decide ((xs.length : Int) = 3) := by
  match xs with
  | [] => rfl
  | [_] => rfl
  | [_, _] => rfl
  | [_, _, _] => rfl
  | _ :: _ :: _ :: _ :: xs => simp [is3B]; omega
def w_is_triple : FS := fsRet (fAnd (fUn (gIsTX "tuple") (fVar 0)) (fOp gEqA (fUn gLen (fVar 0)) (fC (.int 3))))
def W_is_triple : FE := fun ρ k => ∃ (d : D), ρ.sl = [.d d] ∧ (noInst d = true) ∧ k (.bool (is3B d)) ρ
theorem mW_is_triple (ρ : Rho) (k k' : KD) (hM : ∀ d ρ', k d ρ' → k' d ρ') (q : W_is_triple ρ k) : W_is_triple ρ k' := by
  obtain ⟨d, e1, e2, e3⟩ := q
  exact ⟨d, e1, e2, hM _ _ e3⟩
theorem ok_is_triple : ∀ ρ k, W_is_triple ρ k → fBody 1 w_is_triple ρ k := by
  rintro ⟨sl, n⟩ k ⟨d, e, hn, q⟩
  simp only at e
  subst e
  cases d <;> simp [w_is_triple] <;> simp [and_assoc, Rho.set, dropOwn, ftLend, fLend, lendR, frz, ow, nList, -forall_exists_index, fBody, fsSeq, fsIf, fsRet, fsNext, fsDrop, fsAsg, fsNever, fsFor, fsOwn, fsPar2, fsPar3, fsPar_od, fsPar_do, fsPar_oo, fVar, fC, fUn, fOp, fChain, fTup, fLst, fCall, faD, faSt, flCons, flNil, fSl, foSome, foNone, fAnd, fOr, fNot, fIf, fOfN, fn1, fnLst, fnCat, fgN, fgTup, fgCons, fgNil, fiSeq, fiRange1, fiRange2, fiEnumA, fiZip, ftOr, ftAnd, ftNot, ftB, ftT, ftYes, truD_b, truD_i, truD_l, truD_t, truD_n, gIx_t0, gIx_t1, gIx_t2, gSl_t, gSl_l, gIsT, notDict, isT, isN, tyName, gLen_t, gLen_l, gTuple_l, gCmp, gAdd_ii, gAdd_ll, PD.gSub, gNeg, gMod, seqD, forD, wipeR, gEqA, gNeA, gEq_ii, gNe_ii, gEq_tt, gIn_ints, gIn_intsL, gNotIn_ints, gNotIn_intsL, fM0, fM1, fJoined, fJ, flStar, starD, fCall0, gIsTX, noInst_n, noInst_b, noInst_i, noInst_s, noInst_l, noInst_t, fFld, fMeth, fMake, faNil, fsFld, fLendO, fDisp, fpCons, fpNil, fDict0, fiAny, walkD, fiOver, dKeys, dVals, dPairs, fsOwnD, fsPut, fOwnIx, fPop, fsExt, fDc, compK, gInX, gNotInX, gIxX, fGet] <;> first | exact q | exact ⟨hn, q⟩ | skip
  rw [is3_len] at q
  exact q
def w_are_numbers : FS := fsSeq (fsIf (ftNot (ftT (fUn (gIsTX "tuple") (fVar 0)))) (fsRet (fC (.bool false))) (fsNext))
  (fsRet (fUn gAll (fOfN (fnComp (fiSeq (fVar 0)) (fgN 2) (ftYes) (fCall 3 W_is_integer (faD (flCons (fVar 2) (flCons (fC (.int 0)) (flCons (fOp gSub (fVar 1) (fC (.int 1))) (flNil)))))) [2]))))
def W_are_numbers : FE := fun ρ k => ∃ (d : D) (m : Int), ρ.sl = [.d d, .d (.int m)] ∧ (okD d) ∧ k (.bool (numsB d m)) ρ
theorem mW_are_numbers (ρ : Rho) (k k' : KD) (hM : ∀ d ρ', k d ρ' → k' d ρ') (q : W_are_numbers ρ k) : W_are_numbers ρ k' := by
  obtain ⟨d, m, e1, e2, e3⟩ := q
  exact ⟨d, m, e1, e2, hM _ _ e3⟩
theorem ok_are_numbers : ∀ ρ k, W_are_numbers ρ k → fBody 3 w_are_numbers ρ k := by
  rintro ⟨sl, n⟩ k ⟨d, m, e, hn, q⟩
  simp only at e
  subst e
  cases d <;> simp [w_are_numbers] <;> simp [and_assoc, Rho.set, dropOwn, ftLend, fLend, lendR, frz, ow, nList, -forall_exists_index, fBody, fsSeq, fsIf, fsRet, fsNext, fsDrop, fsAsg, fsNever, fsFor, fsOwn, fsPar2, fsPar3, fsPar_od, fsPar_do, fsPar_oo, fVar, fC, fUn, fOp, fChain, fTup, fLst, fCall, faD, faSt, flCons, flNil, fSl, foSome, foNone, fAnd, fOr, fNot, fIf, fOfN, fn1, fnLst, fnCat, fgN, fgTup, fgCons, fgNil, fiSeq, fiRange1, fiRange2, fiEnumA, fiZip, ftOr, ftAnd, ftNot, ftB, ftT, ftYes, truD_b, truD_i, truD_l, truD_t, truD_n, gIx_t0, gIx_t1, gIx_t2, gSl_t, gSl_l, gIsT, notDict, isT, isN, tyName, gLen_t, gLen_l, gTuple_l, gCmp, gAdd_ii, gAdd_ll, PD.gSub, gNeg, gMod, seqD, forD, wipeR, gEqA, gNeA, gEq_ii, gNe_ii, gEq_tt, gIn_ints, gIn_intsL, gNotIn_ints, gNotIn_intsL, fM0, fM1, fJoined, fJ, flStar, starD, fCall0, gIsTX, noInst_n, noInst_b, noInst_i, noInst_s, noInst_l, noInst_t, fFld, fMeth, fMake, faNil, fsFld, fLendO, fDisp, fpCons, fpNil, fDict0, fiAny, walkD, fiOver, dKeys, dVals, dPairs, fsOwnD, fsPut, fOwnIx, fPop, fsExt, fDc, compK, gInX, gNotInX, gIxX, fGet] <;> first | exact q | exact ⟨hn, q⟩ | skip
  rename_i xs
  refine fnComp_i ?_
  simp [and_assoc, Rho.set, dropOwn, ftLend, fLend, lendR, frz, ow, nList, -forall_exists_index, fBody, fsSeq, fsIf, fsRet, fsNext, fsDrop, fsAsg, fsNever, fsFor, fsOwn, fsPar2, fsPar3, fsPar_od, fsPar_do, fsPar_oo, fVar, fC, fUn, fOp, fChain, fTup, fLst, fCall, faD, faSt, flCons, flNil, fSl, foSome, foNone, fAnd, fOr, fNot, fIf, fOfN, fn1, fnLst, fnCat, fgN, fgTup, fgCons, fgNil, fiSeq, fiRange1, fiRange2, fiEnumA, fiZip, ftOr, ftAnd, ftNot, ftB, ftT, ftYes, truD_b, truD_i, truD_l, truD_t, truD_n, gIx_t0, gIx_t1, gIx_t2, gSl_t, gSl_l, gIsT, notDict, isT, isN, tyName, gLen_t, gLen_l, gTuple_l, gCmp, gAdd_ii, gAdd_ll, PD.gSub, gNeg, gMod, seqD, forD, wipeR, gEqA, gNeA, gEq_ii, gNe_ii, gEq_tt, gIn_ints, gIn_intsL, gNotIn_ints, gNotIn_intsL, fM0, fM1, fJoined, fJ, flStar, starD, fCall0, gIsTX, noInst_n, noInst_b, noInst_i, noInst_s, noInst_l, noInst_t, fFld, fMeth, fMake, faNil, fsFld, fLendO, fDisp, fpCons, fpNil, fDict0, fiAny, walkD, fiOver, dKeys, dVals, dPairs, fsOwnD, fsPut, fOwnIx, fPop, fsExt, fDc, compK, gInX, gNotInX, gIxX, fGet]
  refine ⟨by have := hn.1; omega, comp_allD (fun x => .bool (intB x 0 (m - 1))) xs (fun x hx kt h => ?_) ?_⟩
  · simp [and_assoc, Rho.set, dropOwn, ftLend, fLend, lendR, frz, ow, nList, -forall_exists_index, fBody, fsSeq, fsIf, fsRet, fsNext, fsDrop, fsAsg, fsNever, fsFor, fsOwn, fsPar2, fsPar3, fsPar_od, fsPar_do, fsPar_oo, fVar, fC, fUn, fOp, fChain, fTup, fLst, fCall, faD, faSt, flCons, flNil, fSl, foSome, foNone, fAnd, fOr, fNot, fIf, fOfN, fn1, fnLst, fnCat, fgN, fgTup, fgCons, fgNil, fiSeq, fiRange1, fiRange2, fiEnumA, fiZip, ftOr, ftAnd, ftNot, ftB, ftT, ftYes, truD_b, truD_i, truD_l, truD_t, truD_n, gIx_t0, gIx_t1, gIx_t2, gSl_t, gSl_l, gIsT, notDict, isT, isN, tyName, gLen_t, gLen_l, gTuple_l, gCmp, gAdd_ii, gAdd_ll, PD.gSub, gNeg, gMod, seqD, forD, wipeR, gEqA, gNeA, gEq_ii, gNe_ii, gEq_tt, gIn_ints, gIn_intsL, gNotIn_ints, gNotIn_intsL, fM0, fM1, fJoined, fJ, flStar, starD, fCall0, gIsTX, noInst_n, noInst_b, noInst_i, noInst_s, noInst_l, noInst_t, fFld, fMeth, fMake, faNil, fsFld, fLendO, fDisp, fpCons, fpNil, fDict0, fiAny, walkD, fiOver, dKeys, dVals, dPairs, fsOwnD, fsPut, fOwnIx, fPop, fsExt, fDc, compK, gInX, gNotInX, gIxX, fGet]
    exact ⟨x, 0, m - 1, rfl, hn.2 x hx, h _ rfl⟩
  · refine ⟨.bool (xs.all fun x => intB x 0 (m - 1)), ?_, q⟩
    rw [show xs.map (fun x => PyData.bool (intB x 0 (m - 1))) = (xs.map fun x => intB x 0 (m - 1)).map .bool by rw [List.map_map]; rfl, gAll_bs, List.all_map]
    rfl
/-- ints, each greater than the one ahead -/
def risB (ns : List Int) : Bool := (ns.zip ns.tail).all fun p => decide (p.1 < p.2)
theorem risB_iff : ∀ {ns : List Int}, risB ns = true ↔ ns.Pairwise (· < ·)
  | [] => by simp [risB]
  | [a] => by simp [risB]
  | a :: b :: ns => by
    have ih := risB_iff (ns := b :: ns)
    unfold risB at ih ⊢
    rw [List.tail_cons, List.zip_cons_cons, List.all_cons, Bool.and_eq_true, decide_eq_true_eq]
    rw [List.tail_cons] at ih
    rw [ih, List.pairwise_cons (a := a)]
    constructor
    · rintro ⟨h1, h2⟩
      refine ⟨fun x hx => ?_, h2⟩
      rcases List.mem_cons.mp hx with z | z
      · rw [z]; exact h1
      · have := (List.pairwise_cons.mp h2).1 x z
        omega
    · rintro ⟨h1, h2⟩
      exact ⟨h1 b List.mem_cons_self, h2⟩
def w_are_rising : FS := fsRet (fUn gAll (fOfN (fnComp (fiZip (flCons (fVar 0) (flCons (fSl gSl (fVar 0) (foSome (fC (.int 1))) (foNone)) (flNil)))) (fgTup 2 (fgCons (fgN 1) (fgCons (fgN 2) (fgNil)))) (ftYes) (fOp gLt (fVar 1) (fVar 2)) [1, 2])))
def W_are_rising : FE := fun ρ k => ∃ (ns : List Int), ρ.sl = [.d (tupI ns)] ∧ (ns.length ≤ 100000) ∧ k (.bool (risB ns)) ρ
theorem mW_are_rising (ρ : Rho) (k k' : KD) (hM : ∀ d ρ', k d ρ' → k' d ρ') (q : W_are_rising ρ k) : W_are_rising ρ k' := by
  obtain ⟨ns, e1, e2, e3⟩ := q
  exact ⟨ns, e1, e2, hM _ _ e3⟩
theorem ok_are_rising : ∀ ρ k, W_are_rising ρ k → fBody 3 w_are_rising ρ k := by
  rintro ⟨sl, n⟩ k ⟨ns, e, hl, q⟩
  simp only at e
  subst e
  simp [w_are_rising]
  simp [and_assoc, Rho.set, dropOwn, ftLend, fLend, lendR, frz, ow, nList, -forall_exists_index, fBody, fsSeq, fsIf, fsRet, fsNext, fsDrop, fsAsg, fsNever, fsFor, fsOwn, fsPar2, fsPar3, fsPar_od, fsPar_do, fsPar_oo, fVar, fC, fUn, fOp, fChain, fTup, fLst, fCall, faD, faSt, flCons, flNil, fSl, foSome, foNone, fAnd, fOr, fNot, fIf, fOfN, fn1, fnLst, fnCat, fgN, fgTup, fgCons, fgNil, fiSeq, fiRange1, fiRange2, fiEnumA, fiZip, ftOr, ftAnd, ftNot, ftB, ftT, ftYes, truD_b, truD_i, truD_l, truD_t, truD_n, gIx_t0, gIx_t1, gIx_t2, gSl_t, gSl_l, gIsT, notDict, isT, isN, tyName, gLen_t, gLen_l, gTuple_l, gCmp, gAdd_ii, gAdd_ll, PD.gSub, gNeg, gMod, seqD, forD, wipeR, gEqA, gNeA, gEq_ii, gNe_ii, gEq_tt, gIn_ints, gIn_intsL, gNotIn_ints, gNotIn_intsL, fM0, fM1, fJoined, fJ, flStar, starD, fCall0, gIsTX, noInst_n, noInst_b, noInst_i, noInst_s, noInst_l, noInst_t, fFld, fMeth, fMake, faNil, fsFld, fLendO, fDisp, fpCons, fpNil, fDict0, fiAny, walkD, fiOver, dKeys, dVals, dPairs, fsOwnD, fsPut, fOwnIx, fPop, fsExt, fDc, compK, gInX, gNotInX, gIxX, fGet]
  refine fnComp_i ?_
  simp [and_assoc, Rho.set, dropOwn, ftLend, fLend, lendR, frz, ow, nList, -forall_exists_index, fBody, fsSeq, fsIf, fsRet, fsNext, fsDrop, fsAsg, fsNever, fsFor, fsOwn, fsPar2, fsPar3, fsPar_od, fsPar_do, fsPar_oo, fVar, fC, fUn, fOp, fChain, fTup, fLst, fCall, faD, faSt, flCons, flNil, fSl, foSome, foNone, fAnd, fOr, fNot, fIf, fOfN, fn1, fnLst, fnCat, fgN, fgTup, fgCons, fgNil, fiSeq, fiRange1, fiRange2, fiEnumA, fiZip, ftOr, ftAnd, ftNot, ftB, ftT, ftYes, truD_b, truD_i, truD_l, truD_t, truD_n, gIx_t0, gIx_t1, gIx_t2, gSl_t, gSl_l, gIsT, notDict, isT, isN, tyName, gLen_t, gLen_l, gTuple_l, gCmp, gAdd_ii, gAdd_ll, PD.gSub, gNeg, gMod, seqD, forD, wipeR, gEqA, gNeA, gEq_ii, gNe_ii, gEq_tt, gIn_ints, gIn_intsL, gNotIn_ints, gNotIn_intsL, fM0, fM1, fJoined, fJ, flStar, starD, fCall0, gIsTX, noInst_n, noInst_b, noInst_i, noInst_s, noInst_l, noInst_t, fFld, fMeth, fMake, faNil, fsFld, fLendO, fDisp, fpCons, fpNil, fDict0, fiAny, walkD, fiOver, dKeys, dVals, dPairs, fsOwnD, fsPut, fOwnIx, fPop, fsExt, fDc, compK, gInX, gNotInX, gIxX, fGet]
  refine ⟨_, by rw [← List.map_tail]; exact zip_ints ns ns.tail, by simp; omega, comp_all (fun p => PyData.tuple [.int p.1, .int p.2]) (fun p => .bool (decide (p.1 < p.2))) (ns.zip ns.tail) (fun p hp kt h => ?_) ?_⟩
  · simp [and_assoc, Rho.set, dropOwn, ftLend, fLend, lendR, frz, ow, nList, -forall_exists_index, fBody, fsSeq, fsIf, fsRet, fsNext, fsDrop, fsAsg, fsNever, fsFor, fsOwn, fsPar2, fsPar3, fsPar_od, fsPar_do, fsPar_oo, fVar, fC, fUn, fOp, fChain, fTup, fLst, fCall, faD, faSt, flCons, flNil, fSl, foSome, foNone, fAnd, fOr, fNot, fIf, fOfN, fn1, fnLst, fnCat, fgN, fgTup, fgCons, fgNil, fiSeq, fiRange1, fiRange2, fiEnumA, fiZip, ftOr, ftAnd, ftNot, ftB, ftT, ftYes, truD_b, truD_i, truD_l, truD_t, truD_n, gIx_t0, gIx_t1, gIx_t2, gSl_t, gSl_l, gIsT, notDict, isT, isN, tyName, gLen_t, gLen_l, gTuple_l, gCmp, gAdd_ii, gAdd_ll, PD.gSub, gNeg, gMod, seqD, forD, wipeR, gEqA, gNeA, gEq_ii, gNe_ii, gEq_tt, gIn_ints, gIn_intsL, gNotIn_ints, gNotIn_intsL, fM0, fM1, fJoined, fJ, flStar, starD, fCall0, gIsTX, noInst_n, noInst_b, noInst_i, noInst_s, noInst_l, noInst_t, fFld, fMeth, fMake, faNil, fsFld, fLendO, fDisp, fpCons, fpNil, fDict0, fiAny, walkD, fiOver, dKeys, dVals, dPairs, fsOwnD, fsPut, fOwnIx, fPop, fsExt, fDc, compK, gInX, gNotInX, gIxX, fGet]
    exact h _ rfl
  · refine ⟨.bool (risB ns), ?_, q⟩
    rw [show (ns.zip ns.tail).map (fun p => PyData.bool (decide (p.1 < p.2))) = ((ns.zip ns.tail).map fun p => decide (p.1 < p.2)).map .bool by rw [List.map_map]; rfl, gAll_bs, List.all_map]
    rfl
/-- the ints of a tuple -/
def intsOfD : D → List Int
  | .tuple xs => xs.map fun x => match x with | .int i => i | _ => 0
  | _ => []
theorem numsB_ints {d : D} {m : Int} (h : numsB d m = true) : d = tupI (intsOfD d) ∧ ∀ x ∈ intsOfD d, Dd m x := by
  cases d with
  | tuple xs =>
    have h : (xs.all fun x => intB x 0 (m - 1)) = true := h
    have h := List.all_eq_true.mp h
    refine ⟨?_, fun y hy => ?_⟩
    · show PyData.tuple xs = .tuple ((xs.map fun x => match x with | .int i => i | _ => 0).map .int)
      rw [List.map_map]
      congr 1
      conv => lhs; rw [← List.map_id xs]
      refine List.map_congr_left fun x hx => ?_
      have := h x hx
      cases x <;> simp [intB] at this
      rfl
    · obtain ⟨x, hx, rfl⟩ := List.mem_map.mp hy
      have := h x hx
      cases x <;> simp [intB] at this
      exact ⟨this.1, this.2⟩
  | none => cases h
  | bool _ => cases h
  | int _ => cases h
  | str _ => cases h
  | list _ => cases h
  | dict _ => cases h
theorem numsB_of {ns : List Int} {m : Int} : numsB (tupI ns) m = ns.all fun x => decide (0 ≤ x ∧ x ≤ m - 1) := by
  show ((ns.map PyData.int).all fun x => intB x 0 (m - 1)) = _
  rw [List.all_map]
  congr 1
  funext x
  show decide (0 ≤ x ∧ 0 ≤ x ∧ x ≤ m - 1) = _
  congr 1
  simp
theorem numsB_yes {ns : List Int} {m : Int} (h : ∀ x ∈ ns, Dd m x) : numsB (tupI ns) m = true := by
  rw [numsB_of]
  exact List.all_eq_true.mpr fun x hx => decide_eq_true (h x hx)
theorem okD_tupI {ns : List Int} (h : ns.length ≤ 100000) : okD (tupI ns) := ⟨by rw [List.length_map]; exact h, fun x hx => by obtain ⟨i, _, rfl⟩ := List.mem_map.mp hx; rfl⟩
theorem okD_len {d : D} {m : Int} (h : okD d) (hn : numsB d m = true) : (intsOfD d).length ≤ 100000 := by
  cases d <;> simp [intsOfD]
  exact h.1
def ascB (d : D) (m : Int) : Bool := numsB d m && risB (intsOfD d)
theorem intsOf_tupI (ns : List Int) : intsOfD (tupI ns) = ns := by
  show (ns.map PyData.int).map _ = ns
  rw [List.map_map]
  exact List.map_id ns
def w_are_ascending : FS := fsSeq (fsIf (ftNot (ftT (fCall 2 W_are_numbers (faD (flCons (fVar 0) (flCons (fVar 1) (flNil))))))) (fsRet (fC (.bool false))) (fsNext))
  (fsRet (fCall 1 W_are_rising (faD (flCons (fVar 0) (flNil)))))
def W_are_ascending : FE := fun ρ k => ∃ (d : D) (m : Int), ρ.sl = [.d d, .d (.int m)] ∧ (okD d) ∧ k (.bool (ascB d m)) ρ
theorem mW_are_ascending (ρ : Rho) (k k' : KD) (hM : ∀ d ρ', k d ρ' → k' d ρ') (q : W_are_ascending ρ k) : W_are_ascending ρ k' := by
  obtain ⟨d, m, e1, e2, e3⟩ := q
  exact ⟨d, m, e1, e2, hM _ _ e3⟩
theorem ok_are_ascending : ∀ ρ k, W_are_ascending ρ k → fBody 2 w_are_ascending ρ k := by
  rintro ⟨sl, n⟩ k ⟨d, m, e, hn, q⟩
  simp only at e
  subst e
  simp [w_are_ascending]
  simp [and_assoc, Rho.set, dropOwn, ftLend, fLend, lendR, frz, ow, nList, -forall_exists_index, fBody, fsSeq, fsIf, fsRet, fsNext, fsDrop, fsAsg, fsNever, fsFor, fsOwn, fsPar2, fsPar3, fsPar_od, fsPar_do, fsPar_oo, fVar, fC, fUn, fOp, fChain, fTup, fLst, fCall, faD, faSt, flCons, flNil, fSl, foSome, foNone, fAnd, fOr, fNot, fIf, fOfN, fn1, fnLst, fnCat, fgN, fgTup, fgCons, fgNil, fiSeq, fiRange1, fiRange2, fiEnumA, fiZip, ftOr, ftAnd, ftNot, ftB, ftT, ftYes, truD_b, truD_i, truD_l, truD_t, truD_n, gIx_t0, gIx_t1, gIx_t2, gSl_t, gSl_l, gIsT, notDict, isT, isN, tyName, gLen_t, gLen_l, gTuple_l, gCmp, gAdd_ii, gAdd_ll, PD.gSub, gNeg, gMod, seqD, forD, wipeR, gEqA, gNeA, gEq_ii, gNe_ii, gEq_tt, gIn_ints, gIn_intsL, gNotIn_ints, gNotIn_intsL, fM0, fM1, fJoined, fJ, flStar, starD, fCall0, gIsTX, noInst_n, noInst_b, noInst_i, noInst_s, noInst_l, noInst_t, fFld, fMeth, fMake, faNil, fsFld, fLendO, fDisp, fpCons, fpNil, fDict0, fiAny, walkD, fiOver, dKeys, dVals, dPairs, fsOwnD, fsPut, fOwnIx, fPop, fsExt, fDc, compK, gInX, gNotInX, gIxX, fGet]
  refine ⟨d, m, rfl, hn, ?_⟩
  unfold ascB at q
  cases h : numsB d m with
  | false =>
    rw [h] at q
    exact .inl ⟨rfl, q⟩
  | true =>
    rw [h, Bool.true_and] at q
    obtain ⟨h1, h2⟩ := numsB_ints h
    refine .inr ⟨rfl, intsOfD d, ?_, okD_len hn h, ?_⟩
    · rw [← h1]
    · exact q
theorem ascB_yes {ns : List Int} {m : Int} (h : ∀ x ∈ ns, Dd m x) (hs : ns.Pairwise (· < ·)) : ascB (tupI ns) m = true := by
  unfold ascB
  rw [numsB_yes h, intsOf_tupI, risB_iff.mpr hs]
  rfl
def rowB (x : D) (n : Nat) (q : Int) : Bool := numsB x n && decide (((intsOfD x).length : Int) = q)
def stepsB (d : D) (q : Int) : Bool := match d with
  | .tuple xs => decide (1 ≤ xs.length ∧ xs.length ≤ 6) && xs.all fun x => rowB x xs.length q
  | _ => false
def okD2 : D → Prop
  | .tuple xs => xs.length ≤ 100000 ∧ ∀ x ∈ xs, okD x
  | d => noInst d = true
def w_are_steps : FS := fsSeq (fsIf (ftOr (ftNot (ftT (fUn (gIsTX "tuple") (fVar 0)))) (ftNot (ftB (fChain gLe gLe (fC (.int 1)) (fUn gLen (fVar 0)) (fC (.int 6)))))) (fsRet (fC (.bool false))) (fsNext))
  (fsRet (fUn gAll (fOfN (fnComp (fiSeq (fVar 0)) (fgN 2) (ftYes) (fAnd (fCall 2 W_are_numbers (faD (flCons (fVar 2) (flCons (fUn gLen (fVar 0)) (flNil))))) (fOp gEqA (fUn gLen (fVar 2)) (fVar 1))) [2]))))
def W_are_steps : FE := fun ρ k => ∃ (d : D) (q : Int), ρ.sl = [.d d, .d (.int q)] ∧ (okD2 d) ∧ k (.bool (stepsB d q)) ρ
theorem mW_are_steps (ρ : Rho) (k k' : KD) (hM : ∀ d ρ', k d ρ' → k' d ρ') (q : W_are_steps ρ k) : W_are_steps ρ k' := by
  obtain ⟨d, q, e1, e2, e3⟩ := q
  exact ⟨d, q, e1, e2, hM _ _ e3⟩
theorem ok_are_steps : ∀ ρ k, W_are_steps ρ k → fBody 3 w_are_steps ρ k := by
  rintro ⟨sl, n⟩ k ⟨d, q, e, hn, z⟩
  simp only at e
  subst e
  cases d <;> simp [w_are_steps] <;> simp [and_assoc, Rho.set, dropOwn, ftLend, fLend, lendR, frz, ow, nList, -forall_exists_index, fBody, fsSeq, fsIf, fsRet, fsNext, fsDrop, fsAsg, fsNever, fsFor, fsOwn, fsPar2, fsPar3, fsPar_od, fsPar_do, fsPar_oo, fVar, fC, fUn, fOp, fChain, fTup, fLst, fCall, faD, faSt, flCons, flNil, fSl, foSome, foNone, fAnd, fOr, fNot, fIf, fOfN, fn1, fnLst, fnCat, fgN, fgTup, fgCons, fgNil, fiSeq, fiRange1, fiRange2, fiEnumA, fiZip, ftOr, ftAnd, ftNot, ftB, ftT, ftYes, truD_b, truD_i, truD_l, truD_t, truD_n, gIx_t0, gIx_t1, gIx_t2, gSl_t, gSl_l, gIsT, notDict, isT, isN, tyName, gLen_t, gLen_l, gTuple_l, gCmp, gAdd_ii, gAdd_ll, PD.gSub, gNeg, gMod, seqD, forD, wipeR, gEqA, gNeA, gEq_ii, gNe_ii, gEq_tt, gIn_ints, gIn_intsL, gNotIn_ints, gNotIn_intsL, fM0, fM1, fJoined, fJ, flStar, starD, fCall0, gIsTX, noInst_n, noInst_b, noInst_i, noInst_s, noInst_l, noInst_t, fFld, fMeth, fMake, faNil, fsFld, fLendO, fDisp, fpCons, fpNil, fDict0, fiAny, walkD, fiOver, dKeys, dVals, dPairs, fsOwnD, fsPut, fOwnIx, fPop, fsExt, fDc, compK, gInX, gNotInX, gIxX, fGet] <;> first | exact z | exact ⟨hn, z⟩ | skip
  rename_i xs
  have hl := hn.1
  have z : k (.bool (decide (1 ≤ xs.length ∧ xs.length ≤ 6) && xs.all fun x => rowB x xs.length q)) ⟨[.d (.tuple xs), .d (.int q)], n⟩ := z
  by_cases h1 : 1 ≤ xs.length
  · by_cases h6 : xs.length ≤ 6
    · refine .inr ⟨by omega, .inr ⟨by omega, ?_⟩⟩
      refine fnComp_i ?_
      simp [and_assoc, Rho.set, dropOwn, ftLend, fLend, lendR, frz, ow, nList, -forall_exists_index, fBody, fsSeq, fsIf, fsRet, fsNext, fsDrop, fsAsg, fsNever, fsFor, fsOwn, fsPar2, fsPar3, fsPar_od, fsPar_do, fsPar_oo, fVar, fC, fUn, fOp, fChain, fTup, fLst, fCall, faD, faSt, flCons, flNil, fSl, foSome, foNone, fAnd, fOr, fNot, fIf, fOfN, fn1, fnLst, fnCat, fgN, fgTup, fgCons, fgNil, fiSeq, fiRange1, fiRange2, fiEnumA, fiZip, ftOr, ftAnd, ftNot, ftB, ftT, ftYes, truD_b, truD_i, truD_l, truD_t, truD_n, gIx_t0, gIx_t1, gIx_t2, gSl_t, gSl_l, gIsT, notDict, isT, isN, tyName, gLen_t, gLen_l, gTuple_l, gCmp, gAdd_ii, gAdd_ll, PD.gSub, gNeg, gMod, seqD, forD, wipeR, gEqA, gNeA, gEq_ii, gNe_ii, gEq_tt, gIn_ints, gIn_intsL, gNotIn_ints, gNotIn_intsL, fM0, fM1, fJoined, fJ, flStar, starD, fCall0, gIsTX, noInst_n, noInst_b, noInst_i, noInst_s, noInst_l, noInst_t, fFld, fMeth, fMake, faNil, fsFld, fLendO, fDisp, fpCons, fpNil, fDict0, fiAny, walkD, fiOver, dKeys, dVals, dPairs, fsOwnD, fsPut, fOwnIx, fPop, fsExt, fDc, compK, gInX, gNotInX, gIxX, fGet]
      refine ⟨by omega, comp_allD (fun x => .bool (rowB x xs.length q)) xs (fun x hx' kt h => ?_) ?_⟩
      · simp [and_assoc, Rho.set, dropOwn, ftLend, fLend, lendR, frz, ow, nList, -forall_exists_index, fBody, fsSeq, fsIf, fsRet, fsNext, fsDrop, fsAsg, fsNever, fsFor, fsOwn, fsPar2, fsPar3, fsPar_od, fsPar_do, fsPar_oo, fVar, fC, fUn, fOp, fChain, fTup, fLst, fCall, faD, faSt, flCons, flNil, fSl, foSome, foNone, fAnd, fOr, fNot, fIf, fOfN, fn1, fnLst, fnCat, fgN, fgTup, fgCons, fgNil, fiSeq, fiRange1, fiRange2, fiEnumA, fiZip, ftOr, ftAnd, ftNot, ftB, ftT, ftYes, truD_b, truD_i, truD_l, truD_t, truD_n, gIx_t0, gIx_t1, gIx_t2, gSl_t, gSl_l, gIsT, notDict, isT, isN, tyName, gLen_t, gLen_l, gTuple_l, gCmp, gAdd_ii, gAdd_ll, PD.gSub, gNeg, gMod, seqD, forD, wipeR, gEqA, gNeA, gEq_ii, gNe_ii, gEq_tt, gIn_ints, gIn_intsL, gNotIn_ints, gNotIn_intsL, fM0, fM1, fJoined, fJ, flStar, starD, fCall0, gIsTX, noInst_n, noInst_b, noInst_i, noInst_s, noInst_l, noInst_t, fFld, fMeth, fMake, faNil, fsFld, fLendO, fDisp, fpCons, fpNil, fDict0, fiAny, walkD, fiOver, dKeys, dVals, dPairs, fsOwnD, fsPut, fOwnIx, fPop, fsExt, fDc, compK, gInX, gNotInX, gIxX, fGet]
        refine ⟨x, xs.length, rfl, hn.2 x hx', ?_⟩
        unfold rowB at h
        cases hb : numsB x xs.length with
        | false =>
          simp only [hb, Bool.false_and] at h
          exact .inl ⟨rfl, h _ rfl⟩
        | true =>
          have h3 := (numsB_ints hb).1
          simp only [hb, Bool.true_and] at h
          generalize intsOfD x = ns at h h3
          subst h3
          refine .inr ⟨rfl, ?_⟩
          simp [and_assoc, Rho.set, dropOwn, ftLend, fLend, lendR, frz, ow, nList, -forall_exists_index, fBody, fsSeq, fsIf, fsRet, fsNext, fsDrop, fsAsg, fsNever, fsFor, fsOwn, fsPar2, fsPar3, fsPar_od, fsPar_do, fsPar_oo, fVar, fC, fUn, fOp, fChain, fTup, fLst, fCall, faD, faSt, flCons, flNil, fSl, foSome, foNone, fAnd, fOr, fNot, fIf, fOfN, fn1, fnLst, fnCat, fgN, fgTup, fgCons, fgNil, fiSeq, fiRange1, fiRange2, fiEnumA, fiZip, ftOr, ftAnd, ftNot, ftB, ftT, ftYes, truD_b, truD_i, truD_l, truD_t, truD_n, gIx_t0, gIx_t1, gIx_t2, gSl_t, gSl_l, gIsT, notDict, isT, isN, tyName, gLen_t, gLen_l, gTuple_l, gCmp, gAdd_ii, gAdd_ll, PD.gSub, gNeg, gMod, seqD, forD, wipeR, gEqA, gNeA, gEq_ii, gNe_ii, gEq_tt, gIn_ints, gIn_intsL, gNotIn_ints, gNotIn_intsL, fM0, fM1, fJoined, fJ, flStar, starD, fCall0, gIsTX, noInst_n, noInst_b, noInst_i, noInst_s, noInst_l, noInst_t, fFld, fMeth, fMake, faNil, fsFld, fLendO, fDisp, fpCons, fpNil, fDict0, fiAny, walkD, fiOver, dKeys, dVals, dPairs, fsOwnD, fsPut, fOwnIx, fPop, fsExt, fDc, compK, gInX, gNotInX, gIxX, fGet]
          exact h _ rfl
      · refine ⟨.bool (xs.all fun x => rowB x xs.length q), ?_, ?_⟩
        · rw [show xs.map (fun x => PyData.bool (rowB x xs.length q)) = (xs.map fun x => rowB x xs.length q).map .bool by rw [List.map_map]; rfl, gAll_bs, List.all_map]
          rfl
        · rw [decide_eq_true ⟨h1, h6⟩, Bool.true_and] at z
          exact z
    · rw [decide_eq_false (by omega), Bool.false_and] at z
      exact .inr ⟨by omega, .inl ⟨by omega, z⟩⟩
  · rw [decide_eq_false (by omega), Bool.false_and] at z
    exact .inl ⟨by omega, z⟩
theorem okD2_T {q : Int} {T : List (List Int)} {G : List Int} (w : WOK q T G) : okD2 (tupT T) := ⟨by rw [List.length_map]; have := w.t6; omega, fun x hx => by
  obtain ⟨r, hr, rfl⟩ := List.mem_map.mp hx
  exact okD_tupI (by have := (w.row r hr).1; have := w.q4; omega)⟩
theorem stepsB_yes {q : Int} {T : List (List Int)} {G : List Int} (w : WOK q T G) : stepsB (tupT T) q = true := by
  unfold stepsB
  simp only [Bool.and_eq_true, decide_eq_true_eq, List.all_eq_true, List.length_map]
  refine ⟨⟨w.t1, w.t6⟩, fun x hx => ?_⟩
  obtain ⟨r, hr, rfl⟩ := List.mem_map.mp hx
  unfold rowB
  rw [numsB_yes (w.row r hr).2, intsOf_tupI, decide_eq_true (w.row r hr).1]
  rfl
theorem _root_.GM.WOK.glen {q : Int} {T : List (List Int)} {G : List Int} (w : WOK q T G) : G.length ≤ 6 := by
  have := asc_len w.gs w.gr
  have := w.t6
  omega
def w_need_wish : FS := fsSeq (fsIf (ftNot (ftT (fCall 1 W_is_triple (faD (flCons (fVar 0) (flNil)))))) (fsNever) (fsNext))
  (fsSeq (fsAsg (fVar 0) (fgTup 3 (fgCons (fgN 1) (fgCons (fgN 2) (fgCons (fgN 3) (fgNil))))))
  (fsSeq (fsIf (ftNot (ftT (fCall 3 W_is_integer (faD (flCons (fVar 1) (flCons (fC (.int 1)) (flCons (fC (.int 4)) (flNil)))))))) (fsNever) (fsNext))
  (fsSeq (fsIf (ftNot (ftT (fCall 2 W_are_steps (faD (flCons (fVar 2) (flCons (fVar 1) (flNil))))))) (fsNever) (fsNext))
  (fsSeq (fsIf (ftOr (ftNot (ftT (fCall 2 W_are_ascending (faD (flCons (fVar 3) (flCons (fUn gLen (fVar 2)) (flNil))))))) (ftB (fOp gNotIn (fC (.int 0)) (fVar 3)))) (fsNever) (fsNext))
  (fsRet (fVar 0))))))
def W_need_wish : FE := fun ρ k => ∃ (q : Int) (T : List (List Int)) (G : List Int), ρ.sl = [.d (wishD q T G)] ∧ (WOK q T G) ∧ k (wishD q T G) ρ
theorem mW_need_wish (ρ : Rho) (k k' : KD) (hM : ∀ d ρ', k d ρ' → k' d ρ') (q : W_need_wish ρ k) : W_need_wish ρ k' := by
  obtain ⟨q, T, G, e1, e2, e3⟩ := q
  exact ⟨q, T, G, e1, e2, hM _ _ e3⟩
theorem ok_need_wish : ∀ ρ k, W_need_wish ρ k → fBody 4 w_need_wish ρ k := by
  rintro ⟨sl, n⟩ k ⟨q, T, G, e, w, z⟩
  simp only at e
  subst e
  have g6 := w.glen
  simp [w_need_wish]
  simp [and_assoc, Rho.set, dropOwn, ftLend, fLend, lendR, frz, ow, nList, -forall_exists_index, fBody, fsSeq, fsIf, fsRet, fsNext, fsDrop, fsAsg, fsNever, fsFor, fsOwn, fsPar2, fsPar3, fsPar_od, fsPar_do, fsPar_oo, fVar, fC, fUn, fOp, fChain, fTup, fLst, fCall, faD, faSt, flCons, flNil, fSl, foSome, foNone, fAnd, fOr, fNot, fIf, fOfN, fn1, fnLst, fnCat, fgN, fgTup, fgCons, fgNil, fiSeq, fiRange1, fiRange2, fiEnumA, fiZip, ftOr, ftAnd, ftNot, ftB, ftT, ftYes, truD_b, truD_i, truD_l, truD_t, truD_n, gIx_t0, gIx_t1, gIx_t2, gSl_t, gSl_l, gIsT, notDict, isT, isN, tyName, gLen_t, gLen_l, gTuple_l, gCmp, gAdd_ii, gAdd_ll, PD.gSub, gNeg, gMod, seqD, forD, wipeR, gEqA, gNeA, gEq_ii, gNe_ii, gEq_tt, gIn_ints, gIn_intsL, gNotIn_ints, gNotIn_intsL, fM0, fM1, fJoined, fJ, flStar, starD, fCall0, gIsTX, noInst_n, noInst_b, noInst_i, noInst_s, noInst_l, noInst_t, fFld, fMeth, fMake, faNil, fsFld, fLendO, fDisp, fpCons, fpNil, fDict0, fiAny, walkD, fiOver, dKeys, dVals, dPairs, fsOwnD, fsPut, fOwnIx, fPop, fsExt, fDc, compK, gInX, gNotInX, gIxX, fGet]
  exact ⟨wishD q T G, rfl, rfl, rfl, .int q, 1, 4, rfl, rfl, tru_int ⟨by have := w.q1; omega, w.q1, w.q4⟩, tupT T, q, rfl, okD2_T w, by rw [stepsB_yes w]; rfl, tupI G, T.length, rfl, okD_tupI (by omega), by rw [ascB_yes w.gr w.gs]; rfl, w.g0, z⟩
theorem ix_T {T : List (List Int)} {s : Int} (hs : St T s) : gIx (tupT T) (.int s) = some (tupI (T.getD s.toNat [])) := by
  obtain ⟨i, rfl⟩ := Int.eq_ofNat_of_zero_le hs.1
  have hi : i < T.length := by have := hs.2; omega
  refine gIx_tup ?_
  rw [List.getElem?_map, List.getElem?_eq_getElem hi]
  simp [List.getD, hi]
end GP
namespace GP
open PySem L2 PyProof.Rows PySem.Spec PD GM
open Evl (Ex)
end GP
namespace GP
open PySem L2 PyProof.Rows PySem.Spec PD GM
open Evl (Ex)
end GP
namespace PD
open PySem PySem.W PyProof.Rows PySem.SeqAt
end PD
namespace PD
open PySem PySem.W PySem.Calls PyProof.Rows PySem.SeqAt L2
end PD
namespace GA
open PySem L2 PyProof.Rows PySem.Spec PD GM GP
open Evl (Ex)
abbrev W_law_next := W_nextA
abbrev mW_law_next := mW_nextA
def b_law_want_1 : FS := (fun ρ P => (∃ xs : List D, ρ.sl[5]? = some (Sl.own xs)) ∧ fsApp 5 (fUn gTuple (fOfN (fnComp (fiRange1 (flCons (fVar 3) (flNil))) (fgN 7) (ftYes) (fCall 2 W_law_next (faSt 0 (flCons (fVar 4) (flNil)))) [7]))) ρ P)
def w_law_want : FS := fsSeq (fsAsg (fTup (flCons (fOp gAdd (fC (.int 1)) (fCall 2 W_law_next (faSt 0 (flCons (fVar 1) (flNil))))) (flCons (fOp gAdd (fC (.int 1)) (fCall 2 W_law_next (faSt 0 (flCons (fVar 2) (flNil))))) (flNil)))) (fgTup 2 (fgCons (fgN 3) (fgCons (fgN 4) (fgNil)))))
  (fsSeq (fsOwn 5 (fnLst (flNil)))
  (fsSeq (fsFor (fiRange1 (flCons (fVar 4) (flNil))) (fgN 6) (b_law_want_1))
  (fsSeq (fsAsg (fOfN (fnComp (fiRange1 (flCons (fVar 4) (flNil))) (fgN 6) (ftB (fOp gEqA (fCall 2 W_law_next (faSt 0 (flCons (fC (.int 2)) (flNil)))) (fC (.int 1)))) (fVar 6) [6])) (fgN 8))
  ((fun ρ P => (fsRet (fTup (flCons (fVar 3) (flCons (fUn gTuple (fVar 5)) (flCons (fUn gTuple (fOfN (fn1 nSortSet (fOp gAdd (fVar 8) (fLst (flCons (fC (.int 0)) (flNil))))))) (flNil)))))) (frz 5 ρ) P)))))
def W_law_want : FE := fun ρ k => ∃ (A B : Int), ρ.sl = [.st, .d (.int A), .d (.int B)] ∧ (1 ≤ A ∧ A ≤ 4 ∧ 1 ≤ B ∧ B ≤ 6) ∧ ρ.n + 100 ≤ 1000000000000 ∧ ∀ (q : Int) (T : List (List Int)) (G : List Int) (nn : Nat), (WOK q T G ∧ q ≤ A ∧ (T.length : Int) ≤ B) → nn ≤ ρ.n + 100 → k (wishD q T G) ⟨ρ.sl, nn⟩
theorem mW_law_want (ρ : Rho) (k k' : KD) (hM : ∀ d ρ', k d ρ' → k' d ρ') (q : W_law_want ρ k) : W_law_want ρ k' := by
  obtain ⟨A, B, e1, e2, e3, e4⟩ := q
  exact ⟨A, B, e1, e2, e3, fun q T G nn a b => hM _ _ (e4 q T G nn a b)⟩
theorem want_rows (a b : Nat) (ha : a ≤ 4) (hb : b ≤ 6) (hb1 : 1 ≤ b) (s1 s2 s8 : Sl) : ∀ (js : List Nat) (Tc : List (List Int)) (n : Nat) (x6 x7 : Sl) (P : Post), n + js.length * 4 < 1000000000000 → Tc.length ≤ 1000 →
    (∀ r ∈ Tc, r.length = a ∧ ∀ x ∈ r, 0 ≤ x ∧ x < (b : Int)) →
    (∀ (Tf : List (List Int)) (n' : Nat) (x6 x7 : Sl), (∀ r ∈ Tf, r.length = a ∧ ∀ x ∈ r, 0 ≤ x ∧ x < (b : Int)) → Tf.length = Tc.length + js.length → n' ≤ n + js.length * 4 → P.nx ⟨[.st, s1, s2, .d (.int a), .d (.int b), .own (.l (Tf.map tupI)), x6, x7, s8], n'⟩) →
    Tc.length + js.length ≤ 1000 →
    forD (fgN 6) b_law_want_1 (js.map fun i : Nat => PyData.int (i : Int)) ⟨[.st, s1, s2, .d (.int a), .d (.int b), .own (.l (Tc.map tupI)), x6, x7, s8], n⟩ P := by
  intro js
  induction js with
  | nil => intro Tc n x6 x7 P _ _ hT h _; exact h Tc n x6 x7 hT (by simp) (by simp)
  | cons j js ih =>
    intro Tc n x6 x7 P hn hl hT h hk
    rw [List.length_cons, Nat.succ_mul] at hn
    rw [List.length_cons] at hk
    rw [List.map_cons]
    unfold forD
    simp [and_assoc, Rho.set, dropOwn, ftLend, fLend, lendR, frz, ow, nList, -forall_exists_index, fBody, fsSeq, fsIf, fsRet, fsNext, fsDrop, fsAsg, fsNever, fsFor, fsOwn, fsPar2, fsPar_od, fsPar_do, fsPar_oo, fVar, fC, fUn, fOp, fChain, fTup, fLst, fCall, faD, faSt, flCons, flNil, fSl, foSome, foNone, fAnd, fOr, fNot, fIf, fOfN, fn1, fnLst, fnCat, fgN, fgTup, fgCons, fgNil, fiSeq, fiRange1, fiRange2, fiEnumA, fiZip, ftOr, ftAnd, ftNot, ftB, ftT, ftYes, truD_b, truD_i, truD_l, truD_t, truD_n, gIx_t0, gIx_t1, gIx_t2, gSl_t, gSl_l, gIsT, notDict, isT, isN, tyName, gLen_t, gLen_l, gTuple_l, gCmp, gAdd_ii, gAdd_ss, gAdd_tt, gAdd_ll, PD.gSub, gNeg, gMod, seqD, forD, wipeR, gEqA, gNeA, gEq_ii, gNe_ii, gEq_tt, gIn_ints, gIn_intsL, gNotIn_ints, gNotIn_intsL]
    show b_law_want_1 _ _
    unfold b_law_want_1
    refine ⟨⟨_, rfl⟩, fsApp_i ?_⟩
    simp [and_assoc, Rho.set, dropOwn, ftLend, fLend, lendR, frz, ow, nList, -forall_exists_index, fBody, fsSeq, fsIf, fsRet, fsNext, fsDrop, fsAsg, fsNever, fsFor, fsOwn, fsPar2, fsPar_od, fsPar_do, fsPar_oo, fVar, fC, fUn, fOp, fChain, fTup, fLst, fCall, faD, faSt, flCons, flNil, fSl, foSome, foNone, fAnd, fOr, fNot, fIf, fOfN, fn1, fnLst, fnCat, fgN, fgTup, fgCons, fgNil, fiSeq, fiRange1, fiRange2, fiEnumA, fiZip, ftOr, ftAnd, ftNot, ftB, ftT, ftYes, truD_b, truD_i, truD_l, truD_t, truD_n, gIx_t0, gIx_t1, gIx_t2, gSl_t, gSl_l, gIsT, notDict, isT, isN, tyName, gLen_t, gLen_l, gTuple_l, gCmp, gAdd_ii, gAdd_ss, gAdd_tt, gAdd_ll, PD.gSub, gNeg, gMod, seqD, forD, wipeR, gEqA, gNeA, gEq_ii, gNe_ii, gEq_tt, gIn_ints, gIn_intsL, gNotIn_ints, gNotIn_intsL]
    refine fnComp_i ?_
    simp [and_assoc, Rho.set, dropOwn, ftLend, fLend, lendR, frz, ow, nList, -forall_exists_index, fBody, fsSeq, fsIf, fsRet, fsNext, fsDrop, fsAsg, fsNever, fsFor, fsOwn, fsPar2, fsPar_od, fsPar_do, fsPar_oo, fVar, fC, fUn, fOp, fChain, fTup, fLst, fCall, faD, faSt, flCons, flNil, fSl, foSome, foNone, fAnd, fOr, fNot, fIf, fOfN, fn1, fnLst, fnCat, fgN, fgTup, fgCons, fgNil, fiSeq, fiRange1, fiRange2, fiEnumA, fiZip, ftOr, ftAnd, ftNot, ftB, ftT, ftYes, truD_b, truD_i, truD_l, truD_t, truD_n, gIx_t0, gIx_t1, gIx_t2, gSl_t, gSl_l, gIsT, notDict, isT, isN, tyName, gLen_t, gLen_l, gTuple_l, gCmp, gAdd_ii, gAdd_ss, gAdd_tt, gAdd_ll, PD.gSub, gNeg, gMod, seqD, forD, wipeR, gEqA, gNeA, gEq_ii, gNe_ii, gEq_tt, gIn_ints, gIn_intsL, gNotIn_ints, gNotIn_intsL]
    rw [rangeD_nat]
    refine ⟨by omega, by rw [List.length_map, List.length_range]; omega, comp_draw (fun i : Nat => PyData.int (i : Int)) b (n + 4) _ (List.range a) [] n (by rw [List.length_range]; omega) (fun i hi n' hn' kt hk => ?_) fun rs hl hr => ?_⟩
    · simp [and_assoc, Rho.set, dropOwn, ftLend, fLend, lendR, frz, ow, fsApp, nList, -forall_exists_index, fBody, fsSeq, fsIf, fsRet, fsNext, fsDrop, fsAsg, fsNever, fsFor, fsOwn, fsPar2, fsPar_od, fsPar_do, fsPar_oo, fVar, fC, fUn, fOp, fChain, fTup, fLst, fCall, faD, faSt, flCons, flNil, fSl, foSome, foNone, fAnd, fOr, fNot, fIf, fOfN, fn1, fnLst, fnCat, fgN, fgTup, fgCons, fgNil, fiSeq, fiRange1, fiRange2, fiEnumA, fiZip, ftOr, ftAnd, ftNot, ftB, ftT, ftYes, truD_b, truD_i, truD_l, truD_t, truD_n, gIx_t0, gIx_t1, gIx_t2, gSl_t, gSl_l, gIsT, notDict, isT, isN, tyName, gLen_t, gLen_l, gTuple_l, gCmp, gAdd_ii, gAdd_ss, gAdd_tt, gAdd_ll, PD.gSub, gNeg, gMod, seqD, forD, wipeR, gEqA, gNeA, gEq_ii, gNe_ii, gEq_tt, gIn_ints, gIn_intsL, gNotIn_ints, gNotIn_intsL]
      refine ⟨b, rfl, by omega, by omega, by simp; omega, fun r h0 h1 => ?_⟩
      exact hk r h0 h1 _ rfl
    · rw [List.length_range] at hl
      rw [List.nil_append, List.length_range]
      simp [and_assoc, Rho.set, dropOwn, ftLend, fLend, lendR, frz, ow, nList, -forall_exists_index, fBody, fsSeq, fsIf, fsRet, fsNext, fsDrop, fsAsg, fsNever, fsFor, fsOwn, fsPar2, fsPar_od, fsPar_do, fsPar_oo, fVar, fC, fUn, fOp, fChain, fTup, fLst, fCall, faD, faSt, flCons, flNil, fSl, foSome, foNone, fAnd, fOr, fNot, fIf, fOfN, fn1, fnLst, fnCat, fgN, fgTup, fgCons, fgNil, fiSeq, fiRange1, fiRange2, fiEnumA, fiZip, ftOr, ftAnd, ftNot, ftB, ftT, ftYes, truD_b, truD_i, truD_l, truD_t, truD_n, gIx_t0, gIx_t1, gIx_t2, gSl_t, gSl_l, gIsT, notDict, isT, isN, tyName, gLen_t, gLen_l, gTuple_l, gCmp, gAdd_ii, gAdd_ss, gAdd_tt, gAdd_ll, PD.gSub, gNeg, gMod, seqD, forD, wipeR, gEqA, gNeA, gEq_ii, gNe_ii, gEq_tt, gIn_ints, gIn_intsL, gNotIn_ints, gNotIn_intsL]
      refine ⟨by omega, ?_⟩
      have := ih (Tc ++ [rs]) (n + a) (.d (.int j)) x7 P (by omega) (by rw [List.length_append, List.length_singleton]; omega) (fun r hr' => ?_) (fun Tf n' x6 x7 g1 g2 g3 => h Tf n' x6 x7 g1 (by rw [g2, List.length_append, List.length_singleton, List.length_cons]; omega) (by rw [List.length_cons, Nat.succ_mul]; omega)) (by rw [List.length_append, List.length_singleton]; omega)
      · rw [List.map_append] at this
        exact this
      · rcases List.mem_append.mp hr' with u | u
        · exact hT r u
        · rw [List.mem_singleton] at u
          subst u
          exact ⟨hl, hr⟩
theorem ok_law_want : ∀ ρ k, W_law_want ρ k → fBody 9 w_law_want ρ k := by
  rintro ⟨sl, n⟩ k ⟨A, B, e, ⟨hA1, hA4, hB1, hB6⟩, hn, z⟩
  simp only at e hn z
  subst e
  simp [w_law_want]
  simp [and_assoc, Rho.set, dropOwn, ftLend, fLend, lendR, frz, ow, nList, -forall_exists_index, fBody, fsSeq, fsIf, fsRet, fsNext, fsDrop, fsAsg, fsNever, fsFor, fsOwn, fsPar2, fsPar_od, fsPar_do, fsPar_oo, fVar, fC, fUn, fOp, fChain, fTup, fLst, fCall, faD, faSt, flCons, flNil, fSl, foSome, foNone, fAnd, fOr, fNot, fIf, fOfN, fn1, fnLst, fnCat, fgN, fgTup, fgCons, fgNil, fiSeq, fiRange1, fiRange2, fiEnumA, fiZip, ftOr, ftAnd, ftNot, ftB, ftT, ftYes, truD_b, truD_i, truD_l, truD_t, truD_n, gIx_t0, gIx_t1, gIx_t2, gSl_t, gSl_l, gIsT, notDict, isT, isN, tyName, gLen_t, gLen_l, gTuple_l, gCmp, gAdd_ii, gAdd_ss, gAdd_tt, gAdd_ll, PD.gSub, gNeg, gMod, seqD, forD, wipeR, gEqA, gNeA, gEq_ii, gNe_ii, gEq_tt, gIn_ints, gIn_intsL, gNotIn_ints, gNotIn_intsL]
  refine ⟨A, rfl, by omega, by omega, by simp; omega, fun r1 a1 b1 => ?_⟩
  simp [and_assoc, Rho.set, dropOwn, ftLend, fLend, lendR, frz, ow, nList, -forall_exists_index, fBody, fsSeq, fsIf, fsRet, fsNext, fsDrop, fsAsg, fsNever, fsFor, fsOwn, fsPar2, fsPar_od, fsPar_do, fsPar_oo, fVar, fC, fUn, fOp, fChain, fTup, fLst, fCall, faD, faSt, flCons, flNil, fSl, foSome, foNone, fAnd, fOr, fNot, fIf, fOfN, fn1, fnLst, fnCat, fgN, fgTup, fgCons, fgNil, fiSeq, fiRange1, fiRange2, fiEnumA, fiZip, ftOr, ftAnd, ftNot, ftB, ftT, ftYes, truD_b, truD_i, truD_l, truD_t, truD_n, gIx_t0, gIx_t1, gIx_t2, gSl_t, gSl_l, gIsT, notDict, isT, isN, tyName, gLen_t, gLen_l, gTuple_l, gCmp, gAdd_ii, gAdd_ss, gAdd_tt, gAdd_ll, PD.gSub, gNeg, gMod, seqD, forD, wipeR, gEqA, gNeA, gEq_ii, gNe_ii, gEq_tt, gIn_ints, gIn_intsL, gNotIn_ints, gNotIn_intsL]
  refine ⟨B, rfl, by omega, by omega, by simp; omega, fun r2 a2 b2 => ?_⟩
  simp [and_assoc, Rho.set, dropOwn, ftLend, fLend, lendR, frz, ow, nList, -forall_exists_index, fBody, fsSeq, fsIf, fsRet, fsNext, fsDrop, fsAsg, fsNever, fsFor, fsOwn, fsPar2, fsPar_od, fsPar_do, fsPar_oo, fVar, fC, fUn, fOp, fChain, fTup, fLst, fCall, faD, faSt, flCons, flNil, fSl, foSome, foNone, fAnd, fOr, fNot, fIf, fOfN, fn1, fnLst, fnCat, fgN, fgTup, fgCons, fgNil, fiSeq, fiRange1, fiRange2, fiEnumA, fiZip, ftOr, ftAnd, ftNot, ftB, ftT, ftYes, truD_b, truD_i, truD_l, truD_t, truD_n, gIx_t0, gIx_t1, gIx_t2, gSl_t, gSl_l, gIsT, notDict, isT, isN, tyName, gLen_t, gLen_l, gTuple_l, gCmp, gAdd_ii, gAdd_ss, gAdd_tt, gAdd_ll, PD.gSub, gNeg, gMod, seqD, forD, wipeR, gEqA, gNeA, gEq_ii, gNe_ii, gEq_tt, gIn_ints, gIn_intsL, gNotIn_ints, gNotIn_intsL]
  obtain ⟨a, rfl⟩ := Int.eq_ofNat_of_zero_le a1
  obtain ⟨b, rfl⟩ := Int.eq_ofNat_of_zero_le a2
  rw [show (1 : Int) + (a : Int) = ((1 + a : Nat) : Int) by omega, show (1 : Int) + (b : Int) = ((1 + b : Nat) : Int) by omega, rangeD_nat]
  refine ⟨by omega, by omega, want_rows (1 + a) (1 + b) (by omega) (by omega) (by omega) _ _ _ (List.range (1 + b)) [] _ _ _ _ (by rw [List.length_range]; omega) (by simp) (fun r hr => absurd hr List.not_mem_nil) (fun T n' x6 x7 g1 g2 g3 => ?_) (by rw [List.length_range]; simp; omega)⟩
  rw [List.length_range] at g2 g3
  rw [List.length_nil, Nat.zero_add] at g2
  dsimp only
  refine fnComp_i ?_
  simp [and_assoc, Rho.set, dropOwn, ftLend, fLend, lendR, frz, ow, nList, -forall_exists_index, fBody, fsSeq, fsIf, fsRet, fsNext, fsDrop, fsAsg, fsNever, fsFor, fsOwn, fsPar2, fsPar_od, fsPar_do, fsPar_oo, fVar, fC, fUn, fOp, fChain, fTup, fLst, fCall, faD, faSt, flCons, flNil, fSl, foSome, foNone, fAnd, fOr, fNot, fIf, fOfN, fn1, fnLst, fnCat, fgN, fgTup, fgCons, fgNil, fiSeq, fiRange1, fiRange2, fiEnumA, fiZip, ftOr, ftAnd, ftNot, ftB, ftT, ftYes, truD_b, truD_i, truD_l, truD_t, truD_n, gIx_t0, gIx_t1, gIx_t2, gSl_t, gSl_l, gIsT, notDict, isT, isN, tyName, gLen_t, gLen_l, gTuple_l, gCmp, gAdd_ii, gAdd_ss, gAdd_tt, gAdd_ll, PD.gSub, gNeg, gMod, seqD, forD, wipeR, gEqA, gNeA, gEq_ii, gNe_ii, gEq_tt, gIn_ints, gIn_intsL, gNotIn_ints, gNotIn_intsL]
  rw [show (1 : Int) + (b : Int) = ((1 + b : Nat) : Int) by omega, rangeD_nat]
  refine ⟨by omega, by omega, by rw [List.length_map, List.length_range]; omega, comp_drawF (fun i : Nat => PyData.int (i : Int)) (fun i : Nat => PyData.int (i : Int)) (n' + 10) _ (List.range (1 + b)) [] n' (by rw [List.length_range]; omega) (fun i hi m hm kt kf c1 c2 => ?_) fun ys hl hy => ?_⟩
  · simp [and_assoc, Rho.set, dropOwn, ftLend, fLend, lendR, frz, ow, nList, -forall_exists_index, fBody, fsSeq, fsIf, fsRet, fsNext, fsDrop, fsAsg, fsNever, fsFor, fsOwn, fsPar2, fsPar_od, fsPar_do, fsPar_oo, fVar, fC, fUn, fOp, fChain, fTup, fLst, fCall, faD, faSt, flCons, flNil, fSl, foSome, foNone, fAnd, fOr, fNot, fIf, fOfN, fn1, fnLst, fnCat, fgN, fgTup, fgCons, fgNil, fiSeq, fiRange1, fiRange2, fiEnumA, fiZip, ftOr, ftAnd, ftNot, ftB, ftT, ftYes, truD_b, truD_i, truD_l, truD_t, truD_n, gIx_t0, gIx_t1, gIx_t2, gSl_t, gSl_l, gIsT, notDict, isT, isN, tyName, gLen_t, gLen_l, gTuple_l, gCmp, gAdd_ii, gAdd_ss, gAdd_tt, gAdd_ll, PD.gSub, gNeg, gMod, seqD, forD, wipeR, gEqA, gNeA, gEq_ii, gNe_ii, gEq_tt, gIn_ints, gIn_intsL, gNotIn_ints, gNotIn_intsL]
    refine ⟨2, rfl, by decide, by decide, by simp; omega, fun r h0 h1 => ?_⟩
    simp [and_assoc, Rho.set, dropOwn, ftLend, fLend, lendR, frz, ow, nList, -forall_exists_index, fBody, fsSeq, fsIf, fsRet, fsNext, fsDrop, fsAsg, fsNever, fsFor, fsOwn, fsPar2, fsPar_od, fsPar_do, fsPar_oo, fVar, fC, fUn, fOp, fChain, fTup, fLst, fCall, faD, faSt, flCons, flNil, fSl, foSome, foNone, fAnd, fOr, fNot, fIf, fOfN, fn1, fnLst, fnCat, fgN, fgTup, fgCons, fgNil, fiSeq, fiRange1, fiRange2, fiEnumA, fiZip, ftOr, ftAnd, ftNot, ftB, ftT, ftYes, truD_b, truD_i, truD_l, truD_t, truD_n, gIx_t0, gIx_t1, gIx_t2, gSl_t, gSl_l, gIsT, notDict, isT, isN, tyName, gLen_t, gLen_l, gTuple_l, gCmp, gAdd_ii, gAdd_ss, gAdd_tt, gAdd_ll, PD.gSub, gNeg, gMod, seqD, forD, wipeR, gEqA, gNeA, gEq_ii, gNe_ii, gEq_tt, gIn_ints, gIn_intsL, gNotIn_ints, gNotIn_intsL]
    by_cases e : r = 1
    · exact .inr ⟨e, c1 _ rfl⟩
    · exact .inl ⟨e, c2 _ rfl⟩
  · rw [List.length_range] at hl
    rw [List.nil_append, List.length_range]
    simp [and_assoc, Rho.set, dropOwn, ftLend, fLend, lendR, frz, ow, nList, -forall_exists_index, fBody, fsSeq, fsIf, fsRet, fsNext, fsDrop, fsAsg, fsNever, fsFor, fsOwn, fsPar2, fsPar_od, fsPar_do, fsPar_oo, fVar, fC, fUn, fOp, fChain, fTup, fLst, fCall, faD, faSt, flCons, flNil, fSl, foSome, foNone, fAnd, fOr, fNot, fIf, fOfN, fn1, fnLst, fnCat, fgN, fgTup, fgCons, fgNil, fiSeq, fiRange1, fiRange2, fiEnumA, fiZip, ftOr, ftAnd, ftNot, ftB, ftT, ftYes, truD_b, truD_i, truD_l, truD_t, truD_n, gIx_t0, gIx_t1, gIx_t2, gSl_t, gSl_l, gIsT, notDict, isT, isN, tyName, gLen_t, gLen_l, gTuple_l, gCmp, gAdd_ii, gAdd_ss, gAdd_tt, gAdd_ll, PD.gSub, gNeg, gMod, seqD, forD, wipeR, gEqA, gNeA, gEq_ii, gNe_ii, gEq_tt, gIn_ints, gIn_intsL, gNotIn_ints, gNotIn_intsL]
    have en : ys.map (fun i : Nat => PyData.int (i : Int)) ++ [PyData.int 0] = (ys.map (fun i : Nat => (i : Int)) ++ [(0 : Int)]).map .int := by
      rw [List.map_append, List.map_map]
      rfl
    have hm : ∀ x ∈ usort (ys.map (fun i : Nat => (i : Int)) ++ [(0 : Int)]), 0 ≤ x ∧ x ≤ (T.length : Int) - 1 := fun x hx => by
      rcases List.mem_append.mp (usort_mem.mp hx) with u | u
      · obtain ⟨i, hi, rfl⟩ := List.mem_map.mp u
        have := List.mem_range.mp (hy i hi)
        omega
      · rw [List.mem_singleton] at u
        omega
    refine ⟨by rw [sizeLine_eq]; omega, _, by rw [en]; exact nSortSet_ints (by rw [List.length_append, List.length_map, List.length_singleton]; omega), z (1 + a) T _ _ ⟨⟨by omega, by omega, by omega, by omega, fun r hr => ⟨by rw [(g1 r hr).1]; omega, fun x hx => ?_⟩, usort_lt _, hm, usort_mem.mpr (List.mem_append_right _ (List.mem_singleton.mpr rfl))⟩, by omega, by omega⟩ (by omega)⟩
    have := (g1 r hr).2 x hx
    omega
structure Part (T : List (List Int)) (G F : List Int) : Prop where
  nd : F.Nodup
  rng : ∀ x ∈ F, 0 ≤ x ∧ x ≤ (T.length : Int) - 1
  sup : ∀ x ∈ G, x ∈ F
  min : ∀ A : Int → Prop, (∀ x ∈ G, A x) → (∀ (i : Nat) (h : i < T.length), (∃ b ∈ T[i], A b) → A i) → ∀ x ∈ F, A x
theorem Part.len {T : List (List Int)} {G F : List Int} (h : Part T G F) (ht : 1 ≤ T.length) : F.length ≤ T.length := by
  have h1 := asc_len (G := isort F) (lo := 0) (hi := (T.length : Int) - 1) (isort_strict h.nd) fun x hx => h.rng x ((isort_perm F).mem_iff.mp hx)
  rw [(isort_perm F).length_eq] at h1
  omega
def more (m : Nat) (r : List Int) : List (List Int) := (List.range m).map fun i : Nat => r ++ [(i : Int)]
end GA
namespace PD
open PySem L2 PyProof.Rows PySem.Spec
open Evl (Ex)
end PD
namespace PD
open PySem L2 PyProof.Rows PySem.Spec
open Evl (Ex)
def addS (S : List (Addr × HO)) (H : Hp) : Hp := fun b => match S.lookup b with
  | some u => some u
  | none => H b
def delS (S : List (Addr × HO)) (H : Hp) : Hp := fun b => if b ∈ S.map (·.1) then none else H b
section
variable {S : List (Addr × HO)} {H H' : Hp} {b : Addr} {u : HO}
theorem look_mem : ∀ {S : List (Addr × HO)} {v : HO}, S.lookup b = some v → (b, v) ∈ S
  | [], _, h => by cases h
  | (c, w) :: S, v, h => by
    simp only [List.lookup] at h
    split at h
    · rename_i e
      cases h
      rw [beq_iff_eq.mp e]
      exact List.mem_cons_self
    · exact List.mem_cons_of_mem _ (look_mem h)
theorem look_non : ∀ {S : List (Addr × HO)}, S.lookup b = none → b ∉ S.map (·.1)
  | [], _ => List.not_mem_nil
  | (c, w) :: S, h => fun z => by
    simp only [List.lookup] at h
    split at h
    · cases h
    · rename_i e
      rcases List.mem_cons.mp z with z | z
      · rw [z] at e; simp at e
      · exact look_non h z
theorem look_out (h : b ∉ S.map (·.1)) : S.lookup b = none := by
  cases e : S.lookup b with
  | none => rfl
  | some v => exact absurd (List.mem_map.mpr ⟨(b, v), look_mem e, rfl⟩) h
theorem look_in : ∀ {S : List (Addr × HO)}, (S.map (·.1)).Nodup → (b, u) ∈ S → S.lookup b = some u
  | [], _, h => absurd h List.not_mem_nil
  | (c, v) :: S, nd, h => by
    rw [List.map_cons, List.nodup_cons] at nd
    rcases List.mem_cons.mp h with e | h
    · cases e
      simp [List.lookup]
    · have hne : (b == c) = false := beq_eq_false_iff_ne.mpr fun e => nd.1 (List.mem_map.mpr ⟨_, h, e⟩)
      simp only [List.lookup, hne]
      exact look_in nd.2 h
theorem addS_out (h : b ∉ S.map (·.1)) : addS S H b = H b := by
  unfold addS
  rw [look_out h]
theorem addS_in (nd : (S.map (·.1)).Nodup) (h : (b, u) ∈ S) : addS S H b = some u := by
  unfold addS
  rw [look_in nd h]
theorem delS_out (h : b ∉ S.map (·.1)) : delS S H b = H b := if_neg h
theorem delS_in (h : b ∈ S.map (·.1)) : delS S H b = none := if_pos h
theorem delS_some (h : delS S H b = some u) : b ∉ S.map (·.1) ∧ H b = some u := by
  unfold delS at h
  by_cases hb : b ∈ S.map (·.1)
  · rw [if_pos hb] at h; cases h
  · rw [if_neg hb] at h; exact ⟨hb, h⟩
theorem addS_some (h : addS S H b = some u) : (b, u) ∈ S ∨ (b ∉ S.map (·.1) ∧ H b = some u) := by
  unfold addS at h
  cases e : S.lookup b with
  | none =>
    rw [e] at h
    exact .inr ⟨look_non e, h⟩
  | some v =>
    rw [e] at h
    cases h
    exact .inl (look_mem e)
end
section
variable {P : Program} {w : World} {A : Around} {outer : List Env} {s s' : Shared} {H H' : Hp} {S : List (Addr × HO)} {Q : VK} {E : XK} {h h' : Heap}
/-- exact objects, marked -/
def CeS (S : List (Addr × HO)) (h : Heap) : Prop := ∀ q ∈ S, ∃ (k : Nat) (o : Obj), q.2 = CeO k o ∧ h.get? q.1 = some o
theorem hok_del (hc : ∀ q ∈ S, ∃ (k : Nat) (o : Obj), q.2 = CeO k o) (hH : ∀ q ∈ S, H q.1 = some q.2) (hok : HOk P w H h) : HOk P w (delS S H) h := fun a o e => by
  obtain ⟨h1, h2⟩ := delS_some e
  have out : ∀ {b : Addr} {u : HO}, H b = some u → (∀ k o, u ≠ CeO k o) → b ∉ S.map (·.1) := fun {b u} hb n z => by
    obtain ⟨q, hq, rfl⟩ := List.mem_map.mp z
    obtain ⟨k, o, e⟩ := hc q hq
    have := hH q hq
    rw [hb, e] at this
    exact n k o (Option.some.inj this)
  refine (hok a o h2).stay (fun b u _ z => z) (fun b z => ?_) fun b xs z => ?_
  · rw [delS_out (out z fun k o q => by unfold CeO at q; cases q)]; exact z
  · rw [delS_out (out z fun k o q => by unfold CeO at q; cases q)]; exact z
theorem hok_add (nd : (S.map (·.1)).Nodup) (hc : CeS S h) (hn : ∀ q ∈ S, H q.1 = none) (hok : HOk P w H h) : HOk P w (addS S H) h := fun a o e => by
  rcases addS_some e with z | ⟨_, z⟩
  · obtain ⟨k, ob, e1, e2⟩ := hc _ z
    simp only at e1 e2
    subst e1
    exact ⟨e2, ob, e2⟩
  · have out : ∀ {b : Addr} {u : HO}, H b = some u → b ∉ S.map (·.1) := fun {b u} hb y => by
      obtain ⟨q, hq, rfl⟩ := List.mem_map.mp y
      rw [hn q hq] at hb
      cases hb
    exact (hok a o z).stay (fun b u _ y => y) (fun b y => by rw [addS_out (out y)]; exact y) fun b xs y => by rw [addS_out (out y)]; exact y
/-- cells are lent to a call -/
theorem lend_end {r : Result} (nd : (S.map (·.1)).Nodup) (hc : CeS S s.heap) (hn : ∀ q ∈ S, H q.1 = none) (nf : ∀ q ∈ S, q.1 ∉ frs outer)
    (h : CR (L2.CX P w) outer P w (addS S H) s (fun v H' => (∀ q ∈ S, H' q.1 = some q.2) → Q v (delS S H')) (fun _ _ _ => False) r s') : CR (L2.CX P w) outer P w H s Q (fun _ _ _ => False) r s' := by
  cases r with
  | error e =>
    obtain ⟨_, _, _, _, _, _, _, _, _, _, _, _, z⟩ := h
    exact z.elim
  | ok fl =>
    cases fl with
    | next => exact h.elim
    | brk => exact h.elim
    | cont => exact h.elim
    | ret u =>
      obtain ⟨v, H2, os, bare, un, hok2, rv, q⟩ := h
      have kept : ∀ q ∈ S, H2 q.1 = some q.2 := fun q hq => by
        obtain ⟨k, o, e, _⟩ := hc q hq
        have : addS S H q.1 = some (CeO k o) := by rw [← e]; exact addS_in nd hq
        rw [e]
        exact un.frzs q.1 o _ this
      have inS : ∀ {b : Addr}, b ∈ S.map (·.1) → ∃ o, s.heap.get? b = some o ∧ s'.heap.get? b = some o := fun {b} hb => by
        obtain ⟨q, hq, rfl⟩ := List.mem_map.mp hb
        obtain ⟨k, o, e, g⟩ := hc q hq
        have := hok2 q.1 _ (kept q hq)
        rw [e] at this
        exact ⟨o, g, this.1⟩
      have out : ∀ {b : Addr} {u : HO}, H b = some u → b ∉ S.map (·.1) := fun {b u} hb y => by
        obtain ⟨q, hq, rfl⟩ := List.mem_map.mp y
        rw [hn q hq] at hb
        cases hb
      refine ⟨v, delS S H2, os, bare, ⟨fun b o e n hf hx => ?_, fun b o e n hf hx => ?_, fun b o e n hx => ?_, un.there, fun b xs e => ?_, fun b o u e => ?_, fun b ps e => ?_⟩, hok_del (fun q hq => let ⟨k, o, e, _⟩ := hc q hq; ⟨k, o, e⟩) kept hok2, rv, q kept⟩
      · by_cases hb : b ∈ S.map (·.1)
        · obtain ⟨o2, g1, g2⟩ := inS hb
          rw [e] at g1
          cases g1
          exact g2
        · exact un.keep b o e (by rw [addS_out hb]; exact n) hf hx
      · have hb : b ∉ S.map (·.1) := fun z => by
          obtain ⟨q, hq, rfl⟩ := List.mem_map.mp z
          exact nf q hq hf
        exact un.slot b o e (by rw [addS_out hb]; exact n) hf hx
      · by_cases hb : b ∈ S.map (·.1)
        · exact delS_in hb
        · rw [delS_out hb]
          exact un.free b o e (by rw [addS_out hb]; exact n) hx
      · rw [delS_out (out e)]
        exact un.tups b xs (by rw [addS_out (out e)]; exact e)
      · rw [delS_out (out e)]
        exact un.frzs b o u (by rw [addS_out (out e)]; exact e)
      · rw [delS_out (out e)]
        exact un.tbls b ps (by rw [addS_out (out e)]; exact e)
/-- a call that does not know of cells -/
theorem unlend_end {r : Result} (nd : (S.map (·.1)).Nodup) (hc : CeS S s.heap) (hH : ∀ q ∈ S, H q.1 = some q.2) (frf : ∀ b ∈ frs outer, H b = none)
    (h : CR (L2.CX P w) outer P w (delS S H) s (fun v H' => (∀ q ∈ S, H' q.1 = none) → Q v (addS S H')) (fun c d H' => (∀ q ∈ S, H' q.1 = none) → E c d (addS S H')) r s') : CR (L2.CX P w) outer P w H s Q E r s' := by
  have nf : ∀ {b : Addr}, b ∈ S.map (·.1) → b ∉ frs outer := fun {b} hb z => by
    obtain ⟨q, hq, rfl⟩ := List.mem_map.mp hb
    have := frf _ z
    rw [hH q hq] at this
    cases this
  have out : ∀ {b : Addr}, H b = none → b ∉ S.map (·.1) := fun {b} hb z => by
    obtain ⟨q, hq, rfl⟩ := List.mem_map.mp z
    rw [hH q hq] at hb
    cases hb
  have atS : ∀ {b : Addr} {u : HO}, H b = some u → b ∈ S.map (·.1) → (b, u) ∈ S := fun {b u} hb z => by
    obtain ⟨q, hq, e⟩ := List.mem_map.mp z
    subst e
    rw [hH q hq] at hb
    cases hb
    exact hq
  cases r with
  | error e =>
    obtain ⟨a, B, H2, cls, d, rfl, fl, hok2, ub, na, os, ag, q⟩ := h
    have hn2 : ∀ q ∈ S, H2 q.1 = none := fun q hq => by
      obtain ⟨k, o, _, g⟩ := hc q hq
      exact ub.free q.1 o g (delS_in (List.mem_map.mpr ⟨q, hq, rfl⟩))
    have hc2 : CeS S B := fun q hq => by
      obtain ⟨k, o, e, g⟩ := hc q hq
      have hm : q.1 ∈ S.map (·.1) := List.mem_map.mpr ⟨q, hq, rfl⟩
      exact ⟨k, o, e, ub.keep q.1 o g (delS_in hm) (nf hm)⟩
    have na2 : a ∉ S.map (·.1) := fun z => by
      obtain ⟨q, hq, rfl⟩ := List.mem_map.mp z
      obtain ⟨k, o, e, g⟩ := hc2 q hq
      rw [fl.2.1] at g
      cases g
    refine ⟨a, B, addS S H2, cls, d, rfl, fl, hok_add nd hc2 hn2 hok2, ⟨fun b o e n hf => ?_, ub.slot, fun b o e n => ?_, ub.there, fun b xs e => ?_, fun b o u e => ?_, fun b ps e => ?_⟩, by rw [addS_out na2]; exact na, os, ag, q hn2⟩
    · exact ub.keep b o e (by rw [delS_out (out n)]; exact n) hf
    · rw [addS_out (out n)]
      exact ub.free b o e (by rw [delS_out (out n)]; exact n)
    · by_cases hb : b ∈ S.map (·.1)
      · obtain ⟨k, o, e', _⟩ := hc _ (atS e hb)
        unfold CeO at e'
        cases e'
      · rw [addS_out hb]; exact ub.tups b xs (by rw [delS_out hb]; exact e)
    · by_cases hb : b ∈ S.map (·.1)
      · exact addS_in nd (atS e hb)
      · rw [addS_out hb]; exact ub.frzs b o u (by rw [delS_out hb]; exact e)
    · by_cases hb : b ∈ S.map (·.1)
      · obtain ⟨k, o, e', _⟩ := hc _ (atS e hb)
        unfold CeO at e'
        cases e'
      · rw [addS_out hb]; exact ub.tbls b ps (by rw [delS_out hb]; exact e)
  | ok fl =>
    cases fl with
    | next => exact h.elim
    | brk => exact h.elim
    | cont => exact h.elim
    | ret u =>
      obtain ⟨v, H2, os, bare, un, hok2, rv, q⟩ := h
      have noex : ∀ {b : Addr}, b ∉ ([] : List Addr) := fun {b} => List.not_mem_nil
      have hn2 : ∀ q ∈ S, H2 q.1 = none := fun q hq => by
        obtain ⟨k, o, _, g⟩ := hc q hq
        exact un.free q.1 o g (delS_in (List.mem_map.mpr ⟨q, hq, rfl⟩)) noex
      have hc2 : CeS S s'.heap := fun q hq => by
        obtain ⟨k, o, e, g⟩ := hc q hq
        have hm : q.1 ∈ S.map (·.1) := List.mem_map.mpr ⟨q, hq, rfl⟩
        exact ⟨k, o, e, un.keep q.1 o g (delS_in hm) (nf hm) noex⟩
      refine ⟨v, addS S H2, os, bare, ⟨fun b o e n hf hx => ?_, fun b o e n hf hx => ?_, fun b o e n hx => ?_, un.there, fun b xs e => ?_, fun b o u e => ?_, fun b ps e => ?_⟩, hok_add nd hc2 hn2 hok2, rv, q hn2⟩
      · exact un.keep b o e (by rw [delS_out (out n)]; exact n) hf hx
      · exact un.slot b o e (by rw [delS_out (out n)]; exact n) hf hx
      · rw [addS_out (out n)]
        exact un.free b o e (by rw [delS_out (out n)]; exact n) hx
      · by_cases hb : b ∈ S.map (·.1)
        · obtain ⟨k, o, e', _⟩ := hc _ (atS e hb)
          unfold CeO at e'
          cases e'
        · rw [addS_out hb]; exact un.tups b xs (by rw [delS_out hb]; exact e)
      · by_cases hb : b ∈ S.map (·.1)
        · exact addS_in nd (atS e hb)
        · rw [addS_out hb]; exact un.frzs b o u (by rw [delS_out hb]; exact e)
      · by_cases hb : b ∈ S.map (·.1)
        · obtain ⟨k, o, e', _⟩ := hc _ (atS e hb)
          unfold CeO at e'
          cases e'
        · rw [addS_out hb]; exact un.tbls b ps (by rw [delS_out hb]; exact e)
end
end PD
namespace PD
open PySem L2 PyProof.Rows PySem.Spec
open Evl (Ex)
structure LamG (P : Program) (w : World) (K : PySem.W.Frag) (mg : Str → Option Value) (base : Heap) (k : Nat) (path : List Nat) (nP : Nat) (sp : Sp) : Prop where
  go : ∀ (A : Around) (outer : List Env) (s : Shared) (H : Hp) (f : Addr) (C : CloF) (us : List Value) (vs cvs : List V) (Q : VK) (E : XK), A.guards = some [] → Room k A → Env0 P w K mg base A outer s H → s.heap.get? f = some C.obj → s.heap.CodeRec (.ref C.c) C.q → CloOk P path C cvs →
    (∀ (i : Nat) (x : Str × Addr) (o : Obj), C.cl[i]? = some x → C.os[i]? = some o → s.heap.get? x.2 = some o ∧ H x.2 = none) → Vals vs us → vs.length = nP → sp (vs ++ cvs) H Q E →
    codeAny (model P w) A (.call (.ref f) ⟨us, []⟩) (CR (L2.CX P w) outer P w H s Q E) s
section
variable {P : Program} {w : World} {K : PySem.W.Frag} {mg : Str → Option Value} {base : Heap} {k j : Nat} {path : List Nat} {nP : Nat} {sp sp' : Sp}
theorem LamG.mono (G : LamG P w K mg base j path nP sp) (h : j ≤ k) : LamG P w K mg base k path nP sp :=
  ⟨fun A outer s H f C us vs cvs Q E hg hr => G.go A outer s H f C us vs cvs Q E hg (hr.mono h)⟩
theorem LamG.imp (G : LamG P w K mg base k path nP sp) (h : ∀ vs H Q E, sp' vs H Q E → sp vs H Q E) : LamG P w K mg base k path nP sp' :=
  ⟨fun A outer s H f C us vs cvs Q E hg hr he ho hc hC hz hv hl hs => G.go A outer s H f C us vs cvs Q E hg hr he ho hc hC hz hv hl (h _ _ _ _ hs)⟩
/-- its words, as a made function's -/
@[reducible] def CloF.nf (C : CloF) : NdefX.NF := ⟨"<lambda>", C.q, C.params, [], C.scope, C.cl, C.c⟩
theorem cl_look {l : List (Str × Addr)} (nd : (l.map (·.1)).Nodup) {i : Nat} {x : Str × Addr} (h : l[i]? = some x) : l.lookup x.1 = some x.2 := by
  induction l generalizing i with
  | nil => simp at h
  | cons y l ih =>
    rw [List.map_cons, List.nodup_cons] at nd
    cases i with
    | zero => simp at h; subst h; simp [List.lookup]
    | succ i =>
      have h : l[i]? = some x := by simpa using h
      have hne : (x.1 == y.1) = false := beq_eq_false_iff_ne.mpr fun e => nd.1 (List.mem_map.mpr ⟨x, List.mem_of_getElem? h, e⟩)
      simp only [List.lookup, hne]
      exact ih nd.2 h
theorem cl_idx {l : List (Str × Addr)} {y : Str} {c : Addr} (h : l.lookup y = some c) : ∃ i : Nat, l[i]? = some (y, c) := by
  induction l with
  | nil => cases h
  | cons z l ih =>
    obtain ⟨n, d⟩ := z
    simp only [List.lookup] at h
    split at h
    · rename_i e
      cases h
      rw [beq_iff_eq.mp e]
      exact ⟨0, rfl⟩
    · obtain ⟨i, hi⟩ := ih h
      exact ⟨i + 1, by simpa using hi⟩
theorem nodup_idx {α : Type} {l : List α} (nd : l.Nodup) {i j : Nat} {x : α} (h1 : l[i]? = some x) (h2 : l[j]? = some x) : i = j := by
  obtain ⟨a1, a2⟩ := List.getElem?_eq_some_iff.mp h1
  obtain ⟨b1, b2⟩ := List.getElem?_eq_some_iff.mp h2
  exact (List.getElem_inj nd).mp (a2.trans b2.symm)
theorem clo_cells {C : CloF} {cvs : List V} {s : Shared} {H : Hp} (hC : CloOk P path C cvs) (hz : ∀ (i : Nat) (x : Str × Addr) (o : Obj), C.cl[i]? = some x → C.os[i]? = some o → s.heap.get? x.2 = some o ∧ H x.2 = none) :
    NdefX.CellsAt C.cl (frees C.scope) (cvs.map some) s.heap H := by
  have len : ∀ {i : Nat} {x : Str × Addr}, C.cl[i]? = some x → ∃ o v, C.os[i]? = some o ∧ cvs[i]? = some v := fun {i x} h => by
    have hi := (List.getElem?_eq_some_iff.mp h).1
    exact ⟨_, _, List.getElem?_eq_getElem (by rw [hC.los]; exact hi), List.getElem?_eq_getElem (by rw [hC.lvs]; exact hi)⟩
  refine ⟨by rw [List.length_map, hC.lvs, ← hC.names, List.length_map], fun y c e => ?_, fun x y c e1 e2 => ?_, fun i y hi => ?_⟩
  · obtain ⟨i, hi⟩ := cl_idx e
    obtain ⟨o, v, ho, hv⟩ := len hi
    obtain ⟨u, _, hd⟩ := hC.cell i o v ho hv
    obtain ⟨g1, g2⟩ := hz i _ o hi ho
    exact ⟨g2, some u, o, g1, hd⟩
  · obtain ⟨i, hi⟩ := cl_idx e1
    obtain ⟨j, hj⟩ := cl_idx e2
    have h1 : (C.cl.map (·.2))[i]? = some c := by rw [List.getElem?_map, hi]; rfl
    have h2 : (C.cl.map (·.2))[j]? = some c := by rw [List.getElem?_map, hj]; rfl
    have := nodup_idx hC.inj h1 h2
    rw [this, hj] at hi
    cases hi
    rfl
  · rw [← hC.names, List.getElem?_map] at hi
    cases e : C.cl[i]? with
    | none => rw [e] at hi; cases hi
    | some x =>
      rw [e] at hi
      cases hi
      refine ⟨x.2, cl_look hC.nd e, fun v hv => ?_⟩
      rw [List.getElem?_map] at hv
      obtain ⟨o, v', ho, hv'⟩ := len e
      rw [hv'] at hv
      obtain rfl : v' = v := by simpa using hv
      obtain ⟨u, r, hd⟩ := hC.cell i o v' ho hv'
      exact ⟨u, r, o, (hz i x o e ho).1, hd⟩
theorem lamG_of {N ps : List Str} {params : Arguments} {body : Expr} {scope : Scope} {lpos : Pos} (hL : lamAt P path = some (.Lambda params body scope lpos)) (S : NdefX.NScope N ps (frees scope) scope)
    (hb : ∀ (q : Str) (cl : List (Str × Addr)) (pm ctv : Value) (c : Addr) (us : List Value), us.length = ps.length → bindArgs (PySem.W.kla_fn "<lambda>" q params body scope cl pm (.ref c) ctv) ⟨us, []⟩ = pure (ps.zip us))
    (hbody : ∀ (C : CloF) (A : Around) (outer : List Env) (s : Shared) (H : Hp) (f : Addr) (vs : List V) (Q : VK) (E : XK), C.scope = scope → A.guards = some [] → Room k (A.deeper (NdefX.envF C.nf f s.heap.objs.size)) → vs.length = ps.length + (frees scope).length → sp vs H Q E →
      ∃ t, PE (NdefX.ncx (L2.CX P w) P w K mg base N C.nf f A outer s H E) body t ∧ t (L2.start N vs) H Q) : LamG P w K mg base (k + 1) path ps.length sp := by
  refine ⟨fun A outer s H f C us vs cvs Q E hg hr e0 ho hc hC hz hv hl hs => ?_⟩
  obtain ⟨lpos', hl2⟩ := hC.here
  rw [hL] at hl2
  have e1 := Option.some.inj hl2
  obtain ⟨q, params', body', scope', pm, ctv, c, oc, cl, os⟩ := C
  simp only at e1
  cases e1
  have lim : s.heap.NoLimit := e0.mod.nolimit.keeps fun b o e => (e0.bs b o e).1
  have cz := clo_cells hC hz
  have lcv : cvs.length = (frees scope).length := by
    have := cz.len
    rwa [List.length_map] at this
  refine PySem.W.kla_callFunE hr.depth ho rfl S.co S.gen rfl hc ?_
  rw [hb q cl pm ctv c us (by rw [← hv.length]; exact hl)]
  refine wpAny_pure (wpAny_newFunctionEnv S.nocell (fun ⟨n, _⟩ hy => S.par n (List.of_mem_zip hy).1) (fun h₁ hns hsb => ⟨lim.fresh _ hsb, ?_⟩) S.kind)
  have kp : ∀ b o, s.heap.get? b = some o → h₁.get? b = some o := fun b o e => hsb.extBut b o (Nat.ne_of_lt (Heap.lt_size e)) (Heap.get?_push_of_some _ e)
  obtain ⟨t, ht, hq⟩ := hbody ⟨q, params, body, scope, pm, ctv, c, oc, cl, os⟩ A outer s H f (vs ++ cvs) Q E rfl hg (hr.deeper _) (by rw [List.length_append, hl, lcv]) hs
  have I := NdefX.inv_startN (CX := L2.CX P w) (F := (⟨q, params, body, scope, pm, ctv, c, oc, cl, os⟩ : CloF).nf) (f := f) (E := E) (tk := s.toks + (ps.zip us).length) S hr.hd e0 hl hv cz hns kp
  have es : NdefX.startF N vs (cvs.map some) = L2.start N (vs ++ cvs) := by
    unfold NdefX.startF L2.start
    rw [List.map_append, List.append_assoc, List.length_append, List.length_map, Nat.sub_sub]
  rw [es] at I
  refine PySem.W.kla_codeExpr (wpAny_mono (ht.run [] _ _ H Q I hq) (fun v s' hx => ?_) fun e s' hx => hx)
  obtain ⟨v', H', J, rv, q'⟩ := hx
  exact ⟨v', H', J.os, J.bare, J.base, J.hok, rv, q'⟩
end
end PD
namespace PD
open PySem L2 PyProof.Rows PySem.Spec
open Evl (Ex)
def tagC (κ : Nat) : D → D → Bool
  | .list [], .tuple (.int i :: _) => decide (i = (κ : Int))
  | .list [], .tuple [] => decide (κ = 0)
  | _, _ => false
mutual
def noC (κ : Nat) : D → Bool
  | .list ds => noCs κ ds
  | .tuple ds => noCs κ ds
  | .dict ps => noCk κ ps
  | .none | .bool _ | .int _ | .str _ => true
def noCs (κ : Nat) : List D → Bool
  | [] => true
  | d :: ds => noC κ d && noCs κ ds
def noCk (κ : Nat) : List (D × D) → Bool
  | [] => true
  | (k, v) :: ps => noC κ k && noC κ v && !tagC κ k v && noCk κ ps
end
section
variable {K : Fr0} {G G' : Hp} {κ : Nat}
/-- all but cells of the mark is seen there too -/
def ButC (κ : Nat) (G G' : Hp) : Prop := ∀ a u, G a = some u → (∀ o x, o.data = .cell x → u ≠ CeO κ o) → G' a = some u
theorem butc_l {a : Addr} {xs : List V} (b : ButC κ G G') (h : SqL K.f G a xs) : SqL K.f G' a xs := by
  rcases h with (h | ⟨o, h⟩) | h
  · exact .inl (.inl (b _ _ h fun o x _ z => by unfold CeO at z; cases z))
  · exact .inl (.inr ⟨o, b _ _ h fun o x _ z => by unfold CeO at z; cases z⟩)
  · exact .inr h
theorem butc_t {a : Addr} {xs : List V} (b : ButC κ G G') (h : SqT K.f G a xs) : SqT K.f G' a xs := by
  rcases h with (h | ⟨o, h⟩) | h
  · exact .inl (.inl (b _ _ h fun o x _ z => by unfold CeO at z; cases z))
  · exact .inl (.inr ⟨o, b _ _ h fun o x _ z => by unfold CeO at z; cases z⟩)
  · exact .inr h
theorem cells_mem {C : CloF} {k : Nat} {q : Addr × HO} (h : q ∈ C.cells k) : ∃ (i : Nat) (x : Str × Addr) (o : Obj), C.cl[i]? = some x ∧ C.os[i]? = some o ∧ q = (x.2, CeO k o) := by
  unfold CloF.cells at h
  obtain ⟨i, hi⟩ := List.mem_iff_getElem?.mp h
  rw [List.getElem?_zipWith] at hi
  cases e1 : C.cl[i]? with
  | none => rw [e1] at hi; cases hi
  | some x =>
    cases e2 : C.os[i]? with
    | none => rw [e1, e2] at hi; cases hi
    | some o =>
      rw [e1, e2] at hi
      cases hi
      exact ⟨i, x, o, e1, e2, rfl⟩
theorem tag_head {path : List Nat} (h : tagC κ (.list []) (.tuple (path.map fun n => .int (n : Nat))) = false) : path.headD 0 ≠ κ := by
  cases path with
  | nil =>
    have h : decide (κ = 0) = false := h
    intro e
    have e : (0 : Nat) = κ := e
    rw [← e] at h
    cases h
  | cons n r =>
    have h : decide (((n : Nat) : Int) = (κ : Int)) = false := h
    intro e
    have e : n = κ := e
    rw [e] at h
    simp at h
mutual
theorem rp_butc (b : ButC κ G G') : ∀ {v : V} {d : D}, noC κ d = true → Rp K G v d → Rp K G' v d
  | _, _, _, .non => .non
  | _, _, _, .bl b => .bl b
  | _, _, _, .int i => .int i
  | _, _, _, .str x => .str x
  | _, _, c, .lst hs ha => .lst (butc_l b hs) (rpa_butc b (by simpa [noC] using c) ha)
  | _, _, c, .tup hs ha => .tup (butc_t b hs) (rpa_butc b (by simpa [noC] using c) ha)
  | _, _, c, .dct hs ha => .dct (b _ _ hs fun o x _ z => by unfold CeO KdO at z; cases z) (rpk_butc b (by simpa [noC] using c) ha)
  | _, _, c, .dctN hs ha => .dctN (b _ _ hs fun o x _ z => by unfold CeO NdO at z; cases z) (rpn_butc b (by simpa [noC] using c) ha)
  | _, _, c, .obj hs ha => .obj (b _ _ hs fun o x _ z => by unfold CeO at z; cases z) (rpf_butc b (by
      simp only [noC, noCk, Bool.and_eq_true] at c
      exact c.2) ha)
  | _, _, c, .clo h0 hs hc hq ha => by
      simp only [noC, noCk, Bool.and_eq_true, Bool.not_eq_true'] at c
      refine .clo h0 (b _ _ hs fun o x _ z => by unfold CeO ExO at z; cases z) (b _ _ hc fun o x hx z => ?_) (fun q hm => b _ _ (hq q hm) fun o x _ z => ?_) (rpa_butc b c.2.1.1.2 ha)
      · obtain ⟨vs, t, e, _⟩ := h0.code
        unfold CeO at z
        cases z
        rw [e] at hx
        cases hx
      · obtain ⟨i, y, o', _, _, e⟩ := cells_mem hm
        rw [e] at z
        unfold CeO at z
        simp only [HO.frz.injEq, HO.own.injEq] at z
        exact tag_head c.1.2 z.2
theorem rpa_butc (b : ButC κ G G') : ∀ {vs : List V} {ds : List D}, noCs κ ds = true → RpAll K G vs ds → RpAll K G' vs ds
  | _, _, _, .nil => .nil
  | _, _, c, .cons h1 h2 => by
    simp only [noCs, Bool.and_eq_true] at c
    exact .cons (rp_butc b c.1 h1) (rpa_butc b c.2 h2)
theorem rpk_butc (b : ButC κ G G') : ∀ {vs : List (Key × V)} {ds : List (D × D)}, noCk κ ds = true → RpKv K G vs ds → RpKv K G' vs ds
  | _, _, _, .nil => .nil
  | _, _, c, .cons h1 h2 h3 => by
    simp only [noCk, Bool.and_eq_true] at c
    exact .cons (rp_butc b c.1.1.1 h1) (rp_butc b c.1.1.2 h2) (rpk_butc b c.2 h3)
theorem rpn_butc (b : ButC κ G G') : ∀ {vs : List (NestedKey × Addr × V)} {ds : List (D × D)}, noCk κ ds = true → RpN K G vs ds → RpN K G' vs ds
  | _, _, _, .nil => .nil
  | _, _, c, .cons h0 hd h1 h2 h3 => by
    simp only [noCk, Bool.and_eq_true] at c
    exact .cons h0 hd (rp_butc b c.1.1.1 h1) (rp_butc b c.1.1.2 h2) (rpn_butc b c.2 h3)
theorem rpf_butc (b : ButC κ G G') : ∀ {vs : List (Str × V)} {ds : List (D × D)}, noCk κ ds = true → RpF K G vs ds → RpF K G' vs ds
  | _, _, _, .nil => .nil
  | _, _, c, .cons h1 h2 => by
    simp only [noCk, Bool.and_eq_true] at c
    exact .cons (rp_butc b c.1.1.2 h1) (rpf_butc b c.2 h2)
end
end
/-- cells with a mark -/
def CeM (κ : Nat) (S : List (Addr × HO)) : Prop := ∀ q ∈ S, ∃ (o : Obj) (x : Option Value), q.2 = CeO κ o ∧ o.data = .cell x
def okC (κ : Nat) : Sl → Bool
  | .d x => noC κ x
  | .no | .st | .raw _ => true
  | .own _ | .exc _ _ _ => false
section
variable {K : Fr0} {M : Mk0} {P : Option Addr} {F : Hp} {L L2' : List Addr} {ρ : Rho} {σ : L2.St} {H H2 : Hp} {S : List (Addr × HO)} {κ n : Nat}
theorem butc_del (hS : CeM κ S) (hH : ∀ q ∈ S, H q.1 = some q.2) : ButC κ (hide L H) (hide L (delS S H)) := fun a u h nc => by
  obtain ⟨h1, h2⟩ := hide_some.mp h
  refine hide_some.mpr ⟨h1, ?_⟩
  rw [delS_out fun z => ?_]
  · exact h2
  · obtain ⟨q, hq, rfl⟩ := List.mem_map.mp z
    obtain ⟨o, x, e, ed⟩ := hS q hq
    rw [hH q hq, e] at h2
    exact nc o x ed (Option.some.inj h2).symm
/-- seen cells go -/
theorem R.del (r : R K M P F L ρ σ H) (hS : CeM κ S) (hH : ∀ q ∈ S, H q.1 = some q.2 ∧ q.1 ∉ L) (hc : ρ.sl.all (okC κ) = true) : R K M P F L ρ σ (delS S H) := by
  have inL : ∀ {a : Addr}, a ∈ L → a ∉ S.map (·.1) := fun {a} ha z => by
    obtain ⟨q, hq, rfl⟩ := List.mem_map.mp z
    exact (hH q hq).2 ha
  have bc := butc_del (L := L) hS fun q hq => (hH q hq).1
  have ok : ∀ {i : Nat} {s : Sl}, ρ.sl[i]? = some s → okC κ s = true := fun {i s} h => List.all_eq_true.mp hc s (List.mem_of_getElem? h)
  have noOwn : ∀ {i : Nat} {xs : Ow}, ρ.sl[i]? ≠ some (.own xs) := fun {i xs} h => by cases ok h
  refine ⟨r.len, fun i s o h1 h2 => ?_, fun a o h => ?_, fun a h => ?_, fun i j xs ys l _ h => absurd h noOwn, fun i xs l h => absurd h noOwn, fun p hp => ?_, fun t ht => ?_⟩
  · have q := r.sl i s o h1 h2
    have c := ok h1
    cases s with
    | no => trivial
    | d x =>
      obtain ⟨v, h3, h4⟩ := q
      exact ⟨v, h3, rp_butc bc c h4⟩
    | own xs => cases c
    | st => exact q
    | raw v => exact q
    | exc a d fl => cases c
  · obtain ⟨f1, f2⟩ := r.fr a o h
    exact ⟨by rw [delS_out (inL f2)]; exact f1, f2⟩
  · obtain ⟨o, q⟩ := r.tr a h
    exact ⟨o, by rw [delS_out (inL h)]; exact q⟩
  · obtain ⟨A, a1, a2, a3⟩ := r.m p hp
    exact ⟨A, M.loc (fun a ha o q => by rw [delS_out (inL (a2 a ha).1)]; exact q) a1, a2, fun i xs l h => absurd h noOwn⟩
  · obtain ⟨t1, t2, ps, t3, t4, t5⟩ := r.tb t ht
    refine ⟨t1, t2, ps, by rw [delS_out (inL t2)]; exact t3, t4, fun pos cv hcv => ?_⟩
    obtain ⟨c, oc, vs, tk, e1, e2, e3, e4⟩ := t5 pos cv hcv
    refine ⟨c, oc, vs, tk, e1, bc _ _ e2 fun o x hx z => ?_, e3, e4⟩
    unfold CeO at z
    cases z
    rw [e3] at hx
    cases hx
theorem keepF_add (r : R K M P F L ρ σ H) (hn : ∀ q ∈ S, H q.1 = none) : keepF ρ σ F (addS S H) = keepF ρ σ F H := by
  funext a
  by_cases ho : Own ρ σ a
  · rw [keepF_own ho, keepF_own ho]
    refine addS_out fun z => ?_
    obtain ⟨q, hq, rfl⟩ := List.mem_map.mp z
    obtain ⟨i, xs, h1, h2⟩ := ho
    obtain ⟨l, u, g1, _, g3, _⟩ := r.getOwn h1
    rw [h2] at g1
    cases g1
    rw [hn q hq] at g3
    cases g3
  · rw [keepF_not ho, keepF_not ho]
theorem ex_add (hn : ∀ q ∈ S, H q.1 = none) : Ex H (addS S H) := fun a o h => by
  rw [addS_out fun z => ?_]
  · exact h
  · obtain ⟨q, hq, rfl⟩ := List.mem_map.mp z
    rw [hn q hq] at h
    cases h
/-- without slots -/
theorem R.noSl (r : R K M P F L ρ σ H) : R K M P F L ⟨[], ρ.n⟩ [] H :=
  ⟨rfl, fun i s o h => by simp at h, r.fr, r.tr, fun i j xs ys l _ h => by simp at h, fun i xs l h => by simp at h, fun p hp => let ⟨A, a1, a2, _⟩ := r.m p hp; ⟨A, a1, a2, fun i xs l h => by simp at h⟩, r.tb⟩
/-- behind a loan: the caller's slots again -/
theorem R.repay {ρc : Rho} {σc : L2.St} (r : R K M P F L ρ σ H) (nd : (S.map (·.1)).Nodup) (hS : CeM κ S) (hn : ∀ q ∈ S, H q.1 = none) (hL : ∀ q ∈ S, q.1 ∉ L) (r' : R K M P (keepF ρ σ F (addS S H)) L2' ρc σc H2) (hk : ∀ q ∈ S, H2 q.1 = some q.2) (e : Ex (hide L (addS S H)) (hide L2' H2)) :
    Ex (hide L H) (hide L2' (delS S H2)) ∧ R K M P F L2' ⟨ρ.sl, ρc.n⟩ σ (delS S H2) ∧ ButC κ (hide L2' H2) (hide L2' (delS S H2)) := by
  have out : ∀ {a : Addr} {u : HO}, H a = some u → a ∉ S.map (·.1) := fun {a u} h z => by
    obtain ⟨q, hq, rfl⟩ := List.mem_map.mp z
    rw [hn q hq] at h
    cases h
  have see : ∀ q ∈ S, q.1 ∉ L2' := fun q hq => (hide_some.mp (e q.1 q.2 (hide_some.mpr ⟨hL q hq, addS_in nd hq⟩))).1
  have e2 : Ex (hide L H) (hide L2' (delS S H2)) := fun a u h => by
    obtain ⟨h1, h2⟩ := hide_some.mp h
    obtain ⟨g1, g2⟩ := hide_some.mp (e a u (hide_some.mpr ⟨h1, by rw [addS_out (out h2)]; exact h2⟩))
    exact hide_some.mpr ⟨g1, by rw [delS_out (out h2)]; exact g2⟩
  rw [keepF_add r hn] at r'
  have r2 := r'.noSl.del (κ := κ) hS (fun q hq => ⟨hk q hq, see q hq⟩) rfl
  have r3 : R K M P F L2' ⟨ρ.sl, ρc.n⟩ σ (delS S H2) := r.back (ρc := ⟨[], ρc.n⟩) r2 e2
  exact ⟨e2, r3, butc_del hS hk⟩
end
end PD
namespace PD
open PySem L2 PyProof.Rows PySem.Spec
open Evl (Ex)
def fLam (nN : Nat) (fe : FE) : FE := fun ρ k => fe ⟨ρ.sl ++ List.replicate (nN - ρ.sl.length) .no, ρ.n⟩ fun d ρ' => k d ⟨ρ.sl, ρ'.n⟩
def fLamX (nN : Nat) (fx : FX) : FX := fun ρ k => fx ⟨ρ.sl ++ List.replicate (nN - ρ.sl.length) .no, ρ.n⟩ fun c fl ρ' => k c fl ⟨ρ.sl, ρ'.n⟩
section
variable {P : Program} {w : World} {K : PySem.W.Frag} {mg : Str → Option Value} {base : Heap} {k : Nat} {path : List Nat} {M : Mk0}
theorem lamX {N ps : List Str} {params : Arguments} {body : Expr} {scope : Scope} {lpos : Pos} {fe : FE} {fx : FX} (hL : lamAt P path = some (.Lambda params body scope lpos)) (S : NdefX.NScope N ps (frees scope) scope)
    (hb : ∀ (q : Str) (cl : List (Str × Addr)) (pm ctv : Value) (c : Addr) (us : List Value), us.length = ps.length → bindArgs (PySem.W.kla_fn "<lambda>" q params body scope cl pm (.ref c) ctv) ⟨us, []⟩ = pure (ps.zip us))
    (hbody : ∀ (X : Cx) (C : CloF) (A : Around) (outer : List Env) (s : Shared) (H : Hp) (f : Addr) (E : XK), X = NdefX.ncx (L2.CX P w) P w K mg base N C.nf f A outer s H E → C.scope = scope → A.guards = some [] → Room k (A.deeper (NdefX.envF C.nf f s.heap.objs.size)) →
      Takes X (fun c d _ H' => E c d H') → PassesOwn (model P w) X.A X.env X.xe → PD X M body fe ∧ PX X M (fun c d _ H' => E c d H') body fx) :
    LamG P w K mg base (k + 1) path ps.length (spX ⟨K, w, P⟩ M (ps.length + (frees scope).length) (fLam N.length fe) (fLamX N.length fx)) := by
  refine lamG_of hL S hb fun C A outer s H f vs Q E hsc hg hr hl ⟨P', F', L, ρ, r, hbr, hln, hw⟩ => ?_
  obtain ⟨B, Bx⟩ := hbody _ C A outer s H f E rfl hsc hg hr (takes_of rfl rfl rfl rfl) (passes_of rfl)
  refine ⟨_, pe_or B.pe Bx.pe, ?_⟩
  rcases hw with hw | hw
  · exact .inl ⟨P', F', L, _, r.start hbr N, B.mono _ _ _ (fun d ρ' q v L' H' e' r' d' => q v L' H' e' (r.swap hbr r' e') d') hw⟩
  · exact .inr ⟨P', F', L, _, r.start hbr N, Bx.mono _ _ _ (fun c fl ρ' q σ' L' H' d e' r' x => q L' H' d e' (r.swap hbr r' e') x) hw⟩
end
/-- what the callers of lambdas know of one: where it stands, how many arguments, with what it captured; its value, what it raises -/
structure LReg where
  path : List Nat
  nP : Nat
  n : Nat
  V : FE
  U : FX
structure LReg.Mono (r : LReg) : Prop where
  v : ∀ ρ k k', (∀ d ρ', k d ρ' → k' d ρ') → r.V ρ k → r.V ρ k'
  u : ∀ ρ k k', (∀ c fl ρ', k c fl ρ' → k' c fl ρ') → r.U ρ k → r.U ρ k'
def LamsG (P : Program) (w : World) (K : PySem.W.Frag) (mg : Str → Option Value) (base : Heap) (k : Nat) (M : Mk0) (Reg : List LReg) : Prop := ∀ r ∈ Reg, r.Mono ∧ LamG P w K mg base k r.path r.nP (spX ⟨K, w, P⟩ M r.n r.V r.U)
theorem LamsG.mono {P : Program} {w : World} {K : PySem.W.Frag} {mg : Str → Option Value} {base : Heap} {j k : Nat} {M : Mk0} {Reg : List LReg} (G : LamsG P w K mg base j M Reg) (h : j ≤ k) : LamsG P w K mg base k M Reg := fun r hr => ⟨(G r hr).1, (G r hr).2.mono h⟩
theorem path_inj : ∀ {a b : List Nat}, a.map (fun n => PyData.int (n : Nat)) = b.map (fun n => PyData.int (n : Nat)) → a = b
  | [], [], _ => rfl
  | [], _ :: _, h => by cases h
  | _ :: _, [], h => by cases h
  | x :: a, y :: b, h => by
    rw [List.map_cons, List.map_cons] at h
    injection h with h1 h2
    injection h1 with h1
    rw [Int.ofNat.inj h1, path_inj h2]
theorem rp_clo {K : Fr0} {H : Hp} {v : V} {path : List Nat} {ds : List D} (h : Rp K H v (cloD path ds)) : ∃ (a : Addr) (C : CloF) (vs : List V), v = .ref a ∧ CloOk K.p path C vs ∧ H a = some (ExO a C.obj) ∧ H C.c = some (CeO 0 C.oc) ∧ (∀ q ∈ C.cells (path.headD 0), H q.1 = some q.2) ∧ RpAll K H vs ds := by
  generalize hd : cloD path ds = d at h
  cases h with
  | dct h1 h2 =>
    cases h2 with
    | nil => cases hd
    | @cons k _ _ _ _ _ h3 _ _ =>
      cases hd
      cases k <;> cases h3
  | dctN h1 h2 =>
    cases h2 with
    | nil => cases hd
    | cons h3 _ _ _ _ => cases hd; simp [keyN] at h3
  | obj h1 h2 =>
    cases hd
  | @clo a path' C vs ds' h0 h1 h2 h3 h4 =>
    have e1 : path.map (fun n => PyData.int (n : Nat)) = path'.map (fun n => PyData.int (n : Nat)) := by
      injection hd with hd
      injection hd with hd1 hd2
      injection hd1 with _ hd1
      injection hd1
    have e2 : ds = ds' := by
      injection hd with hd
      injection hd with hd1 hd2
      injection hd2 with hd2 _
      injection hd2 with _ hd2
      injection hd2
    have e3 : path = path' := path_inj e1
    subst e2 e3
    exact ⟨a, C, vs, rfl, h0, h1, h2, h3, h4⟩
  | non => cases hd
  | bl _ => cases hd
  | int _ => cases hd
  | str _ => cases hd
  | lst _ _ => cases hd
  | tup _ _ => cases hd
theorem cells_nd {P : Program} {path : List Nat} {C : CloF} {vs : List V} {κ : Nat} (h : CloOk P path C vs) : ((C.cells κ).map (·.1)).Nodup := by
  have e : (C.cells κ).map (·.1) = C.cl.map (·.2) := by
    apply List.ext_getElem?
    intro i
    unfold CloF.cells
    rw [List.getElem?_map, List.getElem?_map, List.getElem?_zipWith]
    cases e1 : C.cl[i]? with
    | none => rfl
    | some x =>
      have hi := (List.getElem?_eq_some_iff.mp e1).1
      rw [List.getElem?_eq_getElem (show i < C.os.length by rw [h.los]; exact hi)]
      rfl
  rw [e]
  exact h.inj
theorem cells_m {P : Program} {path : List Nat} {C : CloF} {vs : List V} {κ : Nat} (h : CloOk P path C vs) : CeM κ (C.cells κ) := fun q hq => by
  obtain ⟨i, x, o, e1, e2, rfl⟩ := cells_mem hq
  have hi := (List.getElem?_eq_some_iff.mp e1).1
  obtain ⟨u, _, hd⟩ := h.cell i o _ e2 (List.getElem?_eq_getElem (show i < vs.length by rw [h.lvs]; exact hi))
  exact ⟨o, some u, rfl, hd⟩
theorem env0_del {P : Program} {w : World} {K : PySem.W.Frag} {mg : Str → Option Value} {base : Heap} {A : Around} {outer : List Env} {s : Shared} {H : Hp} {S : List (Addr × HO)} (e : Env0 P w K mg base A outer s H) (hc : ∀ q ∈ S, ∃ (k : Nat) (o : Obj), q.2 = CeO k o) (hH : ∀ q ∈ S, H q.1 = some q.2) : Env0 P w K mg base A outer s (delS S H) := by
  have z : ∀ b, H b = none → delS S H b = none := fun b h => by
    unfold delS
    split
    · rfl
    · exact h
  exact ⟨e.frames, e.mod, fun b o h => ⟨(e.bs b o h).1, z b (e.bs b o h).2⟩, e.bsz, e.funs, fun b h => z b (e.frf b h), hok_del hc hH e.hok, e.bare⟩
section
variable {X : Cx} {M : Mk0} {i k : Nat} {Reg : List LReg} {x : Str} {p pos : Pos} {es : List Expr} {fa : FA} {W : WX}
/-- the call itself: cells aside, the lambda's promise, cells back -/
theorem run_clo {pins : List (Addr × Obj)} {σ : L2.St} {H : Hp} {s : Shared} {Q : VK} {E : XK} {us : List Value} {vs : List V} {f : Addr} {κ : Nat} {C : CloF} {cvs : List V} {path : List Nat} {nP : Nat} {sp : Sp} (G : LamG X.prog X.w X.K X.mg X.base k path nP sp) (hgd : X.A.guards = some []) (hr : Room k X.A)
    (hx : PassesAt (L2.CX X.prog X.w) X σ E) (I : Inv X pins σ H s) (r : Vals vs us) (hl : vs.length = nP) (h0 : CloOk X.prog path C cvs) (h1 : H f = some (ExO f C.obj)) (h2 : H C.c = some (CeO 0 C.oc)) (h3 : ∀ q ∈ C.cells κ, H q.1 = some q.2)
    (h : sp (vs ++ cvs) (delS (C.cells κ) H) (fun v H' => (∀ q ∈ C.cells κ, H' q.1 = none) → Q v (addS (C.cells κ) H')) (fun c d H' => (∀ q ∈ C.cells κ, H' q.1 = none) → E c d (addS (C.cells κ) H'))) : wpAny (model X.prog X.w) X.A (call (.ref f) us) (EP X pins σ Q) X.xe s := by
  have hcm : ∀ q ∈ C.cells κ, ∃ (k : Nat) (o : Obj), q.2 = CeO k o := fun q hq => let ⟨o, _, e, _⟩ := cells_m h0 q hq; ⟨κ, o, e⟩
  have hce : CeS (C.cells κ) s.heap := fun q hq => by
    obtain ⟨o, _, e, _⟩ := cells_m h0 q hq
    have g : ObjOk X.prog X.w H s.heap q.1 q.2 := I.hok q.1 _ (h3 q hq)
    rw [e] at g
    exact ⟨κ, o, e, g.1⟩
  have gf : s.heap.get? f = some C.obj := (show ObjOk X.prog X.w H s.heap f (ExO f C.obj) from I.hok f _ h1).1
  have gc : s.heap.CodeRec (.ref C.c) C.q := by
    obtain ⟨vs', t, e1, e2⟩ := h0.code
    have g : ObjOk X.prog X.w H s.heap C.c (CeO 0 C.oc) := I.hok C.c _ h2
    exact ⟨C.c, C.oc, vs', t, rfl, g.1, e1, e2⟩
  refine wpAny_call (codeAny_mono (G.go X.A X.stack s (delS (C.cells κ) H) f C us vs cvs _ _ hgd hr (env0_del I.env0 hcm h3) gf gc h0 (fun i y o e1 e2 => ?_) r hl h) fun res sB hq => ?_)
  · have hm : (y.2, CeO κ o) ∈ C.cells κ := by
      unfold CloF.cells
      refine List.mem_iff_getElem?.mpr ⟨i, ?_⟩
      rw [List.getElem?_zipWith, e1, e2]
    have g : ObjOk X.prog X.w H s.heap y.2 (CeO κ o) := I.hok y.2 _ (h3 _ hm)
    exact ⟨g.1, delS_in (List.mem_map.mpr ⟨_, hm, rfl⟩)⟩
  · have hq := unlend_end (cells_nd h0) hce h3 I.env0.frf hq
    cases res with
    | error ex => exact hx pins H s ex sB I hq
    | ok fl =>
      cases fl with
      | ret u => exact I.after hq
      | next => exact hq.elim
      | brk => exact hq.elim
      | cont => exact hq.elim
/-- what a lambda is handed -/
theorem clo_R {K : Fr0} {P : Option Addr} {F : Hp} {L : List Addr} {ρ : Rho} {σ : L2.St} {H : Hp} {ss : List Sl} {vs cvs : List V} {ds : List D} {C : CloF} {κ : Nat} {path : List Nat} {pr : Program} (r1 : R K M P F L ρ σ H) (h0 : CloOk pr path C cvs) (h3 : ∀ q ∈ C.cells κ, hide L H q.1 = some q.2) (hd : RpAll K (hide L H) cvs ds)
    (hl : vs.length = ss.length) (hs : ∀ (i : Nat) (s : Sl) (v : V), ss[i]? = some s → vs[i]? = some v → SlOk K P L H s (some v)) (hok : (ss ++ ds.map Sl.d).all (okC κ) = true) :
    Bare ⟨ss ++ ds.map Sl.d, ρ.n⟩ ∧ R K M P (keepF ρ σ F H) L ⟨ss ++ ds.map Sl.d, ρ.n⟩ ((vs ++ cvs).map some) (delS (C.cells κ) H) := by
  have bare : Bare ⟨ss ++ ds.map Sl.d, ρ.n⟩ := fun i xs h => by
    have := List.all_eq_true.mp hok _ (List.mem_of_getElem? h)
    cases this
  have ld := dpa_len hd
  have r2 : R K M P (keepF ρ σ F H) L ⟨ss ++ ds.map Sl.d, ρ.n⟩ ((vs ++ cvs).map some) H := r1.frame bare rfl (by simp [hl, ld]) fun i s o g1 g2 => by
    have g1 : (ss ++ ds.map Sl.d)[i]? = some s := g1
    rw [List.getElem?_map] at g2
    by_cases hi : i < ss.length
    · rw [List.getElem?_append_left hi] at g1
      rw [List.getElem?_append_left (by omega)] at g2
      cases ev : vs[i]? with
      | none => rw [ev] at g2; cases g2
      | some v =>
        rw [ev] at g2
        cases g2
        exact hs i s v g1 ev
    · rw [List.getElem?_append_right (by omega)] at g1
      rw [List.getElem?_append_right (by omega)] at g2
      cases ev : cvs[i - vs.length]? with
      | none => rw [ev] at g2; cases g2
      | some v =>
        rw [ev] at g2
        cases g2
        rw [← hl] at g1
        exact slots_d hd _ s v g1 ev
  exact ⟨bare, r2.del (cells_m h0) (fun q hq => ⟨(hide_some.mp (h3 q hq)).2, (hide_some.mp (h3 q hq)).1⟩) hok⟩
end
/-- cells come back -/
theorem R.cellsBack {K : Fr0} {P : Option Addr} {F : Hp} {L LL : List Addr} {ρ ρc : Rho} {σ σc : L2.St} {H H2 : Hp} {S : List (Addr × HO)} (r1 : R K M P F L ρ σ H) (nd : (S.map (·.1)).Nodup) (h3 : ∀ q ∈ S, hide L H q.1 = some q.2) (hn : ∀ q ∈ S, H2 q.1 = none) (e : Ex (hide L (delS S H)) (hide LL H2)) (r2 : R K M P (keepF ρ σ F H) LL ρc σc H2) :
    Ex (hide L H) (hide LL (addS S H2)) ∧ R K M P F LL ⟨ρ.sl, ρc.n⟩ σ (addS S H2) ∧ Ex (hide LL H2) (hide LL (addS S H2)) := by
  have x2 : Ex H2 (addS S H2) := ex_add hn
  have e2 : Ex (hide L H) (hide LL (addS S H2)) := fun a u h => by
    obtain ⟨h1, h2⟩ := hide_some.mp h
    by_cases ha : a ∈ S.map (·.1)
    · obtain ⟨q, hq, rfl⟩ := List.mem_map.mp ha
      rw [h3 q hq] at h
      cases h
      refine hide_some.mpr ⟨fun z => ?_, addS_in nd hq⟩
      obtain ⟨o, g⟩ := r2.tr q.1 z
      rw [hn q hq] at g
      cases g
    · obtain ⟨g1, g2⟩ := hide_some.mp (e a u (hide_some.mpr ⟨h1, by rw [delS_out ha]; exact h2⟩))
      exact hide_some.mpr ⟨g1, by rw [addS_out ha]; exact g2⟩
  exact ⟨e2, r1.back (r2.ex x2) e2, hide_ex x2⟩
section
variable {X : Cx} {M : Mk0} {i k : Nat} {Reg : List LReg} {x : Str} {p pos : Pos} {e : Expr} {es : List Expr} {fa : FA} {W : WX} {t : TA}
/-- what is asked of a call of a lambda that stands in a slot -/
def tClo (X : Cx) (i k : Nat) (W : WX) (t : TA) : TE := fun σ H Q => (∃ (f : Addr) (C : CloF), σ[i]? = some (some (.ref f)) ∧ H f = some (ExO f C.obj)) ∧ t σ H fun vs H1 => ∃ (f : Addr) (C : CloF) (cvs : List V) (κ : Nat) (path : List Nat) (nP : Nat) (sp : Sp), σ[i]? = some (some (.ref f)) ∧ LamG X.prog X.w X.K X.mg X.base k path nP sp ∧ vs.length = nP ∧
  CloOk X.prog path C cvs ∧ H1 f = some (ExO f C.obj) ∧ H1 C.c = some (CeO 0 C.oc) ∧ (∀ q ∈ C.cells κ, H1 q.1 = some q.2) ∧
  sp (vs ++ cvs) (delS (C.cells κ) H1) (fun v H' => (∀ q ∈ C.cells κ, H' q.1 = none) → Q v (addS (C.cells κ) H')) (fun c d H' => (∀ q ∈ C.cells κ, H' q.1 = none) → WE W σ c d (addS (C.cells κ) H'))
theorem fnAt_clo {pins : List (Addr × Obj)} {σ : L2.St} {H : Hp} {s : Shared} (I : Inv X pins σ H s) {f : Addr} {C : CloF} (h : H f = some (ExO f C.obj)) : PySem.W.FnAt f s.heap := by
  have g : s.heap.get? f = some C.obj := (show ObjOk X.prog X.w H s.heap f (ExO f C.obj) from I.hok f _ h).1
  exact ⟨_, _, _, _, g⟩
theorem pe_clo0 (tk : Takes X W) (hgd : X.A.guards = some []) (hr : Room k X.A) (hx : PE X (.Name x p) (tVar i)) : PE X (.Call (.Name x p) [] [] pos) (tClo X i k W tNil) := by
  constructor
  intro pins s σ H Q I hw
  obtain ⟨⟨f, C, h1, h2⟩, hw⟩ := hw
  refine wpAny_Call_Name_kw (thn (hx.run pins s σ H (fun v H1 => v = .ref f ∧ H1 = H) I ⟨.ref f, h1, rfl, rfl⟩) fun u s1 ⟨v, H1, I1, r1, e1, e2⟩ => ?_)
  subst e1 e2
  obtain rfl : u = Value.ref f := r1
  obtain ⟨f', C', cvs, κ, path, nP, sp, g1, G, g2, g3, g4, g5, g6, g7⟩ := hw
  rw [h1] at g1
  cases g1
  exact PySem.W.callWith_F0 (fnAt_clo I1 h2) (run_clo (us := []) G hgd hr (passAt tk σ) I1 .nil g2 g3 g4 g5 g6 g7)
def ft0 (i : Nat) (ρ : Rho) : Prop := ∃ path ds, ρ.sl[i]? = some (.d (cloD path ds))
/-- the data's reading of the call, in the heap's words -/
theorem dClo {σ : L2.St} {H : Hp} {Q : VK} (GL : LamsG X.prog X.w X.K X.mg X.base k M Reg) (ta : TA) (hda : ∀ σ H Q, DA X.k0 M fa σ H Q → ta σ H Q) (ma : ∀ ρ k k', (∀ d ρ', k d ρ' → k' d ρ') → fa ρ k → fa ρ k')
    (h : ∃ P F L ρ, R X.k0 M P F L ρ σ H ∧ ft0 i ρ ∧ fa ρ fun ss ρ1 => ∃ ds, ∃ r ∈ Reg, ρ1.sl[i]? = some (.d (cloD r.path ds)) ∧ ss.length = r.nP ∧ ss.length + ds.length = r.n ∧ (ss ++ ds.map Sl.d).all (okC (r.path.headD 0)) = true ∧
      (r.V ⟨ss ++ ds.map Sl.d, ρ1.n⟩ (fun d ρ2 => KV' X.k0 M P F L σ H Q d ⟨ρ1.sl, ρ2.n⟩) ∨ r.U ⟨ss ++ ds.map Sl.d, ρ1.n⟩ (fun c fl ρ2 => KX X.k0 M P F L H W c fl ⟨ρ1.sl, ρ2.n⟩))) :
    tClo X i k W ta σ H Q := by
  obtain ⟨P, F, L, ρ, r, ⟨path0, ds0, h0⟩, q⟩ := h
  obtain ⟨v0, g0, d0⟩ := r.get h0
  obtain ⟨f, C, cvs, rfl, _, hf, _, _, _⟩ := rp_clo d0
  refine ⟨⟨f, C, g0, (hide_some.mp hf).2⟩, hda σ H _ ⟨P, F, L, ρ, r, ma _ _ _ (fun ss ρ1 q vs L1 H1 e1 r1 hl hs hbare => ?_) q⟩⟩
  obtain ⟨ds, rg, hrg, h1, h2, h2', h3, q⟩ := q
  obtain ⟨v1, g1, d1⟩ := r1.get h1
  rw [g0] at g1
  cases g1
  obtain ⟨f', C', cvs', ef, c0, c1, c2, c3, c4⟩ := rp_clo d1
  cases ef
  obtain ⟨mo, G⟩ := GL rg hrg
  refine ⟨f, C', cvs', rg.path.headD 0, rg.path, rg.nP, _, g0, G, by rw [hl]; exact h2, c0, (hide_some.mp c1).2, (hide_some.mp c2).2, fun q hq => (hide_some.mp (c3 q hq)).2, ?_⟩
  obtain ⟨bare, rc⟩ := clo_R r1 c0 c3 c4 hl hs h3
  refine ⟨P, _, L1, _, rc, bare, by simp [h2'], ?_⟩
  rcases q with q | q
  · refine .inl (mo.v _ _ _ (fun d ρ2 q2 v L2 H2 e2 r3 d2 hn => ?_) q)
    obtain ⟨x1, x2, x3⟩ := r1.cellsBack (cells_nd c0) c3 hn e2 r3
    exact q2 v L2 _ (e1.trans x1) x2 (dp_ex x3 _ _ d2)
  · refine .inr (mo.u _ _ _ (fun c fl ρ2 q2 L2 H2 d e2 r3 xa hn => ?_) q)
    obtain ⟨x1, x2, x3⟩ := r1.cellsBack (cells_nd c0) c3 hn e2 r3
    exact q2 σ L2 _ d (e1.trans x1) x2 (xa.up x3)
/-- x(..), x holds a lambda as data -/
def fCallV (i : Nat) (Reg : List LReg) (fa : FA) : FE := fun ρ k => ft0 i ρ ∧ fa ρ fun ss ρ1 => ∃ ds, ∃ r ∈ Reg, ρ1.sl[i]? = some (.d (cloD r.path ds)) ∧ ss.length = r.nP ∧ ss.length + ds.length = r.n ∧ (ss ++ ds.map Sl.d).all (okC (r.path.headD 0)) = true ∧ r.V ⟨ss ++ ds.map Sl.d, ρ1.n⟩ fun d ρ2 => k d ⟨ρ1.sl, ρ2.n⟩
def fxCallV (i : Nat) (Reg : List LReg) (fa : FA) : FX := fun ρ k => ft0 i ρ ∧ fa ρ fun ss ρ1 => ∃ ds, ∃ r ∈ Reg, ρ1.sl[i]? = some (.d (cloD r.path ds)) ∧ ss.length = r.nP ∧ ss.length + ds.length = r.n ∧ (ss ++ ds.map Sl.d).all (okC (r.path.headD 0)) = true ∧ r.U ⟨ss ++ ds.map Sl.d, ρ1.n⟩ fun c fl ρ2 => k c fl ⟨ρ1.sl, ρ2.n⟩
theorem fCallV_mono (GL : LamsG X.prog X.w X.K X.mg X.base k M Reg) (ma : ∀ ρ k k', (∀ d ρ', k d ρ' → k' d ρ') → fa ρ k → fa ρ k') (ρ : Rho) (q q' : KD) (g : ∀ d ρ', q d ρ' → q' d ρ') (h : fCallV i Reg fa ρ q) : fCallV i Reg fa ρ q' :=
  ⟨h.1, ma _ _ _ (fun ss ρ1 ⟨ds, r, hr, h1, h2, h3, h4, z⟩ => ⟨ds, r, hr, h1, h2, h3, h4, (GL r hr).1.v _ _ _ (fun d ρ2 y => g _ _ y) z⟩) h.2⟩
theorem fxCallV_mono (GL : LamsG X.prog X.w X.K X.mg X.base k M Reg) (ma : ∀ ρ k k', (∀ d ρ', k d ρ' → k' d ρ') → fa ρ k → fa ρ k') (ρ : Rho) (q q' : XC) (g : ∀ c fl ρ', q c fl ρ' → q' c fl ρ') (h : fxCallV i Reg fa ρ q) : fxCallV i Reg fa ρ q' :=
  ⟨h.1, ma _ _ _ (fun ss ρ1 ⟨ds, r, hr, h1, h2, h3, h4, z⟩ => ⟨ds, r, hr, h1, h2, h3, h4, (GL r hr).1.u _ _ _ (fun c fl ρ2 y => g _ _ _ y) z⟩) h.2⟩
theorem faNil_mono (ρ : Rho) (q q' : List Sl → Rho → Prop) (g : ∀ d ρ', q d ρ' → q' d ρ') (h : faNil ρ q) : faNil ρ q' := g _ _ h
theorem da_nil (σ : L2.St) (H : Hp) (Q : List V → Hp → Prop) (h : DA X.k0 M faNil σ H Q) : tNil σ H Q := by
  obtain ⟨P, F, L, ρ, r, q⟩ := h
  exact q [] L H (Ex.refl _) r rfl (by simp) (by simp)
theorem pd_callV0 (GL : LamsG X.prog X.w X.K X.mg X.base k M Reg) (hgd : X.A.guards = some []) (hr : Room k X.A) (hx : PE X (.Name x p) (tVar i)) : PD X M (.Call (.Name x p) [] [] pos) (fCallV i Reg faNil) :=
  ⟨PE.wk (pe_clo0 takes_none5 hgd hr hx) fun σ H Q ⟨P, F, L, ρ, r, h0, q⟩ => dClo (fa := faNil) GL _ da_nil faNil_mono ⟨P, F, L, ρ, r, h0, faNil_mono _ _ _ (fun ss ρ1 ⟨ds, rg, hrg, h1, h2, h3, h4, z⟩ => ⟨ds, rg, hrg, h1, h2, h3, h4, .inl z⟩) q⟩, fCallV_mono GL faNil_mono⟩
theorem px_callV0 (tk : Takes X W) (GL : LamsG X.prog X.w X.K X.mg X.base k M Reg) (hgd : X.A.guards = some []) (hr : Room k X.A) (hx : PE X (.Name x p) (tVar i)) : PX X M W (.Call (.Name x p) [] [] pos) (fxCallV i Reg faNil) :=
  ⟨PE.wk (pe_clo0 tk hgd hr hx) fun σ H Q ⟨P, F, L, ρ, r, h0, q⟩ => dClo (fa := faNil) GL _ da_nil faNil_mono ⟨P, F, L, ρ, r, h0, faNil_mono _ _ _ (fun ss ρ1 ⟨ds, rg, hrg, h1, h2, h3, h4, z⟩ => ⟨ds, rg, hrg, h1, h2, h3, h4, .inr z⟩) q⟩, fxCallV_mono GL faNil_mono⟩
end
end PD
namespace PD
open PySem L2 PyProof.Rows PySem.Spec
open Evl (Ex)
theorem upd_comm {H : Hp} {a b : Addr} {o u : HO} (n : a ≠ b) : upd (upd H a o) b u = upd (upd H b u) a o := by
  funext x
  unfold upd
  by_cases h1 : x = b
  · by_cases h2 : x = a
    · exact absurd (h2.symm.trans h1) n
    · rw [if_pos h1, if_neg h2, if_pos h1]
  · rw [if_neg h1]
    by_cases h2 : x = a
    · rw [if_pos h2, if_pos h2]
    · rw [if_neg h2, if_neg h2, if_neg h1]
section
variable {X : Cx} {pins : List (Addr × Obj)} {σ : L2.St} {H : Hp} {s : Shared}
/-- a thing told by what is true of it is told as itself -/
theorem inv_rekind {a : Addr} {φ : Heap → Prop} {u : HO} (I : Inv X pins σ H s) (ha : H a = some (.ext φ)) (new : ObjOk X.prog X.w (upd H a u) s.heap a u) : Inv X pins σ (upd H a u) s := by
  have ne : ∀ {b : Addr}, H b = none → b ≠ a := fun {b} h z => by rw [z, ha] at h; cases h
  have up : ∀ {b : Addr}, H b = none → upd H a u b = none := fun {b} h => by rw [upd_ne (ne h)]; exact h
  have nx : ∀ {b : Addr} {v : HO}, H b = some v → (∀ ψ, v ≠ .ext ψ) → upd H a u b = some v := fun {b v} h n => by
    rw [upd_ne fun z => n φ (by rw [z, ha] at h; exact (Option.some.inj h).symm)]
    exact h
  refine ⟨I.ok, I.os, I.bare, ⟨I.base.keep, I.base.slot, fun b o h1 h2 h3 => up (I.base.free b o h1 h2 h3), I.base.there, fun b xs h => nx (I.base.tups b xs h) (fun ψ z => nomatch z), fun b o v h => nx (I.base.frzs b o v h) (fun ψ z => nomatch z), fun b ps h => ?_⟩,
    I.loc, I.cell, up I.free, fun x c e => up (I.freeC x c e), fun p hp => let ⟨a1, a2, a3⟩ := I.pin p hp; ⟨a1, up a2, a3⟩, fun b o e => ?_, I.len⟩
  · obtain ⟨more, z⟩ := I.base.tbls b ps h
    exact ⟨more, nx z fun ψ z => by cases z⟩
  · by_cases hb : b = a
    · subst hb
      rw [upd_same] at e
      cases e
      exact new
    · rw [upd_ne hb] at e
      exact (I.hok b o e).stay (fun c v _ z => z) (fun c z => nx z fun ψ q => by cases q) fun c xs z => nx z fun ψ q => by cases q
end
section
variable {K : Fr0} {M : Mk0} {P : Option Addr} {F : Hp} {L : List Addr} {ρ : Rho} {σ : L2.St} {H : Hp}
/-- a table grows -/
theorem R.table (r : R K M P F L ρ σ H) {Pt : Addr} {ps ps' : Array Value} (hF : F Pt = none) (hL : Pt ∈ L) (hP : H Pt = some (.tbl ps)) (ht : TriplesOk ps'.toList)
    (hq : ∀ (pos : Pos) (cv : Value), codeAmong pos ps'.toList = some cv → ∃ (c : Addr) (oc : Obj) (vs : Array Value) (tk : Tok), cv = .ref c ∧ hide L H c = some (CeO 0 oc) ∧ oc.data = .fields vs ∧ vs[1]? = some (.str (M.nm pos.line pos.col) tk)) : R K M P F L ρ σ (upd H Pt (.tbl ps')) := by
  have hh := hide_repin (H := H) (o' := HO.tbl ps') hL
  refine ⟨r.len, fun i s o h1 h2 => ?_, fun a o h => ?_, fun a h => ?_, r.apart, r.ownF, fun p hp => ?_, fun t htt => ?_⟩
  · have q := r.sl i s o h1 h2
    cases s with
    | no => trivial
    | d x =>
      obtain ⟨v, h3, h4⟩ := q
      exact ⟨v, h3, by rw [hh]; exact h4⟩
    | own xs =>
      obtain ⟨l, u, g1, g2, g3, g4⟩ := q
      have : l ≠ Pt := fun z => r.notOwnT hP ⟨i, xs, h1, by rw [h2, g1, z]⟩
      exact ⟨l, u, g1, g2, by rw [upd_ne this]; exact g3, by rw [hh]; exact g4⟩
    | st => exact q
    | raw v => exact q
    | exc a d fl => exact ⟨q.1, by rw [hh]; exact q.2⟩
  · have q := r.fr a o h
    exact ⟨by rw [upd_ne fun z => by rw [z, hF] at h; cases h]; exact q.1, q.2⟩
  · by_cases e : a = Pt
    · exact ⟨_, by rw [e]; exact upd_same⟩
    · obtain ⟨o, q⟩ := r.tr a h
      exact ⟨o, by rw [upd_ne e]; exact q⟩
  · obtain ⟨A, a1, a2, a3⟩ := r.m p hp
    exact ⟨A, M.loc (fun a ha o q => by rw [upd_ne fun z => M.nt a1 a ha ps (by rw [z]; exact hP)]; exact q) a1, a2, a3⟩
  · by_cases e : t = Pt
    · refine ⟨by rw [e]; exact hF, by rw [e]; exact hL, ps', by rw [e]; exact upd_same, ht, fun pos cv hc => ?_⟩
      rw [hh]
      exact hq pos cv hc
    · obtain ⟨t1, t2, ps2, t3, t4, t5⟩ := r.tb t htt
      exact ⟨t1, t2, ps2, by rw [upd_ne e]; exact t3, t4, by rw [hh]; exact t5⟩
end
section
variable {X : Cx} {pins : List (Addr × Obj)} {σ : L2.St} {H : Hp} {s : Shared} {M : Mk0} {P : Option Addr} {F : Hp} {L : List Addr} {ρ : Rho}
theorem exo_ok {a : Addr} {o : Obj} {H : Hp} {h : Heap} (e : h.get? a = some o) : ObjOk X.prog X.w H h a (ExO a o) := ⟨e, ⟨o, e⟩, fun h1 h2 z st => st _ z⟩
theorem lam_newR {c Pt : Addr} {params : Arguments} {body : Expr} {scope : Scope} {pos : Pos} {E : Value → Shared → Prop} {Q : Value → Shared → Prop} (I : Inv X pins σ H s) (r : R X.k0 M P F L ρ σ H) (TB : LamX.TabB X.base X.mg c Pt) (hcode : X.env.code = .ref c)
    (hm : Pt ∈ M.T) (hu : M.nm pos.line pos.col = X.env.qual ++ "<lambda>") (hdef : defaultsOf params X.env = ([], [])) (hfree : ∀ y ∈ scope.names, y.2 = .free → ∃ c, X.env.cells.lookup y.1 = some c)
    (h : ∀ (f c' : Addr) (pm ctv : Value) (oc : Obj) (vs : Array Value) (t : Tok) (H1 : Hp) (s' : Shared), Inv X pins σ H1 s' → Ex (hide L H) (hide L H1) → R X.k0 M P F L ρ σ H1 → hide L H1 f = some (ExO f (PySem.W.kla_obj "<lambda>" (X.env.qual ++ "<lambda>") params body scope (cloFrom X.env.cells scope.names []) pm c' ctv)) →
      hide L H1 c' = some (CeO 0 oc) → oc.data = .fields vs → vs[1]? = some (.str (X.env.qual ++ "<lambda>") t) → Q (.ref f) s') : wpAny (model X.prog X.w) X.A (eval (.Lambda params body scope pos) X.env) Q E s := by
  obtain ⟨t1, t2, ps, hP, ht, ha⟩ := r.tb _ hm
  refine PySem.W.kla_eval hdef ?_
  have bP : s.heap.BuiltinsAt X.mg Pt := TB.bm.keeps I.bk
  have hP' : s.heap.get? Pt = some { cls := .none, data := .fields ps } := I.hok Pt _ hP
  cases hc : codeAmong pos ps.toList with
  | none =>
    refine PySem.W.kla_makeFunction (mg := X.mg) (c := c) (P := Pt) (ps := ps) (closure_ok hfree) I.ok.glob (I.mod.glob.keeps I.bk) hcode (TB.code.keeps I.bk) hP' ht hc TB.gP bP fun c' ctv h' tk hx hge hlt hrec htb => ?_
    obtain ⟨c2, oc, vs, t, e2, hoc, hd, hv⟩ := hrec
    cases e2
    have nC : H c' = none := I.hok.fresh hge
    have nPc : Pt ≠ c' := ne_of_none hP nC
    have I1 := LamX.inv_table (t' := tk) (more := #[rawInt pos.line, rawInt pos.col, .ref c']) (h' := h') I hP (fun b o hb e => hx b o hb e) htb hge ⟨oc, vs, t, hoc, hd, hv⟩
    have I2 := inv_rekind (u := CeO 0 oc) I1 (φ := _) (by rw [upd_same]; rfl) ⟨hoc, oc, hoc⟩
    rw [upd_upd] at I2
    have r1 := (r.laid (o := CeO 0 oc) nC).table (Pt := Pt) (ps := ps) (ps' := ps ++ #[rawInt pos.line, rawInt pos.col, .ref c']) t1 t2 (by rw [upd_ne nPc]; exact hP) (by
        have eL : (ps ++ #[rawInt pos.line, rawInt pos.col, .ref c']).toList = ps.toList ++ [rawInt pos.line, rawInt pos.col, .ref c'] := by simp
        rw [eL]
        exact PySem.TriplesOk_snoc _ _ _ _ ht) fun pos' cv hcv => by
      have eL : (ps ++ #[rawInt pos.line, rawInt pos.col, .ref c']).toList = ps.toList ++ [rawInt pos.line, rawInt pos.col, .ref c'] := by simp
      rw [eL] at hcv
      rcases NdefX.among_app2 _ ht hcv with z | ⟨z, z1, z2⟩
      · obtain ⟨c0, oc0, vs0, tk0, g1, g2, g3, g4⟩ := ha pos' cv z
        exact ⟨c0, oc0, vs0, tk0, g1, hide_ex (Ex.new nC) _ _ g2, g3, g4⟩
      · exact ⟨c', oc, vs, t, z, hide_new r.tr nC, hd, by rw [← z1, ← z2, hu]; exact hv⟩
    rw [upd_comm nPc.symm] at r1
    have ef : upd (upd H Pt (.tbl (ps ++ #[rawInt pos.line, rawInt pos.col, .ref c']))) c' (CeO 0 oc) h'.objs.size = none := I2.hok.fresh (Nat.le_refl _)
    have I3 := I2.laid (t' := tk) (a := h'.objs.size) (o := ExO h'.objs.size (PySem.W.kla_obj "<lambda>" (X.env.qual ++ "<lambda>") params body scope (cloFrom X.env.cells scope.names []) ((X.mg "__name__").getD .none) c' ctv)) (h' := h'.push (PySem.W.kla_obj "<lambda>" (X.env.qual ++ "<lambda>") params body scope (cloFrom X.env.cells scope.names []) ((X.mg "__name__").getD .none) c' ctv))
      (fun b u e => Heap.get?_push_of_some _ e) (Nat.le_refl _) (exo_ok (Heap.get?_push_size _ rfl))
    have e1 : Ex (hide L H) (hide L (upd (upd H Pt (.tbl (ps ++ #[rawInt pos.line, rawInt pos.col, .ref c']))) c' (CeO 0 oc))) := by
      rw [upd_comm nPc, hide_repin t2]
      exact hide_ex (Ex.new nC)
    refine h h'.objs.size c' _ ctv oc vs t _ _ I3 (e1.trans (hide_ex (Ex.new ef))) (r1.laid ef) (hide_new r1.tr ef) (hide_ex (Ex.new ef) _ _ ?_) hd hv
    rw [upd_comm nPc, hide_repin t2]
    exact hide_new r.tr nC
  | some cv =>
    obtain ⟨c', oc, vs, t, e, hco, hd, hv⟩ := ha pos cv hc
    subst e
    rw [hu] at hv
    refine PySem.W.kla_makeFunctionHit (mg := X.mg) (c := c) (P := Pt) (ps := ps) (closure_ok hfree) I.ok.glob (I.mod.glob.keeps I.bk) hcode (TB.code.keeps I.bk) hP' ht hc bP fun ctv h' tk hx hsz => ?_
    have I1 : Inv X pins σ H { s with heap := h', toks := tk } := I.kept hx
    have nF : H h'.objs.size = none := I1.hok.fresh (Nat.le_refl _)
    have I3 := I1.laid (t' := tk) (a := h'.objs.size) (o := ExO h'.objs.size (PySem.W.kla_obj "<lambda>" (X.env.qual ++ "<lambda>") params body scope (cloFrom X.env.cells scope.names []) ((X.mg "__name__").getD .none) c' ctv)) (h' := h'.push (PySem.W.kla_obj "<lambda>" (X.env.qual ++ "<lambda>") params body scope (cloFrom X.env.cells scope.names []) ((X.mg "__name__").getD .none) c' ctv))
      (fun b u e => Heap.get?_push_of_some _ e) (Nat.le_refl _) (exo_ok (Heap.get?_push_size _ rfl))
    exact h h'.objs.size c' _ ctv oc vs t _ _ I3 (hide_ex (Ex.new nF)) (r.laid nF) (hide_new r.tr nF) (hide_ex (Ex.new nF) _ _ hco) hd hv
end
end PD
namespace PD
open PySem L2 PyProof.Rows PySem.Spec
open Evl (Ex)
structure Hot (X : Cx) (path : List Nat) (scope : Scope) (G : Hp) (fa : Addr) (C : CloF) : Prop where
  here : ∃ lpos, lamAt X.prog path = some (.Lambda C.params C.body C.scope lpos)
  sc : C.scope = scope
  cl : C.cl = cloFrom X.env.cells C.scope.names []
  obj : G fa = some (ExO fa C.obj)
  cod : G C.c = some (CeO 0 C.oc)
  code : ∃ (vs : Array Value) (t : Tok), C.oc.data = .fields vs ∧ vs[1]? = some (.str C.q t)
theorem Hot.ex {X : Cx} {path : List Nat} {scope : Scope} {G G' : Hp} {fa : Addr} {C : CloF} (h : Hot X path scope G fa C) (e : Ex G G') : Hot X path scope G' fa C := ⟨h.here, h.sc, h.cl, e _ _ h.obj, e _ _ h.cod, h.code⟩
abbrev FH := Rho → (List D → List D → Rho → Prop) → Prop
def DH (X : Cx) (M : Mk0) (path : List Nat) (scope : Scope) (f : FH) : TA := fun σ H Q => ∃ P F L ρ, R X.k0 M P F L ρ σ H ∧ f ρ fun ds1 ds2 ρ' => ∀ (vs1 : List V) (fa : Addr) (C : CloF) (vs2 : List V) (L' : List Addr) (H' : Hp), Ex (hide L H) (hide L' H') → R X.k0 M P F L' ρ' σ H' →
  RpAll X.k0 (hide L' H') vs1 ds1 → RpAll X.k0 (hide L' H') vs2 ds2 → Hot X path scope (hide L' H') fa C → Q (vs1 ++ .ref fa :: vs2) H'
structure PDH (X : Cx) (M : Mk0) (path : List Nat) (scope : Scope) (es : List Expr) (f : FH) : Prop where
  pa : PA X es (DH X M path scope f)
  mono : ∀ ρ k k', (∀ d e ρ', k d e ρ' → k' d e ρ') → f ρ k → f ρ k'
def tLamR (X : Cx) (M : Mk0) (path : List Nat) (scope : Scope) : TE := fun σ H Q => ∃ P F L ρ, R X.k0 M P F L ρ σ H ∧ ∀ (fa : Addr) (C : CloF) (H' : Hp), Ex (hide L H) (hide L H') → R X.k0 M P F L ρ σ H' → Hot X path scope (hide L H') fa C → Q (.ref fa) H'
def LamOk (X : Cx) (scope : Scope) : Prop := ∀ y ∈ scope.names, y.2 = .free → X.env.scope.names.lookup y.1 = some .cell ∨ X.env.scope.names.lookup y.1 = some .free
section
variable {X : Cx} {M : Mk0} {path : List Nat} {scope : Scope} {params : Arguments} {body a : Expr} {lpos pos : Pos} {es : List Expr} {fl : FL} {fa : FE} {fh : FH}
theorem pe_lamR {c Pt : Addr} (hL : lamAt X.prog path = some (.Lambda params body scope lpos)) (TB : LamX.TabB X.base X.mg c Pt) (hcode : X.env.code = .ref c) (hm : Pt ∈ M.T) (hu : M.nm lpos.line lpos.col = X.env.qual ++ "<lambda>")
    (hfree : LamOk X scope) (hdef : defaultsOf params X.env = ([], []) := by rfl) : PE X (.Lambda params body scope lpos) (tLamR X M path scope) := by
  refine ⟨fun pins s σ H Q I ⟨P, F, L, ρ, r, q⟩ => ?_⟩
  refine lam_newR I r TB hcode hm hu hdef (fun y hy e => (hfree y hy e).elim (fun z => I.ok.has _ (.inl z)) fun z => I.ok.has _ (.inr z)) fun f c' pm ctv oc vs t H1 s' I1 e1 r1 g1 g2 g3 g4 => ?_
  exact ⟨.ref f, H1, I1, rfl, q f ⟨X.env.qual ++ "<lambda>", params, body, scope, pm, ctv, c', oc, cloFrom X.env.cells scope.names [], []⟩ H1 e1 r1 ⟨⟨lpos, hL⟩, rfl, rfl, g1, g2, vs, t, g3, g4⟩⟩
def fhHere (fl : FL) : FH := fun ρ k => fl ρ fun ds ρ1 => k [] ds ρ1
theorem pdh_here (h : PE X (.Lambda params body scope lpos) (tLamR X M path scope)) (hl : PDL X M es fl) (hs : starEach (.Lambda params body scope lpos :: es) X.env = (false, eval (.Lambda params body scope lpos) X.env) :: starEach es X.env := by rfl) : PDH X M path scope (.Lambda params body scope lpos :: es) (fhHere fl) := by
  refine ⟨PA.wk (pa_cons h hl.pa hs) fun σ H Q ⟨P, F, L, ρ, r, q⟩ => ?_, fun ρ k k' g q => hl.mono _ _ _ (fun ds ρ1 q => g _ _ _ q) q⟩
  refine ⟨P, F, L, ρ, r, fun fa C H1 e1 r1 hot => ?_⟩
  refine ⟨P, F, L, ρ, r1, hl.mono _ _ _ (fun ds ρ1 q vs L2 H2 e2 r2 d2 => ?_) q⟩
  exact q [] fa C vs L2 H2 (e1.trans e2) r2 .nil d2 (hot.ex e2)
end
/-- what is captured, by its slots -/
def capsD (sl : List Sl) : List Nat → Option (List D)
  | [] => some []
  | j :: js => match sl[j]? with
    | some (.d x) => (capsD sl js).map (x :: ·)
    | _ => none
theorem capsD_ok {K : Fr0} {M : Mk0} {P : Option Addr} {F : Hp} {L : List Addr} {ρ : Rho} {σ : L2.St} {H : Hp} (r : R K M P F L ρ σ H) : ∀ {js : List Nat} {cs : List D}, capsD ρ.sl js = some cs → ∃ vs, RpAll K (hide L H) vs cs ∧ js.map (fun j => σ[j]?) = vs.map fun v => some (some v)
  | [], _, h => by cases h; exact ⟨[], .nil, rfl⟩
  | j :: js, cs, h => by
    unfold capsD at h
    split at h
    · rename_i x hx
      cases e : capsD ρ.sl js with
      | none => rw [e] at h; cases h
      | some ds =>
        rw [e] at h
        cases h
        obtain ⟨vs, h1, h2⟩ := capsD_ok r e
        obtain ⟨v, g1, g2⟩ := r.get hx
        exact ⟨v :: vs, .cons g2 h1, by rw [List.map_cons, List.map_cons, h2, g1]⟩
    · cases h
theorem clo_names {cells : List (Str × Addr)} : ∀ (names : List (Str × NameKind)) (acc : List (Str × Addr)), (cloFrom cells names acc).map (·.1) = ((names.filter fun y => y.2 == .free).map (·.1)).reverse ++ acc.map (·.1)
  | [], acc => rfl
  | (n, k) :: r, acc => by
    unfold cloFrom
    by_cases h : (k == NameKind.free) = true
    · rw [if_pos h, clo_names r, List.filter_cons_of_pos (by exact h)]
      simp
    · rw [if_neg h, clo_names r, List.filter_cons_of_neg (by exact h)]
theorem cell_objs {s : Shared} : ∀ (l : List (Str × Addr)), (∀ x ∈ l, ∃ v, s.heap.IsCell x.2 v) → ∃ os : List Obj, os.length = l.length ∧ ∀ (i : Nat) (x : Str × Addr) (o : Obj), l[i]? = some x → os[i]? = some o → s.heap.get? x.2 = some o
  | [], _ => ⟨[], rfl, fun i x o h => by simp at h⟩
  | x :: l, h => by
    obtain ⟨os, h1, h2⟩ := cell_objs l fun y hy => h y (List.mem_cons_of_mem _ hy)
    obtain ⟨v, o, ho, _⟩ := h x List.mem_cons_self
    refine ⟨o :: os, by simp [h1], fun i y u e1 e2 => ?_⟩
    cases i with
    | zero => simp at e1 e2; subst e1 e2; exact ho
    | succ i => exact h2 i y u (by simpa using e1) (by simpa using e2)
theorem nodup_of_idx {α : Type} {l : List α} (h : ∀ (i j : Nat) (x : α), l[i]? = some x → l[j]? = some x → i = j) : l.Nodup := by
  unfold List.Nodup
  rw [List.pairwise_iff_getElem]
  intro i j hi hj hij e
  have := h i j l[i] (List.getElem?_eq_getElem hi) (by rw [e]; exact List.getElem?_eq_getElem hj)
  omega
section
variable {X : Cx} {M : Mk0} {pins : List (Addr × Obj)} {σ : L2.St} {H : Hp} {s : Shared} {path : List Nat} {scope : Scope} {js : List Nat}
theorem frees_mem {sc : Scope} {y : Str} (h : y ∈ frees sc) : (y, NameKind.free) ∈ sc.names := by
  unfold frees at h
  obtain ⟨⟨n, k⟩, h1, h2⟩ := List.mem_map.mp (List.mem_reverse.mp h)
  obtain ⟨h3, h4⟩ := List.mem_filter.mp h1
  simp only at h2 h4
  subst h2
  rwa [beq_iff_eq.mp h4] at h3
theorem hot_clo {L : List Addr} {P : Option Addr} {F : Hp} {ρ : Rho} {fa : Addr} {C : CloF} {cs : List D} (I : Inv X pins σ H s) (r : R X.k0 M P F L ρ σ H) (hot : Hot X path scope (hide L H) fa C) (hc : capsD ρ.sl js = some cs) (hfree : LamOk X scope) (hjs : js.map (fun j => X.N[j]?) = (frees scope).map some) (hnd : (frees scope).Nodup) (hfn : ∀ x, X.fn x = true) :
    ∃ (C' : CloF) (cvs : List V), C'.obj = C.obj ∧ C'.c = C.c ∧ C'.oc = C.oc ∧ CloOk X.prog path C' cvs ∧ RpAll X.k0 (hide L H) cvs cs ∧ (∀ q ∈ C'.cells (path.headD 0), (H q.1 = none ∧ q.1 ∉ frs X.stack ∧ X.base.get? q.1 = none) ∧ ∃ y, X.env.cells.lookup y = some q.1) ∧ CeS (C'.cells (path.headD 0)) s.heap := by
  obtain ⟨cvs, hv, ev⟩ := capsD_ok r hc
  have hsc := hot.sc
  have hcl := hot.cl
  rw [hsc] at hcl
  have caps := NdefX.Caps.made (X := X) (scope := scope) (fr := frees scope) (js := js) I.ok hfree (fun y hy => frees_mem hy) hjs
  have cz := NdefX.cells_of I caps
  rw [← hcl] at cz
  have nm : C.cl.map (·.1) = frees scope := by rw [hcl, clo_names]; simp [frees]
  have nd : (C.cl.map (·.1)).Nodup := by rw [nm]; exact hnd
  obtain ⟨os, l1, l2⟩ := cell_objs (s := s) C.cl fun x hx => by
    obtain ⟨i, hi⟩ := List.mem_iff_getElem?.mp hx
    exact (cz.all x.1 x.2 (cl_look nd hi)).2
  have lj : js.length = (frees scope).length := by
    have := congrArg List.length hjs
    simpa using this
  have lc : cvs.length = C.cl.length := by
    have := congrArg List.length ev
    rw [List.length_map, List.length_map] at this
    rw [← this, lj, ← nm, List.length_map]
  have wsv : ∀ {i : Nat} {v : V}, cvs[i]? = some v → (js.map (NdefX.slotAt σ))[i]? = some (some v) := fun {i v} h => by
    have e := congrArg (fun l => l[i]?) ev
    simp only [List.getElem?_map, h] at e
    cases ej : js[i]? with
    | none => rw [ej] at e; cases e
    | some j =>
      rw [ej] at e
      have e : some (σ[j]?) = some (some (some v)) := e
      rw [List.getElem?_map, ej]
      show some (NdefX.slotAt σ j) = _
      rw [NdefX.slotAt_of (Option.some.inj e)]
  refine ⟨{ C with os := os }, cvs, rfl, rfl, rfl, ⟨hot.here, hot.code, by show C.cl.map (·.1) = frees C.scope; rw [nm, hsc], nd, nodup_of_idx fun i j c h1 h2 => ?_, l1, lc, fun i o v h1 h2 => ?_⟩, hv, fun q hq => ?_, fun q hq => ?_⟩
  · have h1 : (C.cl.map (·.2))[i]? = some c := h1
    have h2 : (C.cl.map (·.2))[j]? = some c := h2
    rw [List.getElem?_map] at h1 h2
    cases e1 : C.cl[i]? with
    | none => rw [e1] at h1; cases h1
    | some x =>
      cases e2 : C.cl[j]? with
      | none => rw [e2] at h2; cases h2
      | some y =>
        rw [e1] at h1
        rw [e2] at h2
        have h1 : x.2 = c := Option.some.inj h1
        have h2 : y.2 = c := Option.some.inj h2
        have g1 := cl_look nd e1
        have g2 := cl_look nd e2
        rw [h1] at g1
        rw [h2] at g2
        have en := cz.inj _ _ c g1 g2
        have k1 : (C.cl.map (·.1))[i]? = some x.1 := by rw [List.getElem?_map, e1]; rfl
        have k2 : (C.cl.map (·.1))[j]? = some x.1 := by rw [List.getElem?_map, e2, en]; rfl
        exact nodup_idx nd k1 k2
  · have h1 : os[i]? = some o := h1
    have hi : i < C.cl.length := by rw [← l1]; exact (List.getElem?_eq_some_iff.mp h1).1
    have e1 : C.cl[i]? = some C.cl[i] := List.getElem?_eq_getElem hi
    have gy : (frees scope)[i]? = some C.cl[i].1 := by rw [← nm, List.getElem?_map, e1]; rfl
    obtain ⟨c, hc1, hc2⟩ := cz.has i _ gy
    rw [cl_look nd e1] at hc1
    cases hc1
    obtain ⟨u, ru, o2, g1, g2⟩ := hc2 v (wsv h2)
    rw [l2 i _ o e1 h1] at g1
    cases g1
    exact ⟨u, ru, g2⟩
  · obtain ⟨i, x, o, e1, e2, rfl⟩ := cells_mem hq
    have e1 : C.cl[i]? = some x := e1
    have lk := cl_look nd e1
    have hx := caps.sub _ _ (by rw [← hcl]; exact lk)
    have big := I.ok.cab _ _ (hfn _) hx
    refine ⟨⟨(cz.all _ _ lk).1, fun z => ?_, ?_⟩, _, hx⟩
    · have inO : x.2 ∉ X.fs := fun z => by
        obtain ⟨_, ob, hob, _⟩ := I.ok.funs.mem z
        exact absurd (Nat.lt_of_lt_of_le (Heap.lt_size hob) big) (Nat.lt_irrefl _)
      rcases I.ok.stk with e | ⟨e, ef⟩
      · rw [e] at z; exact inO z
      · rw [e] at z
        unfold frs at z
        rw [List.filterMap_cons, ef] at z
        rcases List.mem_cons.mp z with z | z
        · exact I.cne _ _ hx z
        · exact inO z
    · cases e : X.base.get? x.2 with
      | none => rfl
      | some ob => exact absurd (Nat.lt_of_lt_of_le (Heap.lt_size e) (Nat.le_trans I.ok.bsz big)) (Nat.lt_irrefl _)
  · obtain ⟨i, x, o, e1, e2, rfl⟩ := cells_mem hq
    exact ⟨_, o, rfl, l2 i x o e1 e2⟩
end
/-- a call with a lambda among its arguments -/
def fCallL (n : Nat) (W : FE) (path js : List Nat) (fh : FH) : FE := fun ρ k => fh ρ fun ds1 ds2 ρ1 => ∃ cs, capsD ρ1.sl js = some cs ∧ ds1.length + 1 + ds2.length = n ∧ W ⟨ds1.map Sl.d ++ .d (cloD path cs) :: ds2.map Sl.d, ρ1.n⟩ fun d ρ2 => noC (path.headD 0) d = true ∧ k d ⟨ρ1.sl, ρ2.n⟩
section
variable {X : Cx} {M : Mk0} {path : List Nat} {scope : Scope} {js : List Nat} {k : Nat} {f : Addr} {fd : FuncData} {ps : List Str} {n : Nat} {W : FE} {x : Str} {p pos : Pos} {e : Expr} {es : List Expr} {fh : FH}
theorem env0_add {P : Program} {w : World} {K : PySem.W.Frag} {mg : Str → Option Value} {base : Heap} {A : Around} {outer : List Env} {s : Shared} {H : Hp} {S : List (Addr × HO)} (e : Env0 P w K mg base A outer s H) (nd : (S.map (·.1)).Nodup) (hc : CeS S s.heap) (hn : ∀ q ∈ S, H q.1 = none ∧ q.1 ∉ frs outer ∧ base.get? q.1 = none) : Env0 P w K mg base A outer s (addS S H) :=
  ⟨e.frames, e.mod, fun b o h => ⟨(e.bs b o h).1, by
    rw [addS_out fun z => ?_]
    · exact (e.bs b o h).2
    · obtain ⟨q, hq, rfl⟩ := List.mem_map.mp z
      rw [(hn q hq).2.2] at h
      cases h⟩, e.bsz, e.funs, fun b h => by
    rw [addS_out fun z => ?_]
    · exact e.frf b h
    · obtain ⟨q, hq, rfl⟩ := List.mem_map.mp z
      exact (hn q hq).2.1 h, hok_add nd hc (fun q hq => (hn q hq).1) e.hok, e.bare⟩
theorem pd_callL (mW : ∀ ρ k k', (∀ d ρ', k d ρ' → k' d ρ') → W ρ k → W ρ k') (G : FnG X.prog X.w X.K X.mg X.base (L2.CX X.prog X.w) k f fd ps (spD X.k0 M n W)) (hgd : X.A.guards = some []) (hr : Room k X.A) (hg : Gl X x) (hm : X.mg x = some (.ref f)) (hk : PySem.W.keepIn X.K (.ref f) = true) (hb : Binds X.K fd ps [])
    (ha : PDH X M path scope (e :: es) fh) (hfree : LamOk X scope) (hjs : js.map (fun j => X.N[j]?) = (frees scope).map some) (hnd : (frees scope).Nodup) (hfn : ∀ x, X.fn x = true)
    (hdb : (x == ("__debug__" : Str)) = false := by decide) (he : starEach (e :: es) X.env = (false, eval e X.env) :: starEach es X.env := by rfl) (hpl : (backTo pos (starEach es X.env)).any (·.1) = false := by rfl) :
    PD X M (.Call (.Name x p) (e :: es) [] pos) (fCallL n W path js fh) := by
  refine ⟨⟨fun pins s σ H Q I ⟨P, F, L, ρ, r, q⟩ => ?_⟩, fun ρ k k' g q => ha.mono _ _ _ (fun d1 d2 ρ1 ⟨cs, h1, h2, q⟩ => ⟨cs, h1, h2, mW _ _ _ (fun d ρ2 q => ⟨q.1, g _ _ q.2⟩) q⟩) q⟩
  refine wpAny_Call_Name_kw (ld_glob I hg hm ?_ hdb)
  refine PySem.W.callWith_K (h₀ := X.base) I.ok.mod.kin hk (thn (ha.pa.run pos pins s σ H (fun vs H1 => ∃ (vs1 : List V) (fa : Addr) (C : CloF) (vs2 : List V) (ds1 ds2 : List D) (ρ1 : Rho) (L1 : List Addr), vs = vs1 ++ .ref fa :: vs2 ∧ Ex (hide L H) (hide L1 H1) ∧ R X.k0 M P F L1 ρ1 σ H1 ∧ RpAll X.k0 (hide L1 H1) vs1 ds1 ∧ RpAll X.k0 (hide L1 H1) vs2 ds2 ∧ Hot X path scope (hide L1 H1) fa C ∧
    ∃ cs, capsD ρ1.sl js = some cs ∧ ds1.length + 1 + ds2.length = n ∧ W ⟨ds1.map Sl.d ++ .d (cloD path cs) :: ds2.map Sl.d, ρ1.n⟩ fun d ρ2 => noC (path.headD 0) d = true ∧ KV' X.k0 M P F L σ H Q d ⟨ρ1.sl, ρ2.n⟩) I
    ⟨P, F, L, ρ, r, ha.mono _ _ _ (fun ds1 ds2 ρ1 q vs1 fa C vs2 L1 H1 e1 r1 a1 a2 hot => ⟨vs1, fa, C, vs2, ds1, ds2, ρ1, L1, rfl, e1, r1, a1, a2, hot, q⟩) q⟩) fun us sA ⟨vs, HA, IA, rA, qA⟩ => ⟨IA.kIn, ?_⟩) he hpl
  obtain ⟨vs1, fa, C, vs2, ds1, ds2, ρ1, L1, rfl, e1, r1, a1, a2, hot, cs, hcs, hn, q⟩ := qA
  obtain ⟨C', cvs, eo, ec, eoc, hC, hv, hz', hce⟩ := hot_clo IA r1 hot hcs hfree hjs hnd hfn
  have hz := fun q hq => (hz' q hq).1
  have nd := cells_nd (κ := path.headD 0) hC
  have hcm := cells_m (κ := path.headD 0) hC
  have hn0 : ∀ q ∈ C'.cells (path.headD 0), HA q.1 = none := fun q hq => (hz q hq).1
  have hnL : ∀ q ∈ C'.cells (path.headD 0), q.1 ∉ L1 := fun q hq z => by
    obtain ⟨o, g⟩ := r1.tr q.1 z
    rw [hn0 q hq] at g
    cases g
  clear hz'
  generalize hS : C'.cells (path.headD 0) = S at nd hcm hn0 hnL hz hce
  have x1 : Ex HA (addS S HA) := ex_add hn0
  have up := hide_ex (L := L1) x1
  have rclo : Rp X.k0 (hide L1 (addS S HA)) (.ref fa) (cloD path cs) := by
    refine .clo hC (up _ _ ?_) (up _ _ ?_) (fun q hq => ?_) (dpa_ex up _ _ hv)
    · rw [eo]; exact hot.obj
    · rw [ec, eoc]; exact hot.cod
    · rw [hS] at hq
      exact hide_some.mpr ⟨hnL q hq, addS_in nd hq⟩
  have all : RpAll X.k0 (hide L1 (addS S HA)) (vs1 ++ .ref fa :: vs2) (ds1 ++ cloD path cs :: ds2) := dpa_app (dpa_ex up _ _ a1) (.cons rclo (dpa_ex up _ _ a2))
  have es : ds1.map Sl.d ++ .d (cloD path cs) :: ds2.map Sl.d = (ds1 ++ cloD path cs :: ds2).map Sl.d := by simp
  rw [es] at q
  have r2 : R X.k0 M P (keepF ρ1 σ F (addS S HA)) L1 ⟨(ds1 ++ cloD path cs :: ds2).map Sl.d, ρ1.n⟩ ((vs1 ++ .ref fa :: vs2).map some) (addS S HA) :=
    (r1.ex x1).frame (fun i xs => map_d_bare _ i xs) rfl (by rw [List.length_map, List.length_map]; exact dpa_len all) fun i s o g1 g2 => by
      rw [List.getElem?_map] at g2
      cases ev : (vs1 ++ V.ref fa :: vs2)[i]? with
      | none => rw [ev] at g2; cases g2
      | some v =>
        rw [ev] at g2
        cases g2
        exact slots_d all i s v g1 ev
  have hsp : spD X.k0 M n W (vs1 ++ .ref fa :: vs2) (addS S HA) (fun v H' => (∀ q ∈ S, H' q.1 = some q.2) → Q v (delS S H')) (fun _ _ _ => False) := by
    refine ⟨P, _, L1, _, r2, fun i xs => map_d_bare _ i xs, by simp; omega, mW _ _ _ (fun d ρ2 ⟨hnc, q2⟩ v L2' H2 e2 r3 d2 hk => ?_) q⟩
    obtain ⟨y1, y2, y3⟩ := r1.repay nd hcm hn0 hnL r3 hk e2
    exact q2 v L2' _ (e1.trans y1) y2 (rp_butc y3 hnc d2)
  have hl : (us ++ []).length = ps.length := by rw [List.append_nil, ← rA.length]; exact G.len _ _ _ _ hsp
  have bi := hb sA us IA.kIn hl
  rw [List.append_nil] at bi
  refine wpAny_call (codeAny_mono (G.go X.A X.stack sA _ ⟨us, []⟩ us _ _ _ hgd hr (env0_add IA.env0 nd hce hz) bi rA hsp) fun res sB hq => ?_)
  have hq := lend_end nd hce hn0 (fun q hq => (hz q hq).2.1) hq
  cases res with
  | error ex => exact passF pins σ HA sA ex sB IA hq
  | ok fl =>
    cases fl with
    | ret u => exact IA.after hq
    | next => exact hq.elim
    | brk => exact hq.elim
    | cont => exact hq.elim
end
end PD
namespace PD
open PySem L2 PyProof.Rows PySem.Spec
open Evl (Ex)
def MkTab (M : Mk0) (mg : Str → Option Value) (base : Heap) (fd : FuncData) : Prop := ∃ c Pt : Addr, fd.code = .ref c ∧ LamX.TabB base mg c Pt ∧ Pt ∈ M.T
section
variable {P : Program} {w : World} {K : PySem.W.Frag} {mg : Str → Option Value} {base : Heap} {CX : CXT} {k : Nat} {f : Addr} {fd : FuncData} {ps N : List Str} {sp : Sp}
theorem fnG_ofC {x qual : Str} {st : Stmt} (F : Fun K x qual st f fd) (S : FnScope N ps (defScope st)) (len : ∀ vs H Q E, sp vs H Q E → vs.length = ps.length)
    (body : ∀ (A : Around) (outer : List Env) (s : Shared) (H : Hp) (vs : List V) (Q : VK) (E : XK), A.guards = some [] → Room k (A.deeper (envOfC qual (defScope st) s.heap.objs.size f fd.code)) → sp vs H Q E →
      ∃ t, PSs (cxOf CX P w K mg base N qual (defScope st) f fd.code A outer s H E) (defBody st) t ∧ t { nx := fun _ H' => Q .non H', rt := Q } (L2.start N vs) H) : FnG P w K mg base CX (k + 1) f fd ps sp := by
  obtain ⟨oc, od, kV, doc, pm, an, cdv, ct, osl, efd, lk, hcd⟩ := F.ex
  have ecd : fd.code = cdv := by rw [efd]
  refine ⟨len, fun A outer s H args us vs Q E hgd hr e0 hbi hva hsp => ?_⟩
  have kin : K.In s.heap := e0.mod.kin.keeps fun b o e => (e0.bs b o e).1
  have nolim : s.heap.NoLimit := e0.mod.nolimit.keeps fun b o e => (e0.bs b o e).1
  have kinds : ∀ y ∈ ps.zip us, (defScope st).names.lookup y.1 = some .local ∨ ((defScope st).names.lookup y.1 = some .cell ∧ ((cellsFrom (s.heap.objs.size + 1) (defScope st).names []).lookup y.1).isSome = true) := by
    intro y hy
    obtain ⟨nm, vl⟩ := y
    rcases S.par nm (List.of_mem_zip hy).1 with loc | cel
    · exact .inl loc
    · exact .inr ⟨cel, PySem.W.cellsFrom_some _ _ _ (.inl cel)⟩
  obtain ⟨t, ht, hq⟩ := body A outer s H vs Q E hgd (hr.deeper _) hsp
  rw [ecd] at ht
  subst efd
  refine codeAny_call_function hr.depth (kin _ _ lk) rfl S.co S.gen rfl (PySem.W.codeRec_of kin hcd) (hbi _ _ _ _ ?_)
  refine wpAny_newFunctionEnv_cells S.kind kinds fun env henv sA xA => ?_
  subst henv
  refine ⟨nolim.keeps xA.toInCall.keep, codeAny_func ?_⟩
  have IA : Inv (cxOf CX P w K mg base N qual (defScope st) f cdv A outer s H E) [] (L2.start N vs) H sA := inv_start S hr.hd e0 (len _ _ _ _ hsp) hva xA
  refine wpAny_mono (ht.run [] sA (L2.start N vs) H _ IA hq) (fun fl sB hs => ?_) fun e sB hs => hs
  cases fl with
  | next =>
    obtain ⟨σB, HB, JB, qB⟩ := hs
    exact ⟨V.non, HB, JB.os, JB.bare, JB.base, JB.hok, rfl, qB⟩
  | ret u =>
    obtain ⟨vB, σB, HB, JB, rB, qB⟩ := hs
    exact ⟨vB, HB, JB.os, JB.bare, JB.base, JB.hok, rB, qB⟩
  | brk =>
    obtain ⟨_, _, _, qB⟩ := hs
    exact qB.elim
  | cont =>
    obtain ⟨_, _, _, qB⟩ := hs
    exact qB.elim
variable {M : Mk0} {fs : FS}
theorem fnDC {x qual : Str} {st : Stmt} (F : Fun K x qual st f fd) (S : FnScope N ps (defScope st))
    (body : ∀ (A : Around) (outer : List Env) (s : Shared) (H : Hp) (E : XK), A.guards = some [] → Room k (A.deeper (envOfC qual (defScope st) s.heap.objs.size f fd.code)) →
      PDs (cxOf (L2.CX P w) P w K mg base N qual (defScope st) f fd.code A outer s H E).nox M (defBody st) fs) : FnG P w K mg base (L2.CX P w) (k + 1) f fd ps (spD ⟨K, w, P⟩ M ps.length (fBody N.length fs)) := by
  refine fnG_ofC F S (fun vs H Q E h => spD_len vs H Q E h) fun A outer s H vs Q E hg hr ⟨P', F', L, ρ, r, hb, hl, hw⟩ => ?_
  have B := body A outer s H E hg hr
  refine ⟨_, B.ps.nox, P', F', L, _, r.start hb N, B.mono _ _ _ ⟨fun ρ' q σ' L' H' e' r' => ?_, fun d ρ' q v σ' L' H' e' r' d' => ?_, fun _ (q : False) => q.elim, fun _ (q : False) => q.elim⟩ hw⟩
  · exact q .non L' H' e' (r.swap hb r' e') .non
  · exact q v L' H' e' (r.swap hb r' e') d'
end
/-- the table of the def g at the start -/
def TabAt (mg : Str → Option Value) (h : Heap) (g : Str) (c Pt : Addr) : Prop := ∃ (a : Addr) (o : Obj) (fd : FuncData), mg g = some (.ref a) ∧ h.get? a = some o ∧ o.data = .func fd ∧ fd.code = .ref c ∧ PySem.W.CodeHd h c Pt ∧ h.get? Pt = some { cls := .none, data := .fields #[] }
def tabH (T : List Addr) (H : Hp) : Hp := fun b => if b ∈ T then some (.tbl #[]) else H b
section
variable {P : Program} {w : World} {K : PySem.W.Frag} {mg mb : Str → Option Value} {k : Nat} {fa a : Addr} {fd : FuncData} {x : Str} {sp : Sp} {sA : Shared} {H : Hp} {cs : List (Addr × Addr)}
theorem enterGT (KX : K.In sA.heap) (hns : sA.heap.Ns mainGlobals mg) (hb : sA.heap.Ns builtinsNs mb) (hbb : ∀ x : Str, x ≠ "__name__" → mb x = bootBuiltins x) (hlim : sA.heap.NoLimit) (hgen : sA.gens = #[])
    (hbm : ∃ (bm : Addr) (ob : Obj), mg "__builtins__" = some (.ref bm) ∧ bm ≠ builtinsNs ∧ sA.heap.get? bm = some ob ∧ ob.cls = .type "module" ∧ ob.dict = some builtinsNs ∧ ob.data = .plain)
    (hcs : ∀ p ∈ cs, PySem.W.CodeHd sA.heap p.1 p.2 ∧ sA.heap.get? p.2 = some { cls := .none, data := .fields #[] } ∧ K.lookup p.2 = none)
    (hr : Room k callerA) (F : ∀ base : Heap, K.In base → base.Ns mainGlobals mg → (∀ p ∈ cs, LamX.TabB base mg p.1 p.2) → FnG P w K mg base (L2.CX P w) k fa fd [x] sp) (hbind : ∀ (s : Shared) (u : Value), BindsTo s fd ⟨[u], []⟩ [(x, u)])
    (hsp : sp [.ref a] (tabH (cs.map (·.2)) H) (fun v _ => v = .bl true) fun _ _ _ => False) (hok : HOk P w H sA.heap) (hO : Only H)
    (away : ∀ b o, H b ≠ none → sA.heap.get? b = some o → K.lookup b = none ∧ ∃ vs n, o.data = .seq vs n) :
    codeAny (model P w) callerA (.call (.ref fa) ⟨[.ref a], []⟩) (fun r s' => r = .ok (.ret (.bool true)) ∧ OldK sA.heap s'.heap ∧ s'.os = sA.os ∧ AllBare s'.gens) sA := by
  have tabAt : ∀ {b : Addr}, b ∈ cs.map (·.2) → sA.heap.get? b = some { cls := .none, data := .fields #[] } ∧ K.lookup b = none := fun {b} hb => by
    obtain ⟨p, hp, rfl⟩ := List.mem_map.mp hb
    exact ⟨(hcs p hp).2.1, (hcs p hp).2.2⟩
  have nH : ∀ {b : Addr}, b ∈ cs.map (·.2) → H b = none := fun {b} hb => by
    cases q : H b with
    | none => rfl
    | some u =>
      obtain ⟨_, vs, n, e⟩ := away b _ (by rw [q]; exact Option.some_ne_none _) (tabAt hb).1
      cases e
  have inT : ∀ {b : Addr}, b ∈ cs.map (·.2) → tabH (cs.map (·.2)) H b = some (.tbl #[]) := fun {b} hb => if_pos hb
  have outT : ∀ {b : Addr}, b ∉ cs.map (·.2) → tabH (cs.map (·.2)) H b = H b := fun {b} hb => if_neg hb
  -- what is no list and no table is not tracked
  have seen : ∀ {b : Addr} {o : Obj}, sA.heap.get? b = some o → (∀ vs n, o.data ≠ .seq vs n) → o.data ≠ .fields #[] → tabH (cs.map (·.2)) H b = none := fun {b o} e d1 d2 => by
    by_cases hb : b ∈ cs.map (·.2)
    · rw [(tabAt hb).1] at e
      cases e
      exact absurd rfl d2
    · rw [outT hb]
      cases q : H b with
      | none => rfl
      | some u =>
        obtain ⟨_, vs, n, z⟩ := away b o (by rw [q]; exact Option.some_ne_none _) e
        exact absurd z (d1 vs n)
  have nsH : ∀ {b : Addr} {m : Str → Option Value}, sA.heap.Ns b m → (hidT sA.heap (tabH (cs.map (·.2)) H)).Ns b m := fun {b m} ⟨o, es, ep, e, d, rest⟩ =>
    ⟨o, es, ep, hidT_get e (seen e (fun vs n z => by rw [d] at z; cases z) (fun z => by rw [d] at z; cases z)), d, rest⟩
  have kinH : K.In (hidT sA.heap (tabH (cs.map (·.2)) H)) := fun b o e => by
    refine hidT_get (KX b o e) ?_
    by_cases hb : b ∈ cs.map (·.2)
    · rw [(tabAt hb).2] at e; cases e
    · rw [outT hb]
      cases q : H b with
      | none => rfl
      | some u =>
        have := (away b o (by rw [q]; exact Option.some_ne_none _) (KX b o e)).1
        rw [e] at this
        cases this
  have mod : Mod K mg (hidT sA.heap (tabH (cs.map (·.2)) H)) := by
    obtain ⟨mc, l1, l2⟩ := hlim
    exact ⟨kinH, nsH hns, ⟨mb, nsH hb, hbb⟩, mc, nsH l1, l2⟩
  have hokT : HOk P w (tabH (cs.map (·.2)) H) sA.heap := fun b o e => by
    by_cases hb : b ∈ cs.map (·.2)
    · rw [inT hb] at e
      cases e
      exact (tabAt hb).1
    · rw [outT hb] at e
      have out : ∀ {d : Addr} {u : HO}, H d = some u → tabH (cs.map (·.2)) H d = some u := fun {d u} q => by
        rw [outT fun z => by rw [nH z] at q; cases q]
        exact q
      exact (hok b o e).stay (fun d u _ z => z) (fun d z => out z) fun d xs z => out z
  have env : Env0 P w K mg (hidT sA.heap (tabH (cs.map (·.2)) H)) callerA [] sA (tabH (cs.map (·.2)) H) :=
    ⟨rfl, mod, fun b o e => of_hidT e, Nat.le_of_eq (hidT_size _ _), trivial, fun b hb => absurd hb List.not_mem_nil, hokT, .of_eq hgen⟩
  have TB : ∀ p ∈ cs, LamX.TabB (hidT sA.heap (tabH (cs.map (·.2)) H)) mg p.1 p.2 := fun p hp => by
    obtain ⟨hd, hP, _⟩ := hcs p hp
    obtain ⟨o, us, file, tf, flags, tg, inF, text, tt, e1, r1, r2, r3, r4⟩ := hd
    obtain ⟨bm, ob, b1, b2, b3, b4, b5, b6⟩ := hbm
    have nG : bm ≠ mainGlobals := fun q => by
      obtain ⟨o', es, ep, e, d, _⟩ := hns
      rw [q, e] at b3
      cases b3
      rw [d] at b6
      cases b6
    have nP : bm ≠ p.2 := fun q => by
      rw [q, hP] at b3
      cases b3
      cases b6
    refine ⟨⟨o, us, file, tf, flags, tg, inF, text, tt, hidT_get e1 (seen e1 (fun vs n z => by rw [r2] at z; cases z) (fun z => ?_)), r1, r2, r3, r4⟩, ⟨bm, ob, b1, b2, nG, nP, hidT_get b3 (seen b3 (fun vs n z => by rw [b6] at z; cases z) (fun z => by rw [b6] at z; cases z)), b4, b5, b6⟩, fun z => ?_⟩
    · rw [r2] at z
      cases z
      simp at r3
    · obtain ⟨o', es, ep, e, d, _⟩ := hns
      rw [z, hP] at e
      cases e
      cases d
  refine codeAny_mono ((F _ kinH (nsH hns) TB).go callerA [] sA _ ⟨[.ref a], []⟩ [.ref a] [.ref a] _ _ rfl hr env (hbind sA (.ref a)) (.cons rfl .nil) hsp) fun res sB hB => ?_
  cases res with
  | error e =>
    obtain ⟨_, _, _, _, _, _, _, _, _, _, _, _, z⟩ := hB
    exact z.elim
  | ok fl =>
    cases fl with
    | next => exact hB.elim
    | brk => exact hB.elim
    | cont => exact hB.elim
    | ret u =>
      obtain ⟨v, HB, osB, bareB, unB, okB, relB, qB⟩ := hB
      have qB : v = .bl true := qB
      subst qB
      have eu : u = Value.bool true := relB
      subst eu
      have noF : ∀ {b : Addr}, b ∉ frs [] := fun {b} => List.not_mem_nil
      have same : ∀ {b : Addr} {o : Obj}, b ∉ cs.map (·.2) → sA.heap.get? b = some o → sB.heap.get? b = some o := fun {b o} hb e => by
        cases q : H b with
        | none => exact unB.keep b o e (by rw [outT hb]; exact q) noF List.not_mem_nil
        | some u =>
          rcases hO b with z | ⟨ob, xs, z⟩
          · rw [q] at z
            cases z
          · have g1 := (hok b _ z).1
            have g2 := (okB b _ (unB.frzs b ob _ (by rw [outT hb]; exact z))).1
            rw [e] at g1
            cases g1
            exact g2
      have grew : ∀ {b : Addr}, b ∈ cs.map (·.2) → ∃ more : Array Value, sB.heap.get? b = some { cls := .none, data := .fields more } := fun {b} hb => by
        obtain ⟨more, z⟩ := unB.tbls b #[] (inT hb)
        exact ⟨_, okB b _ z⟩
      refine ⟨rfl, ⟨fun b o e => ?_, fun b o e => ?_⟩, osB, bareB⟩
      · by_cases hb : b ∈ cs.map (·.2)
        · obtain ⟨p, hp, rfl⟩ := List.mem_map.mp hb
          obtain ⟨more, hm⟩ := grew hb
          have h0 := (hcs p hp).2.1
          rw [h0] at e
          cases e
          exact .inr (.inl ⟨((hcs p hp).1.tab h0).isCodeTable, rfl, #[], more, rfl, by rw [Array.empty_append]; exact hm⟩)
        · exact .inl (same hb e)
      · by_cases hb : b ∈ cs.map (·.2)
        · obtain ⟨more, hm⟩ := grew hb
          exact ⟨_, hm⟩
        · exact ⟨o, same hb e⟩
end
end PD
namespace PD
open PySem L2 PyProof.Rows PySem.Spec
open Evl (Ex)
abbrev TR := (L2.St → V → Hp → Prop) → L2.St → Hp → Prop
structure PSr (X : Cx) (ss : List Stmt) (t : TR) : Prop where
  run : ∀ (pins : List (Addr × Obj)) (s : Shared) (σ : L2.St) (H : Hp) (D : L2.St → V → Hp → Prop), Inv X pins σ H s → t D σ H → wpAny (model X.prog X.w) X.A (execs ss X.env) (fun fl s' => ∃ u v σ' H', fl = .ret u ∧ Inv X pins σ' H' s' ∧ RelV v u ∧ D σ' v H') X.xe s
section
variable {X : Cx} {st : Stmt} {ss : List Stmt} {t : TS} {u : TR} {e : Expr} {te : TE} {pos : Pos}
theorem psr_ret (he : PE X e te) : PSr X [.Return (some e) pos] (fun D σ H => te σ H fun v H1 => D σ v H1) := by
  refine ⟨fun pins s σ H D I h => wpAny_execs_cons (wpAny_Return_some (thn (he.run pins s σ H _ I h) fun w s1 ⟨x, H1, I1, r1, q1⟩ => ?_))⟩
  exact ⟨w, x, σ, H1, rfl, I1, r1, q1⟩
theorem psr_cons (h : PS X st t) (hs : PSr X ss u) : PSr X (st :: ss) (fun D σ H => t { nx := u D, rt := fun _ _ => False } σ H) := by
  refine ⟨fun pins s σ H D I h' => wpAny_execs_cons (thn (h.run pins s σ H { nx := u D, rt := fun _ _ => False } I h') fun f s1 q => ?_)⟩
  cases f with
  | next =>
    obtain ⟨σ', H', I', q⟩ := q
    exact hs.run pins s1 σ' H' D I' q
  | ret v =>
    obtain ⟨_, _, _, _, _, z⟩ := q
    exact z.elim
  | brk =>
    obtain ⟨_, _, _, z⟩ := q
    exact z.elim
  | cont =>
    obtain ⟨_, _, _, z⟩ := q
    exact z.elim
theorem PSr.wk {u' : TR} (h : PSr X ss u) (w : ∀ D σ H, u' D σ H → u D σ H) : PSr X ss u' := ⟨fun pins s σ H D I q => h.run pins s σ H D I (w D σ H q)⟩
end
section
variable {P : Program} {w : World} {K : PySem.W.Frag} {mg : Str → Option Value} {base : Heap} {CX : CXT} {k : Nat} {f : Addr} {fd : FuncData} {ps N : List Str} {sp : Sp}
/-- .. and what it leaves behind in cells may be told -/
theorem fnG_ofL {x qual : Str} {st : Stmt} (F : Fun K x qual st f fd) (S : FnScope N ps (defScope st)) (len : ∀ vs H Q E, sp vs H Q E → vs.length = ps.length)
    (body : ∀ (A : Around) (outer : List Env) (s : Shared) (H : Hp) (vs : List V) (Q : VK) (E : XK), A.guards = some [] → Room k (A.deeper (envOfC qual (defScope st) s.heap.objs.size f fd.code)) → sp vs H Q E →
      ∃ t, PSr (cxOf CX P w K mg base N qual (defScope st) f fd.code A outer s H E) (defBody st) t ∧ t (fun σ' v H' => ∀ s', Inv (cxOf CX P w K mg base N qual (defScope st) f fd.code A outer s H E) [] σ' H' s' → ∃ Sx : List (Addr × HO), (Sx.map (·.1)).Nodup ∧ CeS Sx s'.heap ∧ (∀ q ∈ Sx, H' q.1 = none ∧ s.heap.objs.size ≤ q.1) ∧ Q v (addS Sx H')) (L2.start N vs) H) : FnG P w K mg base CX (k + 1) f fd ps sp := by
  obtain ⟨oc, od, kV, doc, pm, an, cdv, ct, osl, efd, lk, hcd⟩ := F.ex
  have ecd : fd.code = cdv := by rw [efd]
  refine ⟨len, fun A outer s H args us vs Q E hgd hr e0 hbi hva hsp => ?_⟩
  have kin : K.In s.heap := e0.mod.kin.keeps fun b o e => (e0.bs b o e).1
  have nolim : s.heap.NoLimit := e0.mod.nolimit.keeps fun b o e => (e0.bs b o e).1
  have kinds : ∀ y ∈ ps.zip us, (defScope st).names.lookup y.1 = some .local ∨ ((defScope st).names.lookup y.1 = some .cell ∧ ((cellsFrom (s.heap.objs.size + 1) (defScope st).names []).lookup y.1).isSome = true) := by
    intro y hy
    obtain ⟨nm, vl⟩ := y
    rcases S.par nm (List.of_mem_zip hy).1 with loc | cel
    · exact .inl loc
    · exact .inr ⟨cel, PySem.W.cellsFrom_some _ _ _ (.inl cel)⟩
  obtain ⟨t, ht, hq⟩ := body A outer s H vs Q E hgd (hr.deeper _) hsp
  rw [ecd] at ht hq
  subst efd
  refine codeAny_call_function hr.depth (kin _ _ lk) rfl S.co S.gen rfl (PySem.W.codeRec_of kin hcd) (hbi _ _ _ _ ?_)
  refine wpAny_newFunctionEnv_cells S.kind kinds fun env henv sA xA => ?_
  subst henv
  refine ⟨nolim.keeps xA.toInCall.keep, codeAny_func ?_⟩
  have IA : Inv (cxOf CX P w K mg base N qual (defScope st) f cdv A outer s H E) [] (L2.start N vs) H sA := inv_start S hr.hd e0 (len _ _ _ _ hsp) hva xA
  refine wpAny_mono (ht.run [] sA (L2.start N vs) H _ IA hq) (fun fl sB hs => ?_) fun e sB hs => hs
  obtain ⟨u, v, σB, HB, rfl, JB, rB, qB⟩ := hs
  obtain ⟨Sx, nd, hce, hn, q⟩ := qB sB JB
  have un : Un (frs outer) [] H HB s.heap sB.heap := JB.base
  have outS : ∀ {b : Addr} {u : HO}, HB b = some u → b ∉ Sx.map (·.1) := fun {b u} h z => by
    obtain ⟨q, hq, rfl⟩ := List.mem_map.mp z
    rw [(hn q hq).1] at h
    cases h
  have oldS : ∀ {b : Addr} {o : Obj}, s.heap.get? b = some o → b ∉ Sx.map (·.1) := fun {b o} h z => by
    obtain ⟨q, hq, rfl⟩ := List.mem_map.mp z
    exact absurd (Nat.lt_of_lt_of_le (Heap.lt_size h) (hn q hq).2) (Nat.lt_irrefl _)
  refine ⟨v, addS Sx HB, JB.os, JB.bare, ⟨un.keep, un.slot, fun b o e n hx => ?_, un.there, fun b xs e => ?_, fun b o u e => ?_, fun b ps e => ?_⟩, hok_add nd hce (fun q hq => (hn q hq).1) JB.hok, rB, q⟩
  · rw [addS_out (oldS e)]; exact un.free b o e n hx
  · have := un.tups b xs e; rw [addS_out (outS this)]; exact this
  · have := un.frzs b o u e; rw [addS_out (outS this)]; exact this
  · obtain ⟨more, z⟩ := un.tbls b ps e
    exact ⟨more, by rw [addS_out (outS z)]; exact z⟩
end
structure LamI where
  path : List Nat
  scope : Scope
  js : List Nat
/-- the lambdas made so far, in a list that is held -/
def HotS (X : Cx) (G : Hp) : List LamI → List V → Prop
  | [], vs => vs = []
  | l :: ls, vs => ∃ f C r, vs = .ref f :: r ∧ Hot X l.path l.scope G f C ∧ HotS X G ls r
theorem HotS.ex {X : Cx} {G G' : Hp} (e : Ex G G') : ∀ {ls : List LamI} {vs : List V}, HotS X G ls vs → HotS X G' ls vs
  | [], _, h => h
  | _ :: _, _, ⟨f, C, r, h1, h2, h3⟩ => ⟨f, C, r, h1, h2.ex e, HotS.ex e h3⟩
theorem HotS.snoc {X : Cx} {G : Hp} {l : LamI} {f : Addr} {C : CloF} (h : Hot X l.path l.scope G f C) : ∀ {ls : List LamI} {vs : List V}, HotS X G ls vs → HotS X G (ls ++ [l]) (vs ++ [.ref f])
  | [], _, h' => by cases h'; exact ⟨f, C, [], rfl, h, rfl⟩
  | _ :: _, _, ⟨g, C', r, h1, h2, h3⟩ => by subst h1; exact ⟨g, C', r ++ [.ref f], rfl, h2, HotS.snoc h h3⟩
theorem HotS.len {X : Cx} {G : Hp} : ∀ {ls : List LamI} {vs : List V}, HotS X G ls vs → vs.length = ls.length
  | [], _, h => by cases h; rfl
  | _ :: _, _, ⟨f, C, r, h1, _, h3⟩ => by subst h1; simp [HotS.len h3]
def LamSt (X : Cx) (M : Mk0) (i : Nat) (ls : List LamI) (ρ : Rho) (P : Option Addr) (F : Hp) (L : List Addr) (H0 : Hp) (σ : L2.St) (H : Hp) : Prop := ∃ (L' : List Addr) (p : Addr) (vs : List V), Ex (hide L H0) (hide L' H) ∧ F p = none ∧ R X.k0 M P (upd F p (.lst vs)) L' ρ σ H ∧ σ[i]? = some (some (.ref p)) ∧ HotS X (hide L' H) ls vs
section
variable {X : Cx} {M : Mk0} {i : Nat} {x : Str} {px pa pc pos spos : Pos} {lam : Expr} {l : LamI} {ls : List LamI} {ss : List Stmt} {P : Option Addr} {F : Hp} {L : List Addr} {H0 : Hp} {ρ : Rho}
/-- the list is begun -/
theorem lam_first (hl : PE X lam (tLamR X M l.path l.scope)) (hg : PG X (.Name x px) (gName i)) (hs : swapsWithSole [.Name x px] (.List [lam] pos) spos.line X.env = pure false := by rfl) (hw : swappedStores [.Name x px] (.List [lam] pos) X.env = pure none := by rfl)
    (h1 : (assignEach [.Name x px] X.env).map (·.2) = [assign (.Name x px) X.env] := by rfl) (hst : starEach [lam] X.env = (false, eval lam X.env) :: starEach [] X.env := by rfl) :
    PS X (.Assign [.Name x px] (.List [lam] pos) spos) (fun D σ H => ∃ P F L ρ, R X.k0 M P F L ρ σ H ∧ ρ.sl[i]? = some .no ∧ ∀ σ' H', LamSt X M i [l] ρ P F L H σ' H' → D.nx σ' H') := by
  refine PS.wk (ps_asg (pe_lst (pa_cons hl pa_nil hst)) hg hs hw h1) fun D σ H ⟨P, F, L, ρ, r, h0, q⟩ => ?_
  refine ⟨P, F, L, ρ, r, fun f C H1 e1 r1 hot => ⟨by show (1 : Nat) ≤ sizeLine; rw [sizeLine_eq]; omega, fun p hp => ?_⟩⟩
  have hF : F p = none := by
    cases z : F p with
    | none => rfl
    | some o => have := (r1.fr p o z).1; rw [hp] at this; cases this
  have r2 := r1.pinNew (o := HO.lst [.ref f]) hp
  have ex := ex_pin (L := L) (o := HO.lst [V.ref f]) hp
  have r3 := r2.setD i .no (some (.ref p)) trivial fun xs z => nomatch z
  have e0 : ρ.set i .no = ρ := by
    show Rho.mk (ρ.sl.set i .no) ρ.n = ρ
    have : ρ.sl.set i .no = ρ.sl := by
      apply List.ext_getElem?
      intro j
      by_cases e : i = j
      · subst e
        rw [List.getElem?_set_self (List.getElem?_eq_some_iff.mp h0).1, h0]
      · rw [List.getElem?_set_ne e]
    rw [this]
  rw [e0] at r3
  refine q _ _ ⟨_, p, [.ref f], e1.trans ex, hF, r3, ?_, f, C, [], rfl, hot.ex ex, rfl⟩
  have hi : i < σ.length := by rw [r1.len]; exact (List.getElem?_eq_some_iff.mp h0).1
  rw [List.getElem?_set_self hi]
/-- .. goes on -/
def tLamM (X : Cx) (M : Mk0) (i : Nat) (l : LamI) : TS := fun D σ H => ∃ ls P F L H0 ρ, LamSt X M i ls ρ P F L H0 σ H ∧ ls.length ≤ 100 ∧ ∀ σ' H', LamSt X M i (ls ++ [l]) ρ P F L H0 σ' H' → D.nx σ' H'
theorem lam_more (hl : PE X lam (tLamR X M l.path l.scope)) (hp : PE X (.Call (.Attribute (.Name x px) "append" pa) [lam] [] pc) (tBM X.K "list" rAppend (tVar i) (tCons (tLamR X M l.path l.scope) tNil)))
    (hs : swapsWith (.Call (.Attribute (.Name x px) "append" pa) [lam] [] pc) none spos.line X.env = pure false := by rfl) :
    PS X (.Expr (.Call (.Attribute (.Name x px) "append" pa) [lam] [] pc) spos) (tLamM X M i l) := by
  refine PS.wk (ps_expr hp hs) fun D σ H ⟨ls, P, F, L, H0, ρ, ⟨L', p, vs, ex, hF, r, hσ, hot⟩, hlen, q⟩ => ?_
  obtain ⟨g1, g2⟩ := r.pinned
  refine ⟨.ref p, hσ, .inl ⟨rfl, vs, .inl (.inl g1)⟩, ?_⟩
  refine ⟨P, _, L', ρ, r, fun f C H1 e1 r1 h1 => ?_⟩
  obtain ⟨k1, k2⟩ := r1.pinned
  refine ⟨p, vs, .ref f, rfl, rfl, k1, by rw [hot.len, sizeLine_eq]; omega, ?_⟩
  have hh := hide_repin (H := H1) (o' := HO.lst (vs ++ [.ref f])) k2
  refine q σ _ ⟨L', p, vs ++ [.ref f], by rw [hh]; exact ex.trans e1, hF, r1.repin, hσ, ?_⟩
  rw [hh]
  exact HotS.snoc h1 (hot.ex e1)
/-- .. and is returned -/
theorem psr_lams {rp rpos : Pos} (hx : PE X (.Name x rp) (tVar i)) : ∀ (more : List (Stmt × LamI)), (∀ p ∈ more, PS X p.1 (tLamM X M i p.2)) → PSr X (more.map (·.1) ++ [.Return (some (.Name x rp)) rpos]) (fun D σ H => ∃ done P F L H0 ρ, LamSt X M i done ρ P F L H0 σ H ∧ done.length + more.length ≤ 100 ∧
      ∀ σ' H' p, σ'[i]? = some (some (.ref p)) → LamSt X M i (done ++ more.map (·.2)) ρ P F L H0 σ' H' → D σ' (.ref p) H')
  | [], _ => PSr.wk (psr_ret hx) fun D σ H ⟨done, P, F, L, H0, ρ, h, _, q⟩ => by
      have h' := h
      obtain ⟨L', p, vs, ex, hF, r, hσ, hot⟩ := h
      exact ⟨.ref p, hσ, q σ H p hσ (by rw [List.map_nil, List.append_nil]; exact h')⟩
  | (st, l) :: more, h => PSr.wk (psr_cons (h _ List.mem_cons_self) (psr_lams hx more fun p hp => h p (List.mem_cons_of_mem _ hp))) fun D σ H ⟨done, P, F, L, H0, ρ, st0, hl, q⟩ =>
      ⟨done, P, F, L, H0, ρ, st0, by simp at hl; omega, fun σ' H' st1 => ⟨done ++ [l], P, F, L, H0, ρ, st1, by simp at hl ⊢; omega, fun σ'' H'' p hp st2 => q σ'' H'' p hp (by rw [List.append_assoc] at st2; exact st2)⟩⟩
end
def capsL (sl : List Sl) : List LamI → Option (List D)
  | [] => some []
  | l :: r => match capsD sl l.js, capsL sl r with
    | some cs, some ds => some (cloD l.path cs :: ds)
    | _, _ => none
/-- what is known of each of the lambdas by the text -/
structure LamI.Ok (l : LamI) (κ : Nat) (N : List Str) (sc : Scope) : Prop where
  head : l.path.headD 0 = κ
  free : ∀ y ∈ l.scope.names, y.2 = .free → sc.names.lookup y.1 = some .cell ∨ sc.names.lookup y.1 = some .free
  js : l.js.map (fun j => N[j]?) = (frees l.scope).map some
  nd : (frees l.scope).Nodup
section
variable {X : Cx} {M : Mk0} {i κ : Nat} {P : Option Addr} {F : Hp} {L : List Addr} {H0 H : Hp} {ρ : Rho} {σ : L2.St} {s : Shared}
theorem lam_fin {ls : List LamI} {ds : List D} {p : Addr} (I : Inv X [] σ H s) (h : LamSt X M i ls ρ P F L H0 σ H) (hp : σ[i]? = some (some (.ref p))) (hc : capsL ρ.sl ls = some ds) (hok : ∀ l ∈ ls, l.Ok κ X.N X.env.scope) (hfn : ∀ x, X.fn x = true) (hn1 : (X.env.cells.map (·.1)).Nodup) (hn2 : (X.env.cells.map (·.2)).Nodup) :
    ∃ Sx : List (Addr × HO), (Sx.map (·.1)).Nodup ∧ CeS Sx s.heap ∧ (∀ q ∈ Sx, H q.1 = none ∧ X.s_0.heap.objs.size ≤ q.1) ∧ ∃ L2, Ex (hide L H0) (hide L2 (addS Sx H)) ∧ R X.k0 M P F L2 ρ σ (addS Sx H) ∧ Rp X.k0 (hide L2 (addS Sx H)) (.ref p) (.list ds) := by
  obtain ⟨L', p', vs, ex, hF, r, hσ, hot⟩ := h
  rw [hσ] at hp
  cases hp
  obtain ⟨os, l1, l2⟩ := cell_objs (s := s) X.env.cells fun x hx => by
    obtain ⟨j, hj⟩ := List.mem_iff_getElem?.mp hx
    exact I.cell x.1 x.2 (cl_look hn1 hj)
  let C0 : CloF := ⟨"", ⟨[], [], none, [], [], none, []⟩, default, default, .none, .none, 0, default, X.env.cells, os⟩
  have mem : ∀ {q : Addr × HO}, q ∈ C0.cells κ → ∃ (j : Nat) (y : Str × Addr) (o : Obj), X.env.cells[j]? = some y ∧ os[j]? = some o ∧ q = (y.2, CeO κ o) := fun {q} hq => cells_mem hq
  have eS : (C0.cells κ).map (·.1) = X.env.cells.map (·.2) := by
    apply List.ext_getElem?
    intro j
    unfold CloF.cells
    rw [List.getElem?_map, List.getElem?_map, List.getElem?_zipWith]
    show _ = Option.map _ (C0.cl[j]?)
    cases e1 : C0.cl[j]? with
    | none => rfl
    | some y =>
      have hi := (List.getElem?_eq_some_iff.mp e1).1
      rw [List.getElem?_eq_getElem (show j < C0.os.length by show j < os.length; rw [l1]; exact hi)]
      rfl
  have nd : ((C0.cells κ).map (·.1)).Nodup := by rw [eS]; exact hn2
  have hce : CeS (C0.cells κ) s.heap := fun q hq => by
    obtain ⟨j, y, o, e1, e2, rfl⟩ := mem hq
    exact ⟨κ, o, rfl, l2 j y o e1 e2⟩
  have hn : ∀ q ∈ C0.cells κ, H q.1 = none ∧ X.s_0.heap.objs.size ≤ q.1 := fun q hq => by
    obtain ⟨j, y, o, e1, e2, rfl⟩ := mem hq
    have lk := cl_look hn1 e1
    exact ⟨I.freeC _ _ lk, I.ok.cab _ _ (hfn _) lk⟩
  have inS : ∀ {y : Str} {c : Addr} {o : Obj}, X.env.cells.lookup y = some c → s.heap.get? c = some o → (c, CeO κ o) ∈ C0.cells κ := fun {y c o} h1 h2 => by
    obtain ⟨j, hj⟩ := cl_idx h1
    have hlt := (List.getElem?_eq_some_iff.mp hj).1
    have e2 : os[j]? = some os[j] := List.getElem?_eq_getElem (by rw [l1]; exact hlt)
    have := l2 j _ _ hj e2
    rw [h2] at this
    cases this
    unfold CloF.cells
    refine List.mem_iff_getElem?.mpr ⟨j, ?_⟩
    rw [List.getElem?_zipWith]
    rw [show C0.cl[j]? = some (y, c) from hj, show C0.os[j]? = some os[j] from e2]
  have x1 : Ex H (addS (C0.cells κ) H) := ex_add fun q hq => (hn q hq).1
  have exF : Ex (hide L' H) (hide (L'.filter fun a => decide (a ≠ p)) H) := hide_sub fun a ha => (List.mem_filter.mp ha).1
  have r2 := r.reveal hF
  have see : hide (L'.filter fun a => decide (a ≠ p)) H p = some (.lst vs) := hide_some.mpr ⟨filter_ne, r.pinned.1⟩
  have up := hide_ex (L := L'.filter fun a => decide (a ≠ p)) x1
  refine ⟨C0.cells κ, nd, hce, hn, _, ex.trans (exF.trans up), r2.ex x1, .lst (.inl (.inl (up _ _ see))) ?_⟩
  -- each of them
  have each : ∀ (ls : List LamI) (vs : List V) (ds : List D), (∀ l ∈ ls, l.Ok κ X.N X.env.scope) → HotS X (hide L' H) ls vs → capsL ρ.sl ls = some ds → RpAll X.k0 (hide (L'.filter fun a => decide (a ≠ p)) (addS (C0.cells κ) H)) vs ds := by
    intro ls
    induction ls with
    | nil => intro vs ds _ h1 h2; cases h1; cases h2; exact .nil
    | cons l ls ih =>
      intro vs ds hk h1 h2
      obtain ⟨f, C, rr, rfl, hh, hr⟩ := h1
      unfold capsL at h2
      cases e1 : capsD ρ.sl l.js with
      | none => rw [e1] at h2; cases h2
      | some cs =>
        cases e2 : capsL ρ.sl ls with
        | none => rw [e1, e2] at h2; cases h2
        | some ds2 =>
          rw [e1, e2] at h2
          cases h2
          have lo := hk l List.mem_cons_self
          obtain ⟨C', cvs, eo, ec, eoc, hC, hv, hz, hce'⟩ := hot_clo I r2 (hh.ex exF) e1 lo.free lo.js lo.nd hfn
          refine .cons (.clo hC (up _ _ ?_) (up _ _ ?_) (fun q hq => ?_) (dpa_ex up _ _ hv)) (ih rr ds2 (fun l hl => hk l (List.mem_cons_of_mem _ hl)) hr e2)
          · rw [eo]; exact (hh.ex exF).obj
          · rw [ec, eoc]; exact (hh.ex exF).cod
          · obtain ⟨_, y, hy⟩ := hz q hq
            obtain ⟨j, z, o, f1, f2, rfl⟩ := cells_mem hq
            obtain ⟨k, o', g1, g2⟩ := hce' _ hq
            have : CeO (l.path.headD 0) o = CeO k o' := g1
            unfold CeO at this
            simp only [HO.frz.injEq, HO.own.injEq] at this
            have g2 : s.heap.get? z.2 = some o := by rw [this.1]; exact g2
            rw [lo.head]
            refine hide_some.mpr ⟨fun w => ?_, addS_in nd (inS hy g2)⟩
            obtain ⟨u, hu⟩ := r2.tr _ w
            rw [(hz _ hq).1.1] at hu
            cases hu
  exact each ls vs ds hok hot hc
end
theorem cells_nd2 : ∀ (names : List (Str × NameKind)) (n : Nat) (acc : List (Str × Addr)), (∀ x ∈ acc, x.2 < n) → (acc.map (·.2)).Nodup → ((cellsFrom n names acc).map (·.2)).Nodup
  | [], _, _, _, h => h
  | (x, k) :: r, n, acc, h1, h2 => by
    unfold cellsFrom
    split
    · refine cells_nd2 r (n + 1) _ (fun y hy => ?_) ?_
      · rcases List.mem_cons.mp hy with e | hy
        · rw [e]; exact Nat.lt_succ_self n
        · exact Nat.lt_succ_of_lt (h1 y hy)
      · rw [List.map_cons, List.nodup_cons]
        refine ⟨fun z => ?_, h2⟩
        obtain ⟨y, hy, e⟩ := List.mem_map.mp z
        have hlt := h1 y hy
        have e : y.2 = n := e
        rw [e] at hlt
        exact absurd hlt (Nat.lt_irrefl _)
    · exact cells_nd2 r n acc h1 h2
theorem cells_nd1 : ∀ (names : List (Str × NameKind)) (n : Nat) (acc : List (Str × Addr)), (names.map (·.1) ++ acc.map (·.1)).Nodup → ((cellsFrom n names acc).map (·.1)).Nodup
  | [], n, acc, h => by
    unfold cellsFrom
    simpa using h
  | (x, k) :: r, n, acc, h => by
    rw [List.map_cons, List.cons_append, List.nodup_cons] at h
    unfold cellsFrom
    split
    · refine cells_nd1 r (n + 1) _ ?_
      rw [List.map_cons]
      rw [List.nodup_append] at h ⊢
      obtain ⟨h0, h1, h2, h3⟩ := h
      refine ⟨h1, List.nodup_cons.mpr ⟨fun z => h0 (List.mem_append_right _ z), h2⟩, fun a ha b hb => ?_⟩
      rcases List.mem_cons.mp hb with e | hb
      · intro z
        rw [z, e] at ha
        exact h0 (List.mem_append_left _ ha)
      · exact h3 a ha b hb
    · exact cells_nd1 r n acc h.2
def tFirst (X : Cx) (M : Mk0) (i : Nat) (l : LamI) : TS := fun D σ H => ∃ P F L ρ, R X.k0 M P F L ρ σ H ∧ ρ.sl[i]? = some .no ∧ ∀ σ' H', LamSt X M i [l] ρ P F L H σ' H' → D.nx σ' H'
def fLams (nN : Nat) (ls : List LamI) : FE := fun ρ k => ∃ ds, capsL (ρ.sl ++ List.replicate (nN - ρ.sl.length) .no) ls = some ds ∧ k (.list ds) ρ
section
variable {P : Program} {w : World} {K : PySem.W.Frag} {mg : Str → Option Value} {base : Heap} {k : Nat} {f : Addr} {fd : FuncData} {ps N : List Str} {M : Mk0}
theorem fnLams {x qual : Str} {st : Stmt} {l0 : LamI} {ms : List LamI} {κ i : Nat} (F : Fun K x qual st f fd) (S : FnScope N ps (defScope st)) (hok : ∀ l ∈ l0 :: ms, l.Ok κ N (defScope st)) (hi : ps.length ≤ i ∧ i < N.length) (hnd : ((defScope st).names.map (·.1)).Nodup) (hl : ms.length ≤ 50)
    (body : ∀ (X : Cx) (A : Around) (outer : List Env) (s : Shared) (H : Hp) (E : XK), X = cxOf (L2.CX P w) P w K mg base N qual (defScope st) f fd.code A outer s H E →
      ∃ (st0 : Stmt) (more : List (Stmt × LamI)) (y : Str) (rp rpos : Pos), ms = more.map (·.2) ∧ defBody st = st0 :: (more.map (·.1) ++ [.Return (some (.Name y rp)) rpos]) ∧ PS X st0 (tFirst X M i l0) ∧ (∀ p ∈ more, PS X p.1 (tLamM X M i p.2)) ∧ PE X (.Name y rp) (tVar i)) :
    FnG P w K mg base (L2.CX P w) (k + 1) f fd ps (spD ⟨K, w, P⟩ M ps.length (fLams N.length (l0 :: ms))) := by
  refine fnG_ofL F S (fun vs H Q E h => spD_len vs H Q E h) fun A outer s H vs Q E hg hr ⟨P', F', L, ρ, r, hb, hlen, ds, hds, hk⟩ => ?_
  obtain ⟨st0, more, y, rp, rpos, em, eb, h0, hm, hx⟩ := body _ A outer s H E rfl
  rw [eb]
  have rs := r.start hb N
  refine ⟨_, psr_cons h0 (psr_lams hx more hm), P', F', L, _, rs, ?_, fun σ1 H1 s1 => ⟨[l0], P', F', L, H, _, s1, ?_, fun σ2 H2 p hp s2 s' I => ?_⟩⟩
  · show (ρ.sl ++ List.replicate (N.length - ρ.sl.length) Sl.no)[i]? = some .no
    rw [List.getElem?_append_right (by omega), List.getElem?_replicate]
    rw [if_pos (by omega)]
  · have : more.length = ms.length := by rw [em, List.length_map]
    simp
    omega
  · rw [List.singleton_append, ← em] at s2
    obtain ⟨Sx, a1, a2, a3, L2', a4, a5, a6⟩ := lam_fin (κ := κ) I s2 hp hds hok (fun _ => rfl) (cells_nd1 _ _ _ (by simpa using hnd)) (cells_nd2 _ _ _ (fun x hx => absurd hx List.not_mem_nil) List.nodup_nil)
    have a7 := r.swap hb a5 a4
    exact ⟨Sx, a1, a2, a3, hk (.ref p) L2' _ a4 a7 a6⟩
end
end PD
namespace PD
open PySem L2 PyProof.Rows PySem.Spec
open Evl (Ex)
theorem walkGT {l : PySem.W.OpenLaw} {n k : Nat} {q : Program} {loose : List Str} {XP : (Str → Option Value) → Heap → Prop} {YP : World → Heap → Prop} {d : DefRec} {K : Params → PySem.W.Frag} {sp : PySem.W.Frag → World → List Addr → Sp} {x : Str} (gs : List Str)
    (hn : l.most = some n) (hn2 : n ≤ sizeLine) (hdf : d.params.defaults = []) (hr : Room k callerA) (hgs : (gs.all fun g => (recsOf q).any fun e => e.name == g) = true) (hY : ∀ (w : World) (h : Heap), YP w h → (K w.params).In h)
    (F : ∀ (w : World) (mg : Str → Option Value) (fa : Addr) (h : Heap), (K w.params).In h → h.Ns mainGlobals mg → mg d.name = some (.ref fa) → (∀ g ∈ gs, ∃ c Pt, TabAt mg h g c Pt) →
      ∃ (cs : List (Addr × Addr)) (fd : FuncData), (∀ p ∈ cs, PySem.W.CodeHd h p.1 p.2 ∧ h.get? p.2 = some { cls := .none, data := .fields #[] } ∧ (K w.params).lookup p.2 = none) ∧ (∀ (s : Shared) (u : Value), BindsTo s fd ⟨[u], []⟩ [(x, u)]) ∧
        ∀ base : Heap, (K w.params).In base → base.Ns mainGlobals mg → (∀ p ∈ cs, LamX.TabB base mg p.1 p.2) → FnG l.prog w (K w.params) mg base (L2.CX l.prog w) k fa fd [x] (sp (K w.params) w (cs.map (·.2))))
    (hsp : ∀ (K : PySem.W.Frag) (w : World) (T : List Addr) (H : Hp) (a : Addr) (ns : List Int), ns.length ≤ n → (∀ t ∈ T, H t = some (.tbl #[])) → SqL K H a (ns.map V.int) → sp K w T [.ref a] H (fun v _ => v = .bl true) fun _ _ _ => False) :
    PySem.W.WalkO q loose XP YP l.row.toRowW d [] (fun f vs => PySem.call f vs) := by
  refine Att.attach_call hn hdf fun w s₀ sA mg mb fa o pm cd doc a vs ns G Y ho hd hcd hmg hobj hints hlen hgen => ?_
  have KX := hY w _ Y
  have tabs : ∀ g ∈ gs, ∃ c Pt, TabAt mg sA.heap g c Pt := fun g hg => by
    obtain ⟨e, he, e1⟩ := List.any_eq_true.mp (List.all_eq_true.mp hgs g hg)
    obtain ⟨a', o', fd', c', P', g1, g2, g3, g4, g5, g6⟩ := G.T.tab e he
    rw [beq_iff_eq.mp e1] at g1
    exact ⟨c', P', a', o', fd', g1, g2, g3, g4, PySem.W.CodeHd.of g5 g6, g6.2⟩
  obtain ⟨cs, fd, hcs, hb, hF⟩ := F w mg fa _ KX G.T.g hmg tabs
  have hlv := hints.length
  have rv := vals_ints hints
  have hsz : ns.length ≤ sizeLine := Nat.le_trans hlen hn2
  have inT : ∀ (H : Hp), ∀ t ∈ cs.map (·.2), tabH (cs.map (·.2)) H t = some (.tbl #[]) := fun H t ht => if_pos ht
  cases hk : (K w.params).lookup a with
  | some ob =>
    have same := KX a ob hk
    rw [hobj] at same
    cases same
    refine enterGT (H := fun _ => none) (cs := cs) KX G.T.g G.T.b G.T.builtins G.T.nolimit hgen G.T.bmain hcs hr hF hb (hsp _ _ _ _ a ns hlen (inT _) ?_) (fun b u z => nomatch z) (fun _ => .inl rfl) fun b o z => absurd rfl z
    exact .inr ⟨_, vs.toArray, _, hk, rfl, rfl, rfl, by rw [List.size_toArray]; omega, by simpa using rv⟩
  | none =>
    have hH : ∀ b, (fun c => if c = a then some (HO.frz { cls := .type "list", data := .seq vs.toArray } (.lst (ns.map V.int))) else none : Hp) b = none ∨
        (fun c => if c = a then some (HO.frz { cls := .type "list", data := .seq vs.toArray } (.lst (ns.map V.int))) else none : Hp) b = some (.frz { cls := .type "list", data := .seq vs.toArray } (.lst (ns.map V.int))) ∧ b = a := by
      intro b
      by_cases e : b = a
      · exact .inr ⟨if_pos e, e⟩
      · exact .inl (if_neg e)
    have only : Only (fun c => if c = a then some (HO.frz { cls := .type "list", data := .seq vs.toArray } (.lst (ns.map V.int))) else none : Hp) := fun b => (hH b).imp id fun z => ⟨_, _, z.1⟩
    have aT : a ∉ cs.map (·.2) := fun z => by
      obtain ⟨p, hp, e⟩ := List.mem_map.mp z
      have := (hcs p hp).2.1
      rw [e, hobj] at this
      cases this
    refine enterGT (H := fun c => if c = a then some (HO.frz { cls := .type "list", data := .seq vs.toArray } (.lst (ns.map V.int))) else none) (cs := cs) KX G.T.g G.T.b G.T.builtins G.T.nolimit hgen G.T.bmain hcs hr hF hb
      (hsp _ _ _ _ a ns hlen (inT _) (.inl (.inr ⟨_, (if_neg aT).trans (if_pos rfl)⟩))) (fun b u z => ?_) only fun b o z e => ?_
    · rcases hH b with y | ⟨y, rfl⟩
      · rw [y] at z
        cases z
      · rw [y] at z
        cases z
        exact ⟨hobj, by rw [List.length_map]; exact hsz, vs, _, rv, hobj⟩
    · rcases hH b with y | ⟨y, rfl⟩
      · exact absurd y z
      · refine ⟨hk, ?_⟩
        rw [hobj] at e
        cases e
        exact ⟨_, _, rfl⟩
/-- the table of a def's code object, by the written part -/
def tabOfO (o : Obj) : Option Value := match o.data with
  | .fields vs => vs[11]?
  | _ => none
def tabOf (K : PySem.W.Frag) (cd : Value) : Option Addr := match cd with
  | .ref c => match (K.lookup c).bind tabOfO with
    | some (.ref p) => if (K.lookup p).isNone then some p else none
    | _ => none
  | _ => none
theorem tab_mk {K : PySem.W.Frag} {h : Heap} {mg : Str → Option Value} {g : Str} {c Pt f p : Addr} {oc cd : Value} {od : Option Addr} {fd : FuncData} {sl : Array (Option Value)} (X : K.In h) (hm : mg g = some (.ref f)) (hl : K.lookup f = some ⟨oc, od, .func fd, sl⟩) (hc : fd.code = cd) (ht : tabOf K cd = some p) (T : TabAt mg h g c Pt) :
    fd.code = .ref c ∧ PySem.W.CodeHd h c Pt ∧ h.get? Pt = some { cls := .none, data := .fields #[] } ∧ K.lookup Pt = none := by
  obtain ⟨a, o, fd', g1, g2, g3, g4, g5, g6⟩ := T
  rw [hm] at g1
  cases g1
  rw [X _ _ hl] at g2
  cases g2
  cases g3
  refine ⟨g4, g5, g6, ?_⟩
  rw [← hc, g4] at ht
  unfold tabOf at ht
  simp only at ht
  split at ht
  · rename_i p' hb
    split at ht
    · rename_i hn
      obtain ⟨o', ho, hv⟩ := Option.bind_eq_some_iff.mp hb
      obtain ⟨ob, us, _, _, _, _, _, _, _, e1, _, e3, e4, _⟩ := g5
      rw [X _ _ ho] at e1
      cases e1
      unfold tabOfO at hv
      rw [e3] at hv
      have hv : us[11]? = some (.ref p') := hv
      rw [hv] at e4
      cases e4
      simpa using hn
    · cases ht
  · cases ht
end PD
namespace PD
open PySem L2 PyProof.Rows PySem.Spec
open Evl (Ex)
theorem tuple_mul1 (l : Addr) (items : Array Value) (n : Nat) (dd : Option Addr) (sl : Array (Option Value)) (u : Tok) :
    Meets (Builtin.«tuple.__mul__» ⟨[.ref l, .int 1 u], []⟩) (fun _ R s => s.heap.get? l = some { cls := .type "tuple", dict := dd, data := .seq items n, slots := sl } ∧ R (.ok (.ret (Value.ref l))) s) :=
  .of_wp fun prog w A R s h => by
    obtain ⟨hp, g, d, tk, os⟩ := s
    obtain ⟨hl, h⟩ := h
    have f1 := AutoSeq1.idx_int
    have c0 : (decide ((1 : Int) < -(2 ^ 63)) || decide ((1 : Int) ≥ 2 ^ 63)) = false := by decide
    have c1 : (items.isEmpty || (1 : Int) == 1) = true := by simp
    wp_walk using wpAny_loadPart' hl
    repeat (first
      | (refine wpAny_ite_false (decide_eq_false (by rw [c0]; exact Bool.false_ne_true)) ?_; wp_walk using wpAny_loadPart' hl)
      | (refine wpAny_ite_true (decide_eq_true c1) ?_; wp_walk using wpAny_loadPart' hl))
    exact ⟨_, rfl, h⟩
def rRep1 (K : PySem.W.Frag) : R2 := fun x y H Q => ∃ l xs, x = .ref l ∧ y = .int 1 ∧ SqT K H l xs ∧ Q (.ref l) H
def rRepLA (K : PySem.W.Frag) : R2 := fun x y H Q => ∃ l k xs, x = .ref l ∧ y = .int k ∧ SqL K H l xs ∧ -(2 ^ 63) ≤ k ∧ k < 2 ^ 63 ∧ xs.length * k.toNat ≤ sizeLine ∧ ∀ p, H p = none → Q (.ref p) (upd H p (.lst (List.replicate k.toNat xs).flatten))
section
variable {K : Fr0} {X : Cx}
theorem op_rep1 : OpR X (binaryOp .Mult) (rRep1 X.K) := by
  intro pins s σ H x y v u Q I rx ry h
  obtain ⟨l, xs, rfl, rfl, hT, q⟩ := h
  cases rx
  obtain ⟨t, rfl⟩ := ry
  obtain ⟨its, r, ⟨⟨cls, dd, data, sl⟩, ho, hc, n, hd⟩, hs⟩ := I.tuple hT
  simp only at hc hd
  subst hc hd
  refine wpAny_binaryOp_repeat_ref (T := "tuple") (U := "int") (by decide) ⟨_, ho, rfl⟩ (fun s' => typeIs_int s' 1 t) noFill_tuple_mul F.fills_int_mul F.slot_int_rmul repeat_tuple F.slot_int_index.lookup
    (call_meets F.slot_int_rmul (typeIs_int s 1 t) F.entry_int_rmul (F.args_int_rmul_2 _ _) (int_rmul_tuple 1 t l its.toArray n dd sl)
      ⟨ho, rfl, ⟨_, ho, rfl⟩, call_meets F.slot_tuple_mul ⟨_, ho, rfl⟩ F.entry_tuple_mul (F.args_tuple_mul_2 _ _) (tuple_mul1 l its.toArray n dd sl t) ⟨ho, ?_⟩⟩)
  exact ⟨.ref l, H, I, rfl, q⟩
theorem op_repLA : OpR X (binaryOp .Mult) (rRepLA X.K) := by
  intro pins s σ H x y v u Q I rx ry h
  obtain ⟨l, k, xs, rfl, rfl, hL, h1, h2, hz, q⟩ := h
  cases rx
  obtain ⟨t, rfl⟩ := ry
  obtain ⟨its, r, ⟨⟨c1, d1, w1, s1⟩, n, ho, e1, e2, e3⟩, _⟩ := I.list hL
  simp only at e1 e2 e3
  subst e1 e2 e3
  have hl : its.length = xs.length := r.length.symm
  have hlen : its.toArray.size * k.toNat ≤ sizeLine := by rw [List.size_toArray, hl]; exact hz
  have hcap : ¬ its.toArray.size * k.toNat > (2 ^ 63 - 1) / 8 := by
    have : (sizeLine : Nat) ≤ (2 ^ 63 - 1) / 8 := by decide
    omega
  have hfit : ¬ (!Builtin.List.listFitsIndex k) = true := by
    rw [fitsIndex_both h1 h2]
    exact Bool.false_ne_true
  have hlong : ¬ Builtin.List.listTooLong (its.toArray.size * k.toNat) = true := by
    rw [notLongL hlen]
    exact Bool.false_ne_true
  have hnew : List.foldl (fun x1 x2 => x1 ++ x2) #[] (List.replicate (if its.toArray.isEmpty = true then 0 else k.toNat) its.toArray) = (List.replicate k.toNat its).flatten.toArray := by
    rw [size_rep]
    cases its with
    | nil => simp
    | cons a r' => rw [if_neg (by simp)]
  refine wpAny_binaryOp_repeat_ref (T := "list") (U := "int") (by decide) ⟨_, ho, rfl⟩ (fun s' => typeIs_int s' k t) noFill_list_mul F.fills_int_mul F.slot_int_rmul repeat_list F.slot_int_index.lookup
    (call_meets F.slot_int_rmul (typeIs_int s k t) F.entry_int_rmul (F.args_int_rmul_2 _ _) (lm_int_rmul_list_any k t l its.toArray n none s1)
      ⟨ho, rfl, ⟨_, ho, rfl⟩, call_meets F.slot_list_mul ⟨_, ho, rfl⟩ F.entry_list_mul (F.args_list_mul_2 _ _) (lm_list_mul_any l its.toArray n none s1 k t hfit hcap hlong) ⟨ho, ?_⟩⟩)
  rw [hnew]
  exact ⟨.ref _, _, I.lnew (t' := s.toks) (r.rep k.toNat) (by rw [PyProof.Rows.lm_len_rep_flat, Nat.mul_comm]; exact hz), rfl, q _ I.fresh⟩
def gMulX : D → D → Option D
  | .tuple xs, .int k => if k = 1 then some (.tuple xs) else gMul (.tuple xs) (.int k)
  | .list xs, .int k => if 0 ≤ k ∧ k ≤ 1000 ∧ xs.length ≤ 1000 then some (.list (List.replicate k.toNat xs).flatten) else none
  | x, y => gMul x y
def rMulX (K : PySem.W.Frag) : R2 := opOr (rMulA K) (opOr (rRep1 K) (rRepLA K))
theorem op_mulX : OpR X (binaryOp .Mult) (rMulX X.K) := or_op op_mulA (or_op op_rep1 op_repLA)
theorem rd_mulX : R2D K (rMulX K.f) gMulX := by
  intro L H x y dx dy d Q tr hx hy hg k
  unfold gMulX at hg
  split at hg
  · split at hg
    · cases hg
      rename_i xs kk hz
      obtain ⟨a, vs, rfl, h1, h2⟩ := rp_tuple hx
      refine .inr (.inl ⟨a, vs, rfl, by rw [rp_int hy, hz], h1, k _ _ (Ex.refl _) hx⟩)
    · exact .inl (rd_mul L H x y _ _ d Q tr hx hy hg k)
  · split at hg
    · cases hg
      rename_i xs kk hz
      obtain ⟨a, vs, rfl, h1, h2⟩ := rp_list hx
      have e1 := dpa_len h2
      refine .inr (.inr ⟨a, kk, vs, rfl, rp_int hy, h1, by omega, by omega, ?_, fun p hp => k _ _ (Ex.new hp) (new_lst tr hp (rp_rep h2 _))⟩)
      rw [sizeLine_eq]
      have a1 : vs.length * kk.toNat ≤ 1000 * 1000 := Nat.mul_le_mul (by omega) (by omega)
      omega
    · cases hg
  · exact .inl (rd_mul L H x y _ _ d Q tr hx hy hg k)
end
end PD
namespace PD
open PySem L2 PyProof.Rows PySem.Spec
def lamE (p : Program) (path : List Nat) : Expr := (lamAt p path).getD default
def eArgs : Expr → Arguments
  | .Lambda a _ _ _ => a
  | _ => ⟨[], [], none, [], [], none, []⟩
def eBody : Expr → Expr
  | .Lambda _ b _ _ => b
  | e => e
def eScope : Expr → Scope
  | .Lambda _ _ s _ => s
  | _ => default
def ePos : Expr → Pos
  | .Lambda _ _ _ p => p
  | _ => ⟨0, 0, 0, 0⟩
end PD
namespace PD
open PySem L2 PyProof.Rows PySem.Spec
section
variable {X : Cx} {M : Mk0} {ss : List Stmt} {e : Expr} {W : WX}
theorem pds_any : PDs X M ss fsNever := ⟨⟨fun pins s σ H D I ⟨_, _, _, _, _, k⟩ => False.elim k⟩, fun _ _ _ _ q => q⟩
end
end PD
namespace PD
open PySem L2 PyProof.Rows PySem.Spec
open Evl (Ex)
section
variable {X : Cx}
def rSortK (K : Fr0) : List V → Hp → VK → Prop := fun xs H Q => ∃ (d : Addr) (o : Obj) (kvs : List (Key × V)) (ks : List Int), xs = [.ref d] ∧ H d = some (KdO K.w d o kvs) ∧ kk kvs = ks.map V.int ∧ ks.length < 64 ∧
    ∀ (ys : List Int) (p : Addr), ys.Perm ks → ys.Pairwise (· ≤ ·) → H p = none → Q (.ref p) (upd H p (.lst (ys.map V.int)))
theorem call_sortedK (hcalm : X.calm = true) : CallR X (.builtin "sorted") (rSortK X.k0) := by
  intro pins s σ H xs us Q I r q
  obtain ⟨d, o, kvs, ks, e, hd, hks, h64, q⟩ := q
  subst e
  obtain ⟨u, rfl, ru⟩ := vals1 r
  obtain rfl : u = Value.ref d := ru
  have f := (show ObjOk X.prog X.w H s.heap d (KdO X.w d o kvs) from I.hok d _ hd).1.2
  obtain ⟨es, ep, E⟩ := kd_ent f
  have hz : es.size ≤ sizeLine := by rw [E.lk, List.length_map]; exact f.2.2.1
  refine Calls.call_function_entry PyProof.Rows.kind_sorted PyProof.Rows.plain_sorted PyProof.Rows.entry_sorted (PyProof.Rows.args_sorted1 _) ?_
  unfold Builtin.«sorted»
  refine wpAny_bind (m := checkCount "sorted" 1 1 _) (wpAny_pure ?_)
  refine wpAny_bind (PySem.W.kdu_collect (A := X.A.in1) (PySem.KdlSrc.rawDict E.sys) (I.ok.hd hcalm) (E.raw I.hok hd) hz fun h' tk acc hk hacc => ?_)
  have hv : Vals (kk kvs) acc.toList := ent_len E hacc
  rw [hks] at hv
  have hal : acc.toList.length = ks.length := by rw [← hv.length, List.length_map]
  have hS : IntsAre acc.toList ks := ints_of_vals hv
  have I1 : Inv X pins σ H { s with heap := h', toks := tk } := I.kept hk
  refine wpAny_bind (wpAny_newList ?_ (by rw [hal, sizeLine_eq]; omega))
  have hoL : (h'.push (seqObj "list" acc.toList.toArray 0)).get? h'.objs.size = some (seqObj "list" acc.toList.toArray 0) := Heap.get?_push_size _ rfl
  show wpAny _ _ _ _ _ { s with heap := h'.push (seqObj "list" acc.toList.toArray 0), toks := tk }
  refine wpAny_bind (wpAny_holding (wpAny_call_entry PyProof.Rows.slot_list_sort ⟨_, hoL, rfl⟩ PyProof.Rows.entry_list_sort
    (PyProof.Rows.list_sort_tree (s := { s with heap := h'.push (seqObj "list" acc.toList.toArray 0), toks := tk }) hoL hS (by rw [hal]; exact h64) fun out ys g1 g2 g3 => ⟨_, rfl, ?_⟩) (PyProof.Rows.args_list_sort _)))
  obtain ⟨e', he'⟩ := PyProof.Rows.sortedHeap_at (vs := acc.toList) (out := out) hoL
  have hlen : (ys.map V.int).length ≤ sizeLine := by
    rw [List.length_map, g2.length_eq]
    exact Nat.le_trans (Nat.le_of_lt h64) (by decide)
  refine wpAny_pure ⟨_, rfl, .ref h'.objs.size, upd H h'.objs.size (.lst (ys.map V.int)), I1.laid (t' := tk) (fun b u e => ?_) (Nat.le_refl _)
    (show ObjOk X.prog X.w _ _ _ (.lst (ys.map V.int)) from ⟨hlen, out.toList, e', vals_of_ints g1, by rw [Array.toArray_toList]; exact he'⟩), rfl, q ys _ g2 g3 (I1.hok.fresh (Nat.le_refl _))⟩
  have hb : b < h'.objs.size := Heap.lt_size e
  rw [PyProof.Rows.sortedHeap_old (Nat.ne_of_lt hb) (by rw [size_push']; exact Nat.lt_succ_of_lt hb)]
  exact Heap.get?_push_of_some _ e
end
theorem call_sortedX {X : Cx} (hc : X.calm = true) : CallR X (.builtin "sorted") (fun xs H Q => rSortedI X.K xs H Q ∨ rSortK X.k0 xs H Q) := by
  intro pins s σ H xs us Q I r h
  rcases h with h | h
  · exact cr_sortedI pins s σ H xs us Q I r h
  · exact call_sortedK hc pins s σ H xs us Q I r h
def nSortedX : D → Option (List D)
  | .dict ps => match intsD (dKeys ps) with
    | some ns => if keysOk ps = true ∧ ns ≠ [] ∧ ns.length < 64 then some ((isort ns).map .int) else none
    | none => none
  | d => nSorted d
theorem rn_sortedX {K : Fr0} : RN1 K (fun x H Q => rSortedI K.f [x] H Q ∨ rSortK K [x] H Q) nSortedX := by
  intro L H x dx ds Q hx hg k
  cases dx with
  | dict ps =>
    have hg : (match intsD (dKeys ps) with
      | some ns => if keysOk ps = true ∧ ns ≠ [] ∧ ns.length < 64 then some ((isort ns).map .int) else none
      | none => none) = some ds := hg
    cases e : intsD (dKeys ps) with
    | none => rw [e] at hg; cases hg
    | some ns =>
      rw [e] at hg
      have hg : (if keysOk ps = true ∧ ns ≠ [] ∧ ns.length < 64 then some ((isort ns).map PyData.int) else none) = some ds := hg
      split at hg
      · rename_i hk
        cases hg
        obtain ⟨b, rfl, q⟩ := dict_ents hx hk.1
        rw [intsD_eq e] at q
        rcases q with ⟨o, zs, h1, h2⟩ | ⟨o, zs, h1, h2⟩
        · have h3 := dpa_ints_eq h2
          obtain ⟨n, ns', rfl⟩ : ∃ n ns', ns = n :: ns' := by
            cases ns with
            | nil => exact absurd rfl hk.2.1
            | cons n ns' => exact ⟨n, ns', rfl⟩
          cases zs with
          | nil => cases h3
          | cons z zs => cases h3
        · have h3 := dpa_ints_eq h2
          refine .inr ⟨b, o, zs, ns, rfl, (hide_some.mp h1).2, h3, hk.2.2, fun ys p hp hs hn => ?_⟩
          rw [isort_of hp hs]
          exact k p _ hn (dpa_ints _)
      · cases hg
  | list xs => exact .inl (rn_sorted L H x (.list xs) ds Q hx hg k)
  | tuple _ => cases hg
  | none => cases hg
  | bool _ => cases hg
  | int _ => cases hg
  | str _ => cases hg
end PD
namespace K09
open PySem L2 PyProof.Rows PySem.Spec PD GM GP GA
open Evl (Ex)
def top (i : Nat) : Stmt := PySem.Challenge.pw_guardkeeps_k09_needs_and_parts_refused.main.body.getD i (.Pass ⟨0, 0, 0, 0⟩)
def nm0 : Nat → Nat → Str := fun l c => match l, c with
  | 329, 13 => "_law_calls.<locals>.<lambda>"
  | 330, 17 => "_law_calls.<locals>.<lambda>"
  | 331, 17 => "_law_calls.<locals>.<lambda>"
  | 332, 17 => "_law_calls.<locals>.<lambda>"
  | 333, 17 => "_law_calls.<locals>.<lambda>"
  | 334, 17 => "_law_calls.<locals>.<lambda>"
  | 344, 72 => "law.<locals>.<lambda>"
  | 357, 24 => "law.<locals>.<lambda>"
  | _, _ => ""
abbrev MM (TT : List Addr) : Mk0 := MAt TT nm0
structure Txt (mg : Str → Option Value) : Prop where
  ValueError : mg "ValueError" = none
  all : mg "all" = none
  any : mg "any" = none
  bool : mg "bool" = none
  c_MOST_AHEAD : ∃ t, mg "MOST_AHEAD" = some (.int 2 t)
  c_MOST_DEEDS : ∃ t, mg "MOST_DEEDS" = some (.int 4 t)
  c_MOST_HELD : ∃ t, mg "MOST_HELD" = some (.int 3 t)
  c_MOST_STATES : ∃ t, mg "MOST_STATES" = some (.int 6 t)
  enumerate : mg "enumerate" = none
  int : mg "int" = none
  isinstance : mg "isinstance" = none
  len : mg "len" = none
  list : mg "list" = none
  min : mg "min" = none
  range : mg "range" = none
  set : mg "set" = none
  sorted : mg "sorted" = none
  tuple : mg "tuple" = none
  zip : mg "zip" = none
section
variable {P : Program} {w : World} {K : PySem.W.Frag} {mg : Str → Option Value} {base : Heap} {TT : List Addr}
abbrev s_law_next : Stmt := top 56
theorem sc_law_next : FnScope ["m", "total", "rest", "k", "cell", "mixed"] ["m", "total"] (defScope s_law_next) := ⟨rfl, rfl, rfl, by decide +kernel, rfl, by decide +kernel, by decide +kernel⟩
theorem ok_law_next {f : Addr} {fd : FuncData} (F : Fun K "_law_next" "_law_next" s_law_next f fd) (T : Txt mg) : FnG P w K mg base (L2.CX P w) 1 f fd ["m", "total"] (spD ⟨K, w, P⟩ (MM TT) 2 W_nextA) := by
  refine fnG_of F sc_law_next (fun vs H Q E h => spD_len vs H Q E h) fun cdv A outer s H vs Q E hgd hr ⟨P', F', L, ρ, r, hb, hl, hw⟩ => ?_
  have nd := sc_law_next.nd
  have hu : (A.deeper (envOfC "_law_next" (defScope s_law_next) s.heap.objs.size f cdv)).units + 64 < cLine := hr.units
  have hu1 : (A.deeper (envOfC "_law_next" (defScope s_law_next) s.heap.objs.size f cdv)).units + 1 < cLine := by omega
  refine ⟨_, PSs.nox (C8.pss_cut (ps_while PassesOwn.never (PW.pt (pw_and (pt_cmpR (op_neD hu) (pe_dget hu1 (pv 0) pe_str (fun _ _ => rfl)) (pe_lst pa_nil) (nomark _)) (pw_and1 (pt_cmpR op_eq (pe_ix ix_list (pe_dget hu1 (pv 0) pe_str (fun _ _ => rfl)) pe_int (fun _ _ => rfl)) pe_int (nomark _)))))
      (pss_one (ps_dput hu1 (pv 0) pe_str (pe_slice sl_list (pe_dget hu1 (pv 0) pe_str (fun _ _ => rfl)) (po_some pe_int) po_none) rfl)))
    (pss_cons (ps_if (pt_cmpR (op_neD hu) (pe_dget hu1 (pv 0) pe_str (fun _ _ => rfl)) (pe_lst pa_nil) (nomark _))
      (pss_cons (ps_set (i := 2) nd rfl (Or.inl rfl) (pe_callTy call_int1 (by rfl) T.int (by decide +kernel) (pa_cons (pe_ix ix_list (pe_dget hu1 (pv 0) pe_str (fun _ _ => rfl)) pe_int (fun _ _ => rfl)) pa_nil) (by decide) (by decide)))
      (pss_cons (ps_asg (pe_op op_fdiv (pv 2) (pv 1)) (pg_sub (pe_dget hu1 (pv 0) pe_str (fun _ _ => rfl)) pe_int set_list))
      (pss_one (ps_ret (pe_op op_mod (pv 2) (pv 1))))))
      pss_nil)
    (pss_cons (ps_set (i := 3) nd rfl (Or.inl rfl) (pe_op op_add (pe_dget hu1 (pv 0) pe_str (fun _ _ => rfl)) pe_int))
    (pss_cons (ps_dput hu1 (pv 0) pe_str (pv 3) rfl)
    (C8.pss_cut (ps_set (i := 4) nd rfl (Or.inl rfl) (pe_ifExp (pt_cmpR (op_neD hu) (pe_dget hu1 (pv 0) pe_str (fun _ _ => rfl)) (pe_lst pa_nil) (nomark _)) (pe_ix ix_list (pe_dget hu1 (pv 0) pe_str (fun _ _ => rfl)) (pe_op op_mod (pe_callTy call_int1 (by rfl) T.int (by decide +kernel) (pa_cons (pv 3) pa_nil) (by decide) (by decide)) (pe_callB call_len_seq (by rfl) T.len (by decide +kernel) (pa_cons (pe_dget hu1 (pv 0) pe_str (fun _ _ => rfl)) pa_nil) (by decide) (by decide))) (fun _ _ => rfl)) pe_int))
    (pss_cons (ps_set (i := 5) nd rfl (Or.inl rfl) (pe_op op_mul (pe_callTy call_int1 (by rfl) T.int (by decide +kernel) (pa_cons (pe_op op_add (pe_op op_add (pe_op op_mod (pe_callTy call_int1 (by rfl) T.int (by decide +kernel) (pa_cons (pv 4) pa_nil) (by decide) (by decide)) pe_int) (pe_op op_mul pe_int (pv 3))) (pe_op op_mul (pe_op op_mul pe_int (pv 3)) (pv 3))) pa_nil) (by decide) (by decide)) pe_int))
    (pss_cons (ps_set (i := 5) nd rfl (Or.inl rfl) (pe_op op_mul (pe_callTy call_int1 (by rfl) T.int (by decide +kernel) (pa_cons (pe_op op_add (pe_op op_mod (pe_callTy call_int1 (by rfl) T.int (by decide +kernel) (pa_cons (pv 5) pa_nil) (by decide) (by decide)) pe_int) (pe_op op_mul pe_int (pv 3))) pa_nil) (by decide) (by decide)) pe_int))
    (pss_one (ps_ret (pe_op op_mod (pe_callTy call_int1 (by rfl) T.int (by decide +kernel) (pa_cons (pe_op op_fdiv (pe_op op_mod (pe_callTy call_int1 (by rfl) T.int (by decide +kernel) (pa_cons (pv 5) pa_nil) (by decide) (by decide)) pe_int) pe_int) pa_nil) (by decide) (by decide)) (pv 1))))))))))), ?_⟩
  obtain ⟨t, e0, ht, ht2, hn, hk⟩ := hw
  obtain ⟨sl, n⟩ := ρ
  simp only at e0
  subst e0
  obtain ⟨p, eP, e1⟩ := r.getSt (i := 0) rfl
  subst eP
  obtain ⟨c, l0, cs, ls0, k0, eA, ncl, hp, hc, hl0, hk0, hkn, hc63, hl63⟩ : ∃ (c l0 : Addr) (cs ls0 : List Int) (k0 : Int), ((∀ a ∈ [p, c, l0], a ∈ L ∧ F' a = none) ∧ ∀ (i : Nat) (xs : Ow) (l : Addr), ([.st, .d (.int t)] : List Sl)[i]? = some (.own xs) → (vs.map some)[i]? = some (some (.ref l)) → l ∉ [p, c, l0]) ∧ c ≠ l0 ∧ H p = some (.dK (kvA c l0 k0)) ∧ H c = some (.lst (cs.map V.int)) ∧ H l0 = some (.lst (ls0.map V.int)) ∧ 0 ≤ k0 ∧ k0 ≤ n ∧ cs.length ≤ 63 ∧ ls0.length ≤ 63 := by
    obtain ⟨A, ⟨c, l, cs, ls, k, eA, n1, h1, h2, h3, a, b, r1, r2⟩, g1, g2⟩ := r.m p rfl
    subst eA
    exact ⟨c, l, cs, ls, k, ⟨g1, g2⟩, n1, h1, h2, h3, a, b, r1, r2⟩
  have hlen : vs.length = 2 := by have := r.len; simpa using this
  obtain ⟨v1, v2, rfl⟩ : ∃ v1 v2, vs = [v1, v2] := by
    match vs, hlen with
    | [a, b], _ => exact ⟨a, b, rfl⟩
  obtain rfl : v1 = .ref p := by simpa using e1
  obtain ⟨v3, e2, e3⟩ := r.sl 1 (.d (.int t)) (some v2) rfl rfl
  obtain rfl := Option.some.inj e2
  obtain rfl := rp_int e3
  have nl0p : l0 ≠ p := fun e => by rw [e, hp] at hl0; cases hl0
  have SA0 : SA H p c l0 cs l0 ls0 k0 H := ⟨hp, hc, hl0, ncl, .inl rfl, fun a o h _ _ => h, ⟨_, hl0⟩, ncl, hl63⟩
  refine ⟨fun σ H1 => σ = [some (.ref p), some (.int t), none, none, none, none] ∧ ∃ l ls, SA H p c l0 cs l ls k0 H1, ?_, ?_⟩
  · -- the loop
    refine ⟨fun m σ H1 => σ = [some (.ref p), some (.int t), none, none, none, none] ∧ ∃ l ls, ls.length = m ∧ SA H p c l0 cs l ls k0 H1, ⟨_, rfl, l0, ls0, rfl, SA0⟩, ?_⟩
    rintro m σ H1 ⟨rfl, l, ls, hm, S⟩
    refine t_neNil w rfl S.hp kvA_left S.hl fun t1 ht1 => ?_
    have S1 := S.new (o := HO.lst []) ht1
    cases ls with
    | nil => exact ⟨rfl, l, [], S1⟩
    | cons x xs =>
      refine iteT (t_get rfl S1.hp kvA_left ⟨l, _, 0, .int x, rfl, rfl, .inl (.inl S1.hl), at0, rfl, _, rfl, ?_⟩)
      by_cases hx : x = 0
      · subst hx
        rw [decide_eq_true rfl]
        refine iteT ⟨fun σ H1 => σ = [some (.ref p), some (.int t), none, none, none, none] ∧ ∃ l, SA H p c l0 cs l xs k0 H1, ?_, ?_⟩
        · rintro σ' H' ⟨rfl, l', S'⟩
          exact ⟨xs.length, by rw [← hm]; exact Nat.lt_succ_self _, rfl, l', xs, rfl, S'⟩
        · refine t_get rfl S1.hp kvA_left ⟨1, rfl, l, _, rfl, .inl (.inl S1.hl), fun t2 ht2' => ?_⟩
          have S2 := S1.new (o := HO.lst (cutV (((0 : Int) :: xs).map V.int) (some 1) none)) ht2'
          refine ⟨_, rfl, ?_⟩
          have hput := DPut.k (k := (.inr "left" : Key)) (v := .ref t2) S2.hp (by show 3 < sizeLine; rw [sizeLine_eq]; omega)
          rw [kvA_pleft] at hput
          refine ⟨p, _, rfl, hput, rfl, t2, ?_⟩
          have ntp : t2 ≠ p := (ne_of_none S1.hp ht2').symm
          have ntc : t2 ≠ c := (ne_of_none S1.hc ht2').symm
          refine ⟨upd_same, by rw [upd_ne S2.np.2.symm]; exact S2.hc, by rw [upd_ne ntp, upd_same]; exact congrArg (fun z => some (HO.lst z)) cut1, ntc.symm, .inr ?_, fun a o h n1 n2 => by rw [upd_ne n1]; exact S2.same a o h n1 n2, ?_, S.cn, by have := S.ln; simp at this; omega⟩
          · cases z : H t2 with
            | none => rfl
            | some o =>
              have := S1.same t2 o z ntp (fun e => by obtain ⟨o', h'⟩ := S1.h0; rw [← e, ht2'] at h'; cases h')
              rw [ht2'] at this
              cases this
          · obtain ⟨o, ho⟩ := S2.h0
            exact ⟨o, by rw [upd_ne nl0p]; exact ho⟩
      · rw [decide_eq_false (fun e => hx (V.int.inj e))]
        exact ⟨rfl, l, _, S1⟩
  · -- behind it
    rintro σ H1 ⟨rfl, l, ls, S⟩
    refine t_neNil w rfl S.hp kvA_left S.hl fun t1 ht1 => ?_
    have S1 := S.new (o := HO.lst []) ht1
    cases ls with
    | cons x xs =>
      refine iteT (t_get rfl S1.hp kvA_left ⟨l, _, 0, .int x, rfl, rfl, .inl (.inl S1.hl), at0, .inl ⟨x, rfl, ?_⟩⟩)
      refine ⟨_, rfl, _, rfl, x, t, rfl, rfl, ⟨ht, ht2⟩, t_get rfl S1.hp kvA_left ⟨l, _, 0, 0, rfl, rfl, S1.hl, by unfold ixN; simp, ?_⟩⟩
      refine ⟨_, rfl, _, rfl, x, t, rfl, rfl, ht, ?_⟩
      have S2 : SA H p c l0 cs l ((x / t) :: xs) k0 (upd (upd H1 t1 (.lst [])) l (.lst (((x :: xs).map V.int).set 0 (.int (x / t))))) :=
        ⟨by rw [upd_ne S1.np.1]; exact S1.hp, by rw [upd_ne S1.ncl]; exact S1.hc, by rw [upd_same]; rfl, S1.ncl, S1.fresh, fun a o h n1 n2 => ?_, ?_, S1.cn, by have := S1.ln; simpa using this⟩
      · exact endA r eA S2 (nt3 hp hc hl0) hc63 hk0 (by show k0 ≤ ((n + 1 : Nat) : Int); omega) ht hk
      · have := S1.same a o h n1 n2
        rw [upd_ne (fun e => by
          rcases S1.fresh with f | f
          · exact n2 (e.trans f)
          · rw [e, f] at h; cases h)]
        exact this
      · by_cases e : l0 = l
        · exact ⟨_, by rw [e]; exact upd_same⟩
        · obtain ⟨o, ho⟩ := S1.h0
          exact ⟨o, by rw [upd_ne e]; exact ho⟩
    | nil =>
      refine iteF ?_
      refine t_get rfl S1.hp kvA_at ⟨_, _, rfl, rfl, ?_⟩
      have hput := DPut.k (k := (.inr "at" : Key)) (v := .int (k0 + 1)) S1.hp (by show 3 < sizeLine; rw [sizeLine_eq]; omega)
      rw [kvA_pat] at hput
      refine ⟨_, rfl, _, rfl, p, _, rfl, hput, ?_⟩
      have S2 : SA H p c l0 cs l [] (k0 + 1) (upd (upd H1 t1 (.lst [])) p (.dK (kvA c l (k0 + 1)))) :=
        ⟨upd_same, by rw [upd_ne S1.np.2.symm]; exact S1.hc, by rw [upd_ne S1.np.1.symm]; exact S1.hl, S1.ncl, S1.fresh, fun a o h n1 n2 => by rw [upd_ne n1]; exact S1.same a o h n1 n2, by
          obtain ⟨o, ho⟩ := S1.h0
          exact ⟨o, by rw [upd_ne nl0p]; exact ho⟩, S1.cn, by simp⟩
      refine ⟨fun σ H1 => ∃ cl : Int, σ = [some (.ref p), some (.int t), none, some (.int (k0 + 1)), some (.int cl), none] ∧ SA H p c l0 cs l [] (k0 + 1) H1, ?_, ?_⟩
      · refine t_neNil w rfl S2.hp kvA_cells S2.hc fun t2 ht2' => ?_
        have S3 := S2.new (o := HO.lst []) ht2'
        by_cases hcs : cs = []
        · rw [decide_eq_true hcs]
          exact iteF ⟨3, rfl, S3⟩
        · rw [decide_eq_false hcs]
          have hpos : 0 < cs.length := List.length_pos_iff.mpr hcs
          have g0 : 0 ≤ (k0 + 1) % (cs.length : Int) := Int.emod_nonneg _ (by omega)
          have g1 : (k0 + 1) % (cs.length : Int) < cs.length := Int.emod_lt_of_pos _ (by omega)
          obtain ⟨j, hj⟩ := Int.eq_ofNat_of_zero_le g0
          have hjl : j < cs.length := by omega
          refine iteT (t_get rfl S3.hp kvA_cells ⟨_, rfl, .inl ⟨_, rfl, t_get rfl S3.hp kvA_cells ⟨c, _, rfl, .inl (.inl (.inl S3.hc)), _, _, rfl, rfl, ?_, ?_⟩⟩⟩)
          · show (0 : Int) < ((cs.map V.int).length : Int)
            rw [List.length_map]
            omega
          · refine ⟨c, _, _, .int cs[j], rfl, rfl, .inl (.inl S3.hc), ?_, cs[j], rfl, S3⟩
            show atI (cs.map V.int) ((k0 + 1) % ((cs.map V.int).length : Int)) = some (V.int cs[j])
            rw [List.length_map, hj]
            exact atI_nat (by rw [List.getElem?_map, List.getElem?_eq_getElem hjl]; rfl)
      · rintro σ H2 ⟨cl, rfl, S⟩
        have hkb : -(2 ^ 64) < k0 + 1 ∧ k0 + 1 < 2 ^ 64 := by
          have hn' : n < 1000000000000 := hn
          constructor
          · have : (0 : Int) ≤ 2 ^ 64 := by decide
            omega
          · have : (1000000000001 : Int) < 2 ^ 64 := by decide
            omega
        refine ⟨_, rfl, .inl ⟨cl, rfl, cl, 2147483629, rfl, rfl, (by decide : (0 : Int) < 2147483629), _, rfl, 7919, k0 + 1, rfl, rfl, .inr hkb, _, _, rfl, rfl, _, rfl, 19, k0 + 1, rfl, rfl, .inr hkb, _, rfl, _, k0 + 1, rfl, rfl, .inr hkb, _, _, rfl, rfl, .inl ⟨_, rfl, ?_⟩⟩⟩
        refine ⟨_, 48271, rfl, rfl, .inr (by decide), ?_⟩
        refine ⟨_, rfl, .inl ⟨_, rfl, _, 2147483647, rfl, rfl, (by decide : (0 : Int) < 2147483647), _, rfl, 104729, k0 + 1, rfl, rfl, .inr hkb, _, _, rfl, rfl, .inl ⟨_, rfl, ?_⟩⟩⟩
        refine ⟨_, 69621, rfl, rfl, .inr (by decide), ?_⟩
        refine ⟨_, rfl, .inl ⟨_, rfl, _, 2147483587, rfl, rfl, (by decide : (0 : Int) < 2147483587), _, 11, rfl, rfl, (by decide : (0 : Int) < 11 ∧ (11 : Int) < 1073741824), .inl ⟨_, rfl, ?_⟩⟩⟩
        refine ⟨_, rfl, _, t, rfl, rfl, ht, ?_⟩
        exact endA r eA S (nt3 hp hc hl0) hc63 (by omega) (by show k0 + 1 ≤ ((n + 1 : Nat) : Int); omega) ht hk
abbrev s_law_begun : Stmt := top 55
theorem sc_law_begun : FnScope ["script", "cell"] ["script"] (defScope s_law_begun) := ⟨rfl, rfl, rfl, by decide +kernel, rfl, by decide +kernel, by decide +kernel⟩
theorem ok_law_begun {f : Addr} {fd : FuncData} (F : Fun K "_law_begun" "_law_begun" s_law_begun f fd) (T : Txt mg) : FnG P w K mg base (L2.CX P w) 1 f fd ["script"] (spB ⟨K, w, P⟩ (MM TT) 1 B_law) := by
  refine fnG_of F sc_law_begun (fun vs H Q E h => h.1) fun cdv A outer s H vs Q E hgd hr ⟨hlen, ds, hd, ⟨ns, e, h63⟩, q⟩ => ?_
  have nd := sc_law_begun.nd
  refine ⟨_, PSs.nox (pss_one (ps_ret (pe_disp (pps_cons pe_str (pe_callTy call_list_of (by rfl) T.list (by decide +kernel) (pa_cons (pv 0) pa_nil) (by decide) (by decide))
    (pps_cons pe_str (pn_lc (M := MA) rfl nd (own := [("cell", 1)]) (vs := [1]) (pdi_seq (pd_var (pv 0))) (blkOk_by (own := [("cell", 1)]) (N := ["script", "cell"]) (sc := defScope s_law_begun) (by decide +kernel)) rfl (fun _ _ _ _ _ => pg1_name (i := 1) (pg_name (i := 1) nd rfl (by first | exact Or.inl rfl | exact Or.inr rfl))) (fun _ _ _ _ _ => ptn_one (pdt_cmp op_ge rd_cmp (pd_var (pv 1)) (pd_op op_pow rd_pow (pd_int) (pd_int)) (by first | exact nomark _ | rfl))) (fun _ _ _ _ _ => pd_var (pv 1)) s).pe
    (pps_cons pe_str pe_int pps_nil))) rfl rfl (by simp) (by decide)))), ?_⟩
  subst e
  cases hd with
  | cons h1 h2 =>
    cases h2
    obtain ⟨a, us, rfl, g1, g2⟩ : ∃ a us, _ = V.ref a ∧ SqL K H a us ∧ RpAll ⟨K, w, P⟩ H us (ns.map .int) := by
      have h3 := h1
      rw [← hide_nil H] at h3
      have := rp_list h3
      rw [hide_nil] at this
      exact this
    have eu := dpa_ints_eq g2
    subst eu
    intro p hp
    have x1 : Ex H (upd H p (.dK [])) := Ex.new hp
    refine ⟨_, rfl, a, _, rfl, .inl (Evl.ex_l x1 g1), fun c hc => ?_⟩
    have x2 := Ex.new (o := HO.lst (ns.map V.int)) hc
    generalize hH2 : upd (upd H p (.dK [])) c (.lst (ns.map V.int)) = H2 at x2
    have d2 : Rp ⟨K, w, P⟩ H2 (.ref a) (.list (ns.map .int)) := dp_ex (x1.trans x2) _ _ h1
    have sg : R ⟨K, w, P⟩ MA none (fun _ => none) [] ⟨[.d (.list (ns.map .int)), .no], 0⟩ [some (.ref a), none] H2 := by
      refine ⟨rfl, fun i s o e1 e2 => ?_, fun a o z => (by cases z), fun a z => absurd z List.not_mem_nil, fun i j xs ys l _ z => ?_, fun i xs l z => ?_, fun q z => (by cases z), fun t z => absurd z List.not_mem_nil⟩
      · match i, e1, e2 with
        | 0, e1, e2 => cases e1; cases e2; exact ⟨_, rfl, by rw [hide_nil]; exact d2⟩
        | 1, e1, e2 => cases e1; trivial
      · match i, z with
        | 0, z => cases z
        | 1, z => cases z
      · match i, z with
        | 0, z => cases z
        | 1, z => cases z
    refine ⟨none, fun _ => none, [], _, sg, ⟨.list (ns.map .int), rfl, ns.map .int, rfl, by rw [List.length_map]; omega, comp_big ns [] _ _ _ _ rfl fun ms hm => ?_⟩⟩
    intro l vs L' H' e3 hF r3 d3
    obtain rfl := dpa_ints_eq d3
    have hl := r3.fr l _ upd_same
    rw [hide_nil] at e3
    have x3 : Ex H2 H' := fun a o ho => (hide_some.mp (e3 a o ho)).2
    have hl2 : H2 l = none := by
      cases z : H2 l with
      | none => rfl
      | some o => exact absurd hl.2 (hide_some.mp (e3 l o z)).1
    have hp2 : H2 p = some (.dK []) := x2 _ _ upd_same
    have hc2 : H2 c = some (.lst (ns.map V.int)) := by rw [← hH2]; exact upd_same
    have npc : p ≠ c := ne_of_none upd_same hc
    have npl : p ≠ l := ne_of_none hp2 hl2
    have ncl : c ≠ l := ne_of_none hc2 hl2
    refine ⟨x3 _ _ hp2, [(.inr "cells", .ref c), (.inr "left", .ref l), (.inr "at", .int 0)], rfl, (by show 3 ≤ 15; omega), ?_⟩
    refine q p [p, c, l] _ (fun b o hb => ?_) (fun b hb => ?_) ⟨c, l, ns, ms, 0, rfl, ncl, upd_same, by rw [upd_ne npc.symm]; exact x3 _ _ hc2, by rw [upd_ne npl.symm]; exact hl.1, Int.le_refl _, by omega, h63, by simpa using Nat.le_trans hm (by simpa using h63)⟩
    · rw [upd_ne (ne_of_none hb hp)]
      exact x3 _ _ (x2 _ _ (x1 _ _ hb))
    · have hz := hb
      rcases List.mem_cons.mp hz with z | hz
      · subst z; exact ⟨hp, _, upd_same⟩
      · have fb : b ≠ p → H2 b = none → H b = none := fun _ h => by
          cases z : H b with
          | none => rfl
          | some o => rw [x2 _ _ (x1 _ _ z)] at h; cases h
        rcases List.mem_cons.mp hz with z | hz
        · subst z
          refine ⟨?_, _, by rw [upd_ne npc.symm]; exact x3 _ _ hc2⟩
          rw [upd_ne npc.symm] at hc
          exact hc
        · rcases List.mem_cons.mp hz with z | hz
          · subst z
            exact ⟨fb npl.symm hl2, _, by rw [upd_ne npl.symm]; exact hl.1⟩
          · cases hz
abbrev W_law_next := W_nextA
abbrev mW_law_next := mW_nextA
abbrev s_both_runs : Stmt := top 52
def W_both_runs : FE := fun _ _ => False
abbrev s_first_kept : Stmt := top 43
def W_first_kept : FE := fun _ _ => False
abbrev s_is_count : Stmt := top 2
theorem sc_is_count : FnScope ["thing"] ["thing"] (defScope s_is_count) := ⟨rfl, rfl, rfl, by decide +kernel, rfl, by decide +kernel, by decide +kernel⟩
theorem raw_is_count {f : Addr} {fd : FuncData} (F : Fun K "is_count" "is_count" s_is_count f fd) (T : Txt mg) : FnG P w K mg base (L2.CX P w) (1) f fd ["thing"] (spD ⟨K, w, P⟩ (MM TT) 1 (fBody 1 w_is_count)) := by
  refine fnD F sc_is_count fun cdv A outer s H E hgd hr => ?_
  have nd := (sc_is_count).nd
  have hu : (A.deeper (envOfC "is_count" (defScope s_is_count) s.heap.objs.size f cdv)).units + 64 < cLine := hr.units
  exact pds_cons (pds_if (PDW.pt (pdw_or (pdt_truth (pd_isiX (T := "bool") (by decide) (by rfl) T.isinstance (pe_tyName (by rfl) T.bool (by decide +kernel)) (pd_var (pv 0)))) (pdw_or1 (pdt_not (pdt_truth (pd_isiX (T := "int") (by decide) (by rfl) T.isinstance (pe_tyName (by rfl) T.int (by decide +kernel)) (pd_var (pv 0)))))))) (pds_one (pds_ret (pd_bl))) (pds_nil))
    (pds_one (pds_ret (pd_cmp op_ge rd_cmp (pd_var (pv 0)) (pd_int) (by first | exact nomark _ | rfl))))
abbrev s_is_integer : Stmt := top 3
theorem sc_is_integer : FnScope ["thing", "least", "most"] ["thing", "least", "most"] (defScope s_is_integer) := ⟨rfl, rfl, rfl, by decide +kernel, rfl, by decide +kernel, by decide +kernel⟩
theorem raw_is_integer {f : Addr} {fd : FuncData} {a_is_count : Addr} {d_is_count : FuncData} (F : Fun K "is_integer" "is_integer" s_is_integer f fd) (T : Txt mg) (g_is_count : mg "is_count" = some (.ref a_is_count)) (G_is_count : FnG P w K mg base (L2.CX P w) 1 a_is_count d_is_count ["thing"] (spD ⟨K, w, P⟩ (MM TT) 1 W_is_count)) (b_is_count : Binds K d_is_count ["thing"] []) (k_is_count : PySem.W.keepIn K (.ref a_is_count) = true) : FnG P w K mg base (L2.CX P w) (2) f fd ["thing", "least", "most"] (spD ⟨K, w, P⟩ (MM TT) 3 (fBody 3 w_is_integer)) := by
  refine fnD F sc_is_integer fun cdv A outer s H E hgd hr => ?_
  have nd := (sc_is_integer).nd
  have hu : (A.deeper (envOfC "is_integer" (defScope s_is_integer) s.heap.objs.size f cdv)).units + 64 < cLine := hr.units
  exact pds_one (pds_ret (pd_and (pd_call mW_is_count (G_is_count.mono (by decide)) hgd hr (by rfl) g_is_count k_is_count b_is_count (pda_d (pdl_cons (pd_var (pv 0)) (pdl_nil)))) (pd_one (pd_chain op_le op_le rd_cmp rd_cmp (pd_var (pv 1)) (pd_var (pv 0)) (pd_var (pv 2))))))
abbrev s_is_triple : Stmt := top 4
theorem sc_is_triple : FnScope ["thing"] ["thing"] (defScope s_is_triple) := ⟨rfl, rfl, rfl, by decide +kernel, rfl, by decide +kernel, by decide +kernel⟩
theorem raw_is_triple {f : Addr} {fd : FuncData} (F : Fun K "is_triple" "is_triple" s_is_triple f fd) (T : Txt mg) : FnG P w K mg base (L2.CX P w) (1) f fd ["thing"] (spD ⟨K, w, P⟩ (MM TT) 1 (fBody 1 w_is_triple)) := by
  refine fnD F sc_is_triple fun cdv A outer s H E hgd hr => ?_
  have nd := (sc_is_triple).nd
  have hu : (A.deeper (envOfC "is_triple" (defScope s_is_triple) s.heap.objs.size f cdv)).units + 64 < cLine := hr.units
  exact pds_one (pds_ret (pd_and (pd_isiX (T := "tuple") (by decide) (by rfl) T.isinstance (pe_tyName (by rfl) T.tuple (by decide +kernel)) (pd_var (pv 0))) (pd_one (pd_cmp (op_eqA hu) rd_eqA (pd_b1 call_lenA r1_len (by rfl) T.len (by decide +kernel) (pd_var (pv 0))) (pd_int) (by first | exact nomark _ | rfl)))))
abbrev s_are_numbers : Stmt := top 5
theorem sc_are_numbers : FnScope ["thing", "many", "one"] ["thing", "many"] (defScope s_are_numbers) := ⟨rfl, rfl, rfl, by decide +kernel, rfl, by decide +kernel, by decide +kernel⟩
theorem raw_are_numbers {f : Addr} {fd : FuncData} {a_is_integer : Addr} {d_is_integer : FuncData} (F : Fun K "are_numbers" "are_numbers" s_are_numbers f fd) (T : Txt mg) (g_is_integer : mg "is_integer" = some (.ref a_is_integer)) (G_is_integer : FnG P w K mg base (L2.CX P w) 2 a_is_integer d_is_integer ["thing", "least", "most"] (spD ⟨K, w, P⟩ (MM TT) 3 W_is_integer)) (b_is_integer : Binds K d_is_integer ["thing", "least", "most"] []) (k_is_integer : PySem.W.keepIn K (.ref a_is_integer) = true) : FnG P w K mg base (L2.CX P w) (3) f fd ["thing", "many"] (spD ⟨K, w, P⟩ (MM TT) 2 (fBody 3 w_are_numbers)) := by
  refine fnD F sc_are_numbers fun cdv A outer s H E hgd hr => ?_
  have nd := (sc_are_numbers).nd
  have hu : (A.deeper (envOfC "are_numbers" (defScope s_are_numbers) s.heap.objs.size f cdv)).units + 64 < cLine := hr.units
  exact pds_cons (pds_if (pdt_not (pdt_truth (pd_isiX (T := "tuple") (by decide) (by rfl) T.isinstance (pe_tyName (by rfl) T.tuple (by decide +kernel)) (pd_var (pv 0))))) (pds_one (pds_ret (pd_bl))) (pds_nil))
    (pds_one (pds_ret (pd_b1 (cr_all rfl) r1_all (by rfl) T.all (by decide +kernel) (pd_ofN (pn_lc rfl nd (own := [("one", 2)]) (vs := [2]) (pdi_seq (pd_var (pv 0))) (blkOk_by (own := [("one", 2)]) (N := ["thing", "many", "one"]) (sc := defScope s_are_numbers) (by decide +kernel)) rfl (fun _ _ _ _ _ => pg1_name (i := 2) (pg_name (i := 2) nd rfl (by first | exact Or.inl rfl | exact Or.inr rfl))) (fun _ _ _ _ _ => ptn_nil) (fun _ _ _ _ _ => pd_call mW_is_integer (G_is_integer.mono (by decide)) hgd hr (by rfl) g_is_integer k_is_integer b_is_integer (pda_d (pdl_cons (pd_var (pv 2)) (pdl_cons (pd_int) (pdl_cons (pd_op op_sub rd_sub (pd_var (pv 1)) (pd_int)) (pdl_nil)))))) s)))))
abbrev s_are_ascending : Stmt := top 6
theorem sc_are_ascending : FnScope ["thing", "many"] ["thing", "many"] (defScope s_are_ascending) := ⟨rfl, rfl, rfl, by decide +kernel, rfl, by decide +kernel, by decide +kernel⟩
theorem raw_are_ascending {f : Addr} {fd : FuncData} {a_are_numbers : Addr} {d_are_numbers : FuncData} {a_are_rising : Addr} {d_are_rising : FuncData} (F : Fun K "are_ascending" "are_ascending" s_are_ascending f fd) (T : Txt mg) (g_are_numbers : mg "are_numbers" = some (.ref a_are_numbers)) (g_are_rising : mg "are_rising" = some (.ref a_are_rising)) (G_are_numbers : FnG P w K mg base (L2.CX P w) 3 a_are_numbers d_are_numbers ["thing", "many"] (spD ⟨K, w, P⟩ (MM TT) 2 W_are_numbers)) (b_are_numbers : Binds K d_are_numbers ["thing", "many"] []) (k_are_numbers : PySem.W.keepIn K (.ref a_are_numbers) = true) (G_are_rising : FnG P w K mg base (L2.CX P w) 1 a_are_rising d_are_rising ["things"] (spD ⟨K, w, P⟩ (MM TT) 1 W_are_rising)) (b_are_rising : Binds K d_are_rising ["things"] []) (k_are_rising : PySem.W.keepIn K (.ref a_are_rising) = true) : FnG P w K mg base (L2.CX P w) (4) f fd ["thing", "many"] (spD ⟨K, w, P⟩ (MM TT) 2 (fBody 2 w_are_ascending)) := by
  refine fnD F sc_are_ascending fun cdv A outer s H E hgd hr => ?_
  have nd := (sc_are_ascending).nd
  have hu : (A.deeper (envOfC "are_ascending" (defScope s_are_ascending) s.heap.objs.size f cdv)).units + 64 < cLine := hr.units
  exact pds_cons (pds_if (pdt_not (pdt_truth (pd_call mW_are_numbers (G_are_numbers.mono (by decide)) hgd hr (by rfl) g_are_numbers k_are_numbers b_are_numbers (pda_d (pdl_cons (pd_var (pv 0)) (pdl_cons (pd_var (pv 1)) (pdl_nil))))))) (pds_one (pds_ret (pd_bl))) (pds_nil))
    (pds_one (pds_ret (pd_call mW_are_rising (G_are_rising.mono (by decide)) hgd hr (by rfl) g_are_rising k_are_rising b_are_rising (pda_d (pdl_cons (pd_var (pv 0)) (pdl_nil))))))
abbrev s_are_rising : Stmt := top 7
theorem sc_are_rising : FnScope ["things", "low", "high"] ["things"] (defScope s_are_rising) := ⟨rfl, rfl, rfl, by decide +kernel, rfl, by decide +kernel, by decide +kernel⟩
theorem raw_are_rising {f : Addr} {fd : FuncData} (F : Fun K "are_rising" "are_rising" s_are_rising f fd) (T : Txt mg) : FnG P w K mg base (L2.CX P w) (1) f fd ["things"] (spD ⟨K, w, P⟩ (MM TT) 1 (fBody 3 w_are_rising)) := by
  refine fnD F sc_are_rising fun cdv A outer s H E hgd hr => ?_
  have nd := (sc_are_rising).nd
  have hu : (A.deeper (envOfC "are_rising" (defScope s_are_rising) s.heap.objs.size f cdv)).units + 64 < cLine := hr.units
  exact pds_one (pds_ret (pd_b1 (cr_all rfl) r1_all (by rfl) T.all (by decide +kernel) (pd_ofN (pn_lc rfl nd (own := [("low", 1), ("high", 2)]) (vs := [1, 2]) (pdi_zip (by rfl) T.zip (pdl_cons (pd_var (pv 0)) (pdl_cons (pd_slice (pd_var (pv 0)) (pdo_some (pd_int)) (pdo_none)) (pdl_nil)))) (blkOk_by (own := [("low", 1), ("high", 2)]) (N := ["things", "low", "high"]) (sc := defScope s_are_rising) (by decide +kernel)) rfl (fun _ _ _ _ _ => pg1_tup (pgn_cons (pg1_name (i := 1) (pg_name (i := 1) nd rfl (by first | exact Or.inl rfl | exact Or.inr rfl))) (pgn_cons (pg1_name (i := 2) (pg_name (i := 2) nd rfl (by first | exact Or.inl rfl | exact Or.inr rfl))) (pgn_nil) (pgs_cons (pg1_name (i := 2) (pg_name (i := 2) nd rfl (by first | exact Or.inl rfl | exact Or.inr rfl))).pg (pgn_nil).pg)) (pgs_cons (pg1_name (i := 1) (pg_name (i := 1) nd rfl (by first | exact Or.inl rfl | exact Or.inr rfl))).pg (pgn_cons (pg1_name (i := 2) (pg_name (i := 2) nd rfl (by first | exact Or.inl rfl | exact Or.inr rfl))) (pgn_nil) (pgs_cons (pg1_name (i := 2) (pg_name (i := 2) nd rfl (by first | exact Or.inl rfl | exact Or.inr rfl))).pg (pgn_nil).pg)).pg)) (pg_tup rfl (pgn_cons (pg1_name (i := 1) (pg_name (i := 1) nd rfl (by first | exact Or.inl rfl | exact Or.inr rfl))) (pgn_cons (pg1_name (i := 2) (pg_name (i := 2) nd rfl (by first | exact Or.inl rfl | exact Or.inr rfl))) (pgn_nil) (pgs_cons (pg1_name (i := 2) (pg_name (i := 2) nd rfl (by first | exact Or.inl rfl | exact Or.inr rfl))).pg (pgn_nil).pg)) (pgs_cons (pg1_name (i := 1) (pg_name (i := 1) nd rfl (by first | exact Or.inl rfl | exact Or.inr rfl))).pg (pgn_cons (pg1_name (i := 2) (pg_name (i := 2) nd rfl (by first | exact Or.inl rfl | exact Or.inr rfl))) (pgn_nil) (pgs_cons (pg1_name (i := 2) (pg_name (i := 2) nd rfl (by first | exact Or.inl rfl | exact Or.inr rfl))).pg (pgn_nil).pg)).pg)).pg)) (fun _ _ _ _ _ => ptn_nil) (fun _ _ _ _ _ => pd_cmp op_lt rd_cmp (pd_var (pv 1)) (pd_var (pv 2)) (by first | exact nomark _ | rfl)) s))))
def intOfD : D → Int
  | .int x => x
  | _ => 0
def lenD : D → Nat
  | .tuple xs => xs.length
  | _ => 0
def wishErr3 (q T G : D) : Option Str :=
  if intB q 1 4 = true then (if stepsB T (intOfD q) = true then (if ascB G (lenD T) = true ∧ (0 : Int) ∈ intsOfD G then none else some "good") else some "steps") else some "deeds"
def wishErr : D → Option Str
  | .tuple [q, T, G] => wishErr3 q T G
  | _ => some "form"
def okW : D → Prop
  | .tuple [q, T, G] => noInst q = true ∧ okD2 T ∧ okD G
  | d => noInst d = true
theorem okW_no {d : D} (h : okW d) : noInst d = true := by
  cases d <;> first | rfl | exact h
theorem is3_cases (d : D) : is3B d = false ∨ ∃ a b c, d = .tuple [a, b, c] := by
  cases d with
  | tuple xs =>
    match xs with
    | [] => exact .inl rfl
    | [_] => exact .inl rfl
    | [_, _] => exact .inl rfl
    | [a, b, c] => exact .inr ⟨a, b, c, rfl⟩
    | _ :: _ :: _ :: _ :: _ => exact .inl rfl
  | none => exact .inl rfl
  | bool _ => exact .inl rfl
  | int _ => exact .inl rfl
  | str _ => exact .inl rfl
  | list _ => exact .inl rfl
  | dict _ => exact .inl rfl
theorem wishErr_form {d : D} (h : is3B d = false) : wishErr d = some "form" := by
  rcases is3_cases d with _ | ⟨a, b, c, rfl⟩
  · unfold wishErr
    split
    · cases h
    · rfl
  · cases h
def bw (C : Addr) (p : Str) (k : XC) (ρ : Rho) : Prop := k (.ref C) [(.str "part", .str p)] ρ
def U_need_wish (C_BadWish : Addr) : FX := fun ρ k => ∃ d p, ρ.sl = [.d d] ∧ okW d ∧ wishErr d = some p ∧ bw C_BadWish p k ρ
theorem mU_need_wish (C_BadWish : Addr) (ρ : Rho) (k k' : XC) (hM : ∀ c fl ρ', k c fl ρ' → k' c fl ρ') (z : U_need_wish C_BadWish ρ k) : U_need_wish C_BadWish ρ k' := by
  obtain ⟨d, p, e1, e2, e3, e4⟩ := z
  exact ⟨d, p, e1, e2, e3, hM _ _ _ e4⟩
abbrev s_need_wish : Stmt := top 20
theorem sc_need_wish : FnScope ["thing", "deeds", "steps", "good"] ["thing"] (defScope s_need_wish) := ⟨rfl, rfl, rfl, by decide +kernel, rfl, by decide +kernel, by decide +kernel⟩
def w_need_wish : FS := fsSeq (fsIf (ftNot (ftT (fCall 1 W_is_triple (faD (flCons (fVar 0) (flNil)))))) (fsNever) (fsNext))
  (fsSeq (fsAsg (fVar 0) (fgTup 3 (fgCons (fgN 1) (fgCons (fgN 2) (fgCons (fgN 3) (fgNil))))))
  (fsSeq (fsIf (ftNot (ftT (fCall 3 W_is_integer (faD (flCons (fVar 1) (flCons (fC (.int 1)) (flCons (fC (.int 4)) (flNil)))))))) (fsNever) (fsNext))
  (fsSeq (fsIf (ftNot (ftT (fCall 2 W_are_steps (faD (flCons (fVar 2) (flCons (fVar 1) (flNil))))))) (fsNever) (fsNext))
  (fsSeq (fsIf (ftOr (ftNot (ftT (fCall 2 W_are_ascending (faD (flCons (fVar 3) (flCons (fUn gLen (fVar 2)) (flNil))))))) (ftB (fOp gNotIn (fC (.int 0)) (fVar 3)))) (fsNever) (fsNext))
  (fsRet (fVar 0))))))
def u_need_wish (C_BadWish : Addr) : FX := fxOr (fxIf (ftNot (ftT (fCall 1 W_is_triple (faD (flCons (fVar 0) (flNil)))))) (fxRaise (.ref C_BadWish) (some "part") (fC (.str "form"))) (fxNo)) (fxThen (fsIf (ftNot (ftT (fCall 1 W_is_triple (faD (flCons (fVar 0) (flNil)))))) (fsNever) (fsNext)) (fxThen (fsAsg (fVar 0) (fgTup 3 (fgCons (fgN 1) (fgCons (fgN 2) (fgCons (fgN 3) (fgNil)))))) (fxOr (fxIf (ftNot (ftT (fCall 3 W_is_integer (faD (flCons (fVar 1) (flCons (fC (.int 1)) (flCons (fC (.int 4)) (flNil)))))))) (fxRaise (.ref C_BadWish) (some "part") (fC (.str "deeds"))) (fxNo)) (fxThen (fsIf (ftNot (ftT (fCall 3 W_is_integer (faD (flCons (fVar 1) (flCons (fC (.int 1)) (flCons (fC (.int 4)) (flNil)))))))) (fsNever) (fsNext)) (fxOr (fxIf (ftNot (ftT (fCall 2 W_are_steps (faD (flCons (fVar 2) (flCons (fVar 1) (flNil))))))) (fxRaise (.ref C_BadWish) (some "part") (fC (.str "steps"))) (fxNo)) (fxThen (fsIf (ftNot (ftT (fCall 2 W_are_steps (faD (flCons (fVar 2) (flCons (fVar 1) (flNil))))))) (fsNever) (fsNext)) (fxIf (ftOr (ftNot (ftT (fCall 2 W_are_ascending (faD (flCons (fVar 3) (flCons (fUn gLen (fVar 2)) (flNil))))))) (ftB (fOp gNotIn (fC (.int 0)) (fVar 3)))) (fxRaise (.ref C_BadWish) (some "part") (fC (.str "good"))) (fxNo))))))))
theorem raw_need_wish {f : Addr} {fd : FuncData} {a_is_integer : Addr} {d_is_integer : FuncData} {a_is_triple : Addr} {d_is_triple : FuncData} {a_are_ascending : Addr} {d_are_ascending : FuncData} {a_are_steps : Addr} {d_are_steps : FuncData} {C_BadWish : Addr} {I_BadWish : Addr} {D_BadWish : FuncData} (F : Fun K "need_wish" "need_wish" s_need_wish f fd) (T : Txt mg) (g_is_integer : mg "is_integer" = some (.ref a_is_integer)) (g_is_triple : mg "is_triple" = some (.ref a_is_triple)) (g_are_ascending : mg "are_ascending" = some (.ref a_are_ascending)) (g_are_steps : mg "_are_steps" = some (.ref a_are_steps)) (m_BadWish : mg "BadWish" = some (.ref C_BadWish)) (G_is_integer : FnG P w K mg base (L2.CX P w) 2 a_is_integer d_is_integer ["thing", "least", "most"] (spD ⟨K, w, P⟩ (MM TT) 3 W_is_integer)) (b_is_integer : Binds K d_is_integer ["thing", "least", "most"] []) (k_is_integer : PySem.W.keepIn K (.ref a_is_integer) = true) (G_is_triple : FnG P w K mg base (L2.CX P w) 1 a_is_triple d_is_triple ["thing"] (spD ⟨K, w, P⟩ (MM TT) 1 W_is_triple)) (b_is_triple : Binds K d_is_triple ["thing"] []) (k_is_triple : PySem.W.keepIn K (.ref a_is_triple) = true) (G_are_ascending : FnG P w K mg base (L2.CX P w) 4 a_are_ascending d_are_ascending ["thing", "many"] (spD ⟨K, w, P⟩ (MM TT) 2 W_are_ascending)) (b_are_ascending : Binds K d_are_ascending ["thing", "many"] []) (k_are_ascending : PySem.W.keepIn K (.ref a_are_ascending) = true) (G_are_steps : FnG P w K mg base (L2.CX P w) 4 a_are_steps d_are_steps ["thing", "deeds"] (spD ⟨K, w, P⟩ (MM TT) 2 W_are_steps)) (b_are_steps : Binds K d_are_steps ["thing", "deeds"] []) (k_are_steps : PySem.W.keepIn K (.ref a_are_steps) = true) (Z_BadWish : ExC K C_BadWish I_BadWish) (N_BadWish : FnOk P w K mg base (L2.CX P w) 1 I_BadWish D_BadWish ["self", "part"] (spExA C_BadWish "part")) (B_BadWish : Binds K D_BadWish ["self", "part"] []) : FnG P w K mg base (L2.CX P w) (5) f fd ["thing"] (spX ⟨K, w, P⟩ (MM TT) 1 (fBody 4 w_need_wish) (fBodyX 4 (u_need_wish C_BadWish))) := by
  refine fnX F sc_need_wish fun X cdv A outer s H E eX hgd hr tk po => ?_
  subst eX
  have nd := (sc_need_wish).nd
  have hu : (A.deeper (envOfC "need_wish" (defScope s_need_wish) s.heap.objs.size f cdv)).units + 64 < cLine := hr.units
  refine ⟨?_, ?_⟩
  · exact pds_cons (pds_if (pdt_not (pdt_truth (pd_call mW_is_triple (G_is_triple.mono (by decide)) hgd hr (by rfl) g_is_triple k_is_triple b_is_triple (pda_d (pdl_cons (pd_var (pv 0)) (pdl_nil)))))) (pds_one (pds_never)) (pds_nil))
          (pds_cons (pds_asg (pd_var (pv 0)) (pg1_tup (pgn_cons (pg1_name (i := 1) (pg_name (i := 1) nd rfl (by first | exact Or.inl rfl | exact Or.inr rfl))) (pgn_cons (pg1_name (i := 2) (pg_name (i := 2) nd rfl (by first | exact Or.inl rfl | exact Or.inr rfl))) (pgn_cons (pg1_name (i := 3) (pg_name (i := 3) nd rfl (by first | exact Or.inl rfl | exact Or.inr rfl))) (pgn_nil) (pgs_cons (pg1_name (i := 3) (pg_name (i := 3) nd rfl (by first | exact Or.inl rfl | exact Or.inr rfl))).pg (pgn_nil).pg)) (pgs_cons (pg1_name (i := 2) (pg_name (i := 2) nd rfl (by first | exact Or.inl rfl | exact Or.inr rfl))).pg (pgn_cons (pg1_name (i := 3) (pg_name (i := 3) nd rfl (by first | exact Or.inl rfl | exact Or.inr rfl))) (pgn_nil) (pgs_cons (pg1_name (i := 3) (pg_name (i := 3) nd rfl (by first | exact Or.inl rfl | exact Or.inr rfl))).pg (pgn_nil).pg)).pg)) (pgs_cons (pg1_name (i := 1) (pg_name (i := 1) nd rfl (by first | exact Or.inl rfl | exact Or.inr rfl))).pg (pgn_cons (pg1_name (i := 2) (pg_name (i := 2) nd rfl (by first | exact Or.inl rfl | exact Or.inr rfl))) (pgn_cons (pg1_name (i := 3) (pg_name (i := 3) nd rfl (by first | exact Or.inl rfl | exact Or.inr rfl))) (pgn_nil) (pgs_cons (pg1_name (i := 3) (pg_name (i := 3) nd rfl (by first | exact Or.inl rfl | exact Or.inr rfl))).pg (pgn_nil).pg)) (pgs_cons (pg1_name (i := 2) (pg_name (i := 2) nd rfl (by first | exact Or.inl rfl | exact Or.inr rfl))).pg (pgn_cons (pg1_name (i := 3) (pg_name (i := 3) nd rfl (by first | exact Or.inl rfl | exact Or.inr rfl))) (pgn_nil) (pgs_cons (pg1_name (i := 3) (pg_name (i := 3) nd rfl (by first | exact Or.inl rfl | exact Or.inr rfl))).pg (pgn_nil).pg)).pg)).pg)) (pg_tup rfl (pgn_cons (pg1_name (i := 1) (pg_name (i := 1) nd rfl (by first | exact Or.inl rfl | exact Or.inr rfl))) (pgn_cons (pg1_name (i := 2) (pg_name (i := 2) nd rfl (by first | exact Or.inl rfl | exact Or.inr rfl))) (pgn_cons (pg1_name (i := 3) (pg_name (i := 3) nd rfl (by first | exact Or.inl rfl | exact Or.inr rfl))) (pgn_nil) (pgs_cons (pg1_name (i := 3) (pg_name (i := 3) nd rfl (by first | exact Or.inl rfl | exact Or.inr rfl))).pg (pgn_nil).pg)) (pgs_cons (pg1_name (i := 2) (pg_name (i := 2) nd rfl (by first | exact Or.inl rfl | exact Or.inr rfl))).pg (pgn_cons (pg1_name (i := 3) (pg_name (i := 3) nd rfl (by first | exact Or.inl rfl | exact Or.inr rfl))) (pgn_nil) (pgs_cons (pg1_name (i := 3) (pg_name (i := 3) nd rfl (by first | exact Or.inl rfl | exact Or.inr rfl))).pg (pgn_nil).pg)).pg)) (pgs_cons (pg1_name (i := 1) (pg_name (i := 1) nd rfl (by first | exact Or.inl rfl | exact Or.inr rfl))).pg (pgn_cons (pg1_name (i := 2) (pg_name (i := 2) nd rfl (by first | exact Or.inl rfl | exact Or.inr rfl))) (pgn_cons (pg1_name (i := 3) (pg_name (i := 3) nd rfl (by first | exact Or.inl rfl | exact Or.inr rfl))) (pgn_nil) (pgs_cons (pg1_name (i := 3) (pg_name (i := 3) nd rfl (by first | exact Or.inl rfl | exact Or.inr rfl))).pg (pgn_nil).pg)) (pgs_cons (pg1_name (i := 2) (pg_name (i := 2) nd rfl (by first | exact Or.inl rfl | exact Or.inr rfl))).pg (pgn_cons (pg1_name (i := 3) (pg_name (i := 3) nd rfl (by first | exact Or.inl rfl | exact Or.inr rfl))) (pgn_nil) (pgs_cons (pg1_name (i := 3) (pg_name (i := 3) nd rfl (by first | exact Or.inl rfl | exact Or.inr rfl))).pg (pgn_nil).pg)).pg)).pg)).pg)))
          (pds_cons (pds_if (pdt_not (pdt_truth (pd_call mW_is_integer (G_is_integer.mono (by decide)) hgd hr (by rfl) g_is_integer k_is_integer b_is_integer (pda_d (pdl_cons (pd_var (pv 1)) (pdl_cons (pd_int) (pdl_cons (pd_gint (by rfl) T.c_MOST_DEEDS) (pdl_nil)))))))) (pds_one (pds_never)) (pds_nil))
          (pds_cons (pds_if (pdt_not (pdt_truth (pd_call mW_are_steps (G_are_steps.mono (by decide)) hgd hr (by rfl) g_are_steps k_are_steps b_are_steps (pda_d (pdl_cons (pd_var (pv 2)) (pdl_cons (pd_var (pv 1)) (pdl_nil))))))) (pds_one (pds_never)) (pds_nil))
          (pds_cons (pds_if (PDW.pt (pdw_or (pdt_not (pdt_truth (pd_call mW_are_ascending (G_are_ascending.mono (by decide)) hgd hr (by rfl) g_are_ascending k_are_ascending b_are_ascending (pda_d (pdl_cons (pd_var (pv 3)) (pdl_cons (pd_b1 call_lenA r1_len (by rfl) T.len (by decide +kernel) (pd_var (pv 2))) (pdl_nil))))))) (pdw_or1 (pdt_cmp op_notIn_seq rd_notIn (pd_int) (pd_var (pv 3)) (by first | exact nomark _ | rfl))))) (pds_one (pds_never)) (pds_nil))
          (pds_one (pds_ret (pd_var (pv 0))))))))
  · exact prs_or (prs_hd (pr_if (pdt_not (pdt_truth (pd_call mW_is_triple (G_is_triple.mono (by decide)) hgd hr (by rfl) g_is_triple k_is_triple b_is_triple (pda_d (pdl_cons (pd_var (pv 0)) (pdl_nil)))))) (prs_hd (pr_raise rfl tk Z_BadWish N_BadWish (hr.mono (by decide)) B_BadWish (by rfl) m_BadWish (pd_str)) (pds_nil)) (prs_no (pds_nil))) (pds_cons (pds_asg (pd_var (pv 0)) (pg1_tup (pgn_cons (pg1_name (i := 1) (pg_name (i := 1) nd rfl (by first | exact Or.inl rfl | exact Or.inr rfl))) (pgn_cons (pg1_name (i := 2) (pg_name (i := 2) nd rfl (by first | exact Or.inl rfl | exact Or.inr rfl))) (pgn_cons (pg1_name (i := 3) (pg_name (i := 3) nd rfl (by first | exact Or.inl rfl | exact Or.inr rfl))) (pgn_nil) (pgs_cons (pg1_name (i := 3) (pg_name (i := 3) nd rfl (by first | exact Or.inl rfl | exact Or.inr rfl))).pg (pgn_nil).pg)) (pgs_cons (pg1_name (i := 2) (pg_name (i := 2) nd rfl (by first | exact Or.inl rfl | exact Or.inr rfl))).pg (pgn_cons (pg1_name (i := 3) (pg_name (i := 3) nd rfl (by first | exact Or.inl rfl | exact Or.inr rfl))) (pgn_nil) (pgs_cons (pg1_name (i := 3) (pg_name (i := 3) nd rfl (by first | exact Or.inl rfl | exact Or.inr rfl))).pg (pgn_nil).pg)).pg)) (pgs_cons (pg1_name (i := 1) (pg_name (i := 1) nd rfl (by first | exact Or.inl rfl | exact Or.inr rfl))).pg (pgn_cons (pg1_name (i := 2) (pg_name (i := 2) nd rfl (by first | exact Or.inl rfl | exact Or.inr rfl))) (pgn_cons (pg1_name (i := 3) (pg_name (i := 3) nd rfl (by first | exact Or.inl rfl | exact Or.inr rfl))) (pgn_nil) (pgs_cons (pg1_name (i := 3) (pg_name (i := 3) nd rfl (by first | exact Or.inl rfl | exact Or.inr rfl))).pg (pgn_nil).pg)) (pgs_cons (pg1_name (i := 2) (pg_name (i := 2) nd rfl (by first | exact Or.inl rfl | exact Or.inr rfl))).pg (pgn_cons (pg1_name (i := 3) (pg_name (i := 3) nd rfl (by first | exact Or.inl rfl | exact Or.inr rfl))) (pgn_nil) (pgs_cons (pg1_name (i := 3) (pg_name (i := 3) nd rfl (by first | exact Or.inl rfl | exact Or.inr rfl))).pg (pgn_nil).pg)).pg)).pg)) (pg_tup rfl (pgn_cons (pg1_name (i := 1) (pg_name (i := 1) nd rfl (by first | exact Or.inl rfl | exact Or.inr rfl))) (pgn_cons (pg1_name (i := 2) (pg_name (i := 2) nd rfl (by first | exact Or.inl rfl | exact Or.inr rfl))) (pgn_cons (pg1_name (i := 3) (pg_name (i := 3) nd rfl (by first | exact Or.inl rfl | exact Or.inr rfl))) (pgn_nil) (pgs_cons (pg1_name (i := 3) (pg_name (i := 3) nd rfl (by first | exact Or.inl rfl | exact Or.inr rfl))).pg (pgn_nil).pg)) (pgs_cons (pg1_name (i := 2) (pg_name (i := 2) nd rfl (by first | exact Or.inl rfl | exact Or.inr rfl))).pg (pgn_cons (pg1_name (i := 3) (pg_name (i := 3) nd rfl (by first | exact Or.inl rfl | exact Or.inr rfl))) (pgn_nil) (pgs_cons (pg1_name (i := 3) (pg_name (i := 3) nd rfl (by first | exact Or.inl rfl | exact Or.inr rfl))).pg (pgn_nil).pg)).pg)) (pgs_cons (pg1_name (i := 1) (pg_name (i := 1) nd rfl (by first | exact Or.inl rfl | exact Or.inr rfl))).pg (pgn_cons (pg1_name (i := 2) (pg_name (i := 2) nd rfl (by first | exact Or.inl rfl | exact Or.inr rfl))) (pgn_cons (pg1_name (i := 3) (pg_name (i := 3) nd rfl (by first | exact Or.inl rfl | exact Or.inr rfl))) (pgn_nil) (pgs_cons (pg1_name (i := 3) (pg_name (i := 3) nd rfl (by first | exact Or.inl rfl | exact Or.inr rfl))).pg (pgn_nil).pg)) (pgs_cons (pg1_name (i := 2) (pg_name (i := 2) nd rfl (by first | exact Or.inl rfl | exact Or.inr rfl))).pg (pgn_cons (pg1_name (i := 3) (pg_name (i := 3) nd rfl (by first | exact Or.inl rfl | exact Or.inr rfl))) (pgn_nil) (pgs_cons (pg1_name (i := 3) (pg_name (i := 3) nd rfl (by first | exact Or.inl rfl | exact Or.inr rfl))).pg (pgn_nil).pg)).pg)).pg)).pg)))
          (pds_cons (pds_if (pdt_not (pdt_truth (pd_call mW_is_integer (G_is_integer.mono (by decide)) hgd hr (by rfl) g_is_integer k_is_integer b_is_integer (pda_d (pdl_cons (pd_var (pv 1)) (pdl_cons (pd_int) (pdl_cons (pd_gint (by rfl) T.c_MOST_DEEDS) (pdl_nil)))))))) (pds_one (pds_never)) (pds_nil))
          (pds_cons (pds_if (pdt_not (pdt_truth (pd_call mW_are_steps (G_are_steps.mono (by decide)) hgd hr (by rfl) g_are_steps k_are_steps b_are_steps (pda_d (pdl_cons (pd_var (pv 2)) (pdl_cons (pd_var (pv 1)) (pdl_nil))))))) (pds_one (pds_never)) (pds_nil))
          (pds_cons (pds_if (PDW.pt (pdw_or (pdt_not (pdt_truth (pd_call mW_are_ascending (G_are_ascending.mono (by decide)) hgd hr (by rfl) g_are_ascending k_are_ascending b_are_ascending (pda_d (pdl_cons (pd_var (pv 3)) (pdl_cons (pd_b1 call_lenA r1_len (by rfl) T.len (by decide +kernel) (pd_var (pv 2))) (pdl_nil))))))) (pdw_or1 (pdt_cmp op_notIn_seq rd_notIn (pd_int) (pd_var (pv 3)) (by first | exact nomark _ | rfl))))) (pds_one (pds_never)) (pds_nil))
          (pds_one (pds_ret (pd_var (pv 0)))))))))
          (prs_tl (pds_if (pdt_not (pdt_truth (pd_call mW_is_triple (G_is_triple.mono (by decide)) hgd hr (by rfl) g_is_triple k_is_triple b_is_triple (pda_d (pdl_cons (pd_var (pv 0)) (pdl_nil)))))) (pds_one (pds_never)) (pds_nil)) (prs_tl (pds_asg (pd_var (pv 0)) (pg1_tup (pgn_cons (pg1_name (i := 1) (pg_name (i := 1) nd rfl (by first | exact Or.inl rfl | exact Or.inr rfl))) (pgn_cons (pg1_name (i := 2) (pg_name (i := 2) nd rfl (by first | exact Or.inl rfl | exact Or.inr rfl))) (pgn_cons (pg1_name (i := 3) (pg_name (i := 3) nd rfl (by first | exact Or.inl rfl | exact Or.inr rfl))) (pgn_nil) (pgs_cons (pg1_name (i := 3) (pg_name (i := 3) nd rfl (by first | exact Or.inl rfl | exact Or.inr rfl))).pg (pgn_nil).pg)) (pgs_cons (pg1_name (i := 2) (pg_name (i := 2) nd rfl (by first | exact Or.inl rfl | exact Or.inr rfl))).pg (pgn_cons (pg1_name (i := 3) (pg_name (i := 3) nd rfl (by first | exact Or.inl rfl | exact Or.inr rfl))) (pgn_nil) (pgs_cons (pg1_name (i := 3) (pg_name (i := 3) nd rfl (by first | exact Or.inl rfl | exact Or.inr rfl))).pg (pgn_nil).pg)).pg)) (pgs_cons (pg1_name (i := 1) (pg_name (i := 1) nd rfl (by first | exact Or.inl rfl | exact Or.inr rfl))).pg (pgn_cons (pg1_name (i := 2) (pg_name (i := 2) nd rfl (by first | exact Or.inl rfl | exact Or.inr rfl))) (pgn_cons (pg1_name (i := 3) (pg_name (i := 3) nd rfl (by first | exact Or.inl rfl | exact Or.inr rfl))) (pgn_nil) (pgs_cons (pg1_name (i := 3) (pg_name (i := 3) nd rfl (by first | exact Or.inl rfl | exact Or.inr rfl))).pg (pgn_nil).pg)) (pgs_cons (pg1_name (i := 2) (pg_name (i := 2) nd rfl (by first | exact Or.inl rfl | exact Or.inr rfl))).pg (pgn_cons (pg1_name (i := 3) (pg_name (i := 3) nd rfl (by first | exact Or.inl rfl | exact Or.inr rfl))) (pgn_nil) (pgs_cons (pg1_name (i := 3) (pg_name (i := 3) nd rfl (by first | exact Or.inl rfl | exact Or.inr rfl))).pg (pgn_nil).pg)).pg)).pg)) (pg_tup rfl (pgn_cons (pg1_name (i := 1) (pg_name (i := 1) nd rfl (by first | exact Or.inl rfl | exact Or.inr rfl))) (pgn_cons (pg1_name (i := 2) (pg_name (i := 2) nd rfl (by first | exact Or.inl rfl | exact Or.inr rfl))) (pgn_cons (pg1_name (i := 3) (pg_name (i := 3) nd rfl (by first | exact Or.inl rfl | exact Or.inr rfl))) (pgn_nil) (pgs_cons (pg1_name (i := 3) (pg_name (i := 3) nd rfl (by first | exact Or.inl rfl | exact Or.inr rfl))).pg (pgn_nil).pg)) (pgs_cons (pg1_name (i := 2) (pg_name (i := 2) nd rfl (by first | exact Or.inl rfl | exact Or.inr rfl))).pg (pgn_cons (pg1_name (i := 3) (pg_name (i := 3) nd rfl (by first | exact Or.inl rfl | exact Or.inr rfl))) (pgn_nil) (pgs_cons (pg1_name (i := 3) (pg_name (i := 3) nd rfl (by first | exact Or.inl rfl | exact Or.inr rfl))).pg (pgn_nil).pg)).pg)) (pgs_cons (pg1_name (i := 1) (pg_name (i := 1) nd rfl (by first | exact Or.inl rfl | exact Or.inr rfl))).pg (pgn_cons (pg1_name (i := 2) (pg_name (i := 2) nd rfl (by first | exact Or.inl rfl | exact Or.inr rfl))) (pgn_cons (pg1_name (i := 3) (pg_name (i := 3) nd rfl (by first | exact Or.inl rfl | exact Or.inr rfl))) (pgn_nil) (pgs_cons (pg1_name (i := 3) (pg_name (i := 3) nd rfl (by first | exact Or.inl rfl | exact Or.inr rfl))).pg (pgn_nil).pg)) (pgs_cons (pg1_name (i := 2) (pg_name (i := 2) nd rfl (by first | exact Or.inl rfl | exact Or.inr rfl))).pg (pgn_cons (pg1_name (i := 3) (pg_name (i := 3) nd rfl (by first | exact Or.inl rfl | exact Or.inr rfl))) (pgn_nil) (pgs_cons (pg1_name (i := 3) (pg_name (i := 3) nd rfl (by first | exact Or.inl rfl | exact Or.inr rfl))).pg (pgn_nil).pg)).pg)).pg)).pg)))
          (prs_or (prs_hd (pr_if (pdt_not (pdt_truth (pd_call mW_is_integer (G_is_integer.mono (by decide)) hgd hr (by rfl) g_is_integer k_is_integer b_is_integer (pda_d (pdl_cons (pd_var (pv 1)) (pdl_cons (pd_int) (pdl_cons (pd_gint (by rfl) T.c_MOST_DEEDS) (pdl_nil)))))))) (prs_hd (pr_raise rfl tk Z_BadWish N_BadWish (hr.mono (by decide)) B_BadWish (by rfl) m_BadWish (pd_str)) (pds_nil)) (prs_no (pds_nil))) (pds_cons (pds_if (pdt_not (pdt_truth (pd_call mW_are_steps (G_are_steps.mono (by decide)) hgd hr (by rfl) g_are_steps k_are_steps b_are_steps (pda_d (pdl_cons (pd_var (pv 2)) (pdl_cons (pd_var (pv 1)) (pdl_nil))))))) (pds_one (pds_never)) (pds_nil))
          (pds_cons (pds_if (PDW.pt (pdw_or (pdt_not (pdt_truth (pd_call mW_are_ascending (G_are_ascending.mono (by decide)) hgd hr (by rfl) g_are_ascending k_are_ascending b_are_ascending (pda_d (pdl_cons (pd_var (pv 3)) (pdl_cons (pd_b1 call_lenA r1_len (by rfl) T.len (by decide +kernel) (pd_var (pv 2))) (pdl_nil))))))) (pdw_or1 (pdt_cmp op_notIn_seq rd_notIn (pd_int) (pd_var (pv 3)) (by first | exact nomark _ | rfl))))) (pds_one (pds_never)) (pds_nil))
          (pds_one (pds_ret (pd_var (pv 0)))))))
          (prs_tl (pds_if (pdt_not (pdt_truth (pd_call mW_is_integer (G_is_integer.mono (by decide)) hgd hr (by rfl) g_is_integer k_is_integer b_is_integer (pda_d (pdl_cons (pd_var (pv 1)) (pdl_cons (pd_int) (pdl_cons (pd_gint (by rfl) T.c_MOST_DEEDS) (pdl_nil)))))))) (pds_one (pds_never)) (pds_nil)) (prs_or (prs_hd (pr_if (pdt_not (pdt_truth (pd_call mW_are_steps (G_are_steps.mono (by decide)) hgd hr (by rfl) g_are_steps k_are_steps b_are_steps (pda_d (pdl_cons (pd_var (pv 2)) (pdl_cons (pd_var (pv 1)) (pdl_nil))))))) (prs_hd (pr_raise rfl tk Z_BadWish N_BadWish (hr.mono (by decide)) B_BadWish (by rfl) m_BadWish (pd_str)) (pds_nil)) (prs_no (pds_nil))) (pds_cons (pds_if (PDW.pt (pdw_or (pdt_not (pdt_truth (pd_call mW_are_ascending (G_are_ascending.mono (by decide)) hgd hr (by rfl) g_are_ascending k_are_ascending b_are_ascending (pda_d (pdl_cons (pd_var (pv 3)) (pdl_cons (pd_b1 call_lenA r1_len (by rfl) T.len (by decide +kernel) (pd_var (pv 2))) (pdl_nil))))))) (pdw_or1 (pdt_cmp op_notIn_seq rd_notIn (pd_int) (pd_var (pv 3)) (by first | exact nomark _ | rfl))))) (pds_one (pds_never)) (pds_nil))
          (pds_one (pds_ret (pd_var (pv 0))))))
          (prs_tl (pds_if (pdt_not (pdt_truth (pd_call mW_are_steps (G_are_steps.mono (by decide)) hgd hr (by rfl) g_are_steps k_are_steps b_are_steps (pda_d (pdl_cons (pd_var (pv 2)) (pdl_cons (pd_var (pv 1)) (pdl_nil))))))) (pds_one (pds_never)) (pds_nil)) (prs_hd (pr_if (PDW.pt (pdw_or (pdt_not (pdt_truth (pd_call mW_are_ascending (G_are_ascending.mono (by decide)) hgd hr (by rfl) g_are_ascending k_are_ascending b_are_ascending (pda_d (pdl_cons (pd_var (pv 3)) (pdl_cons (pd_b1 call_lenA r1_len (by rfl) T.len (by decide +kernel) (pd_var (pv 2))) (pdl_nil))))))) (pdw_or1 (pdt_cmp op_notIn_seq rd_notIn (pd_int) (pd_var (pv 3)) (by first | exact nomark _ | rfl))))) (prs_hd (pr_raise rfl tk Z_BadWish N_BadWish (hr.mono (by decide)) B_BadWish (by rfl) m_BadWish (pd_str)) (pds_nil)) (prs_no (pds_nil))) (pds_one (pds_ret (pd_var (pv 0)))))))))))
theorem ok_need_wish : ∀ ρ k, W_need_wish ρ k → fBody 4 w_need_wish ρ k := GP.ok_need_wish
theorem okx_need_wish (C : Addr) : ∀ ρ k, U_need_wish C ρ k → fBodyX 4 (u_need_wish C) ρ k := by
  rintro ⟨sl, n⟩ k ⟨d, p, e, hd, hp, z⟩
  simp only at e
  subst e
  simp [u_need_wish, fBodyX, fxOr, fxThen, fxIf, fxRaise, fxNo]
  simp [and_assoc, Rho.set, dropOwn, ftLend, fLend, lendR, frz, ow, nList, -forall_exists_index, fBody, fsSeq, fsIf, fsRet, fsNext, fsDrop, fsAsg, fsNever, fsFor, fsOwn, fsPar2, fsPar3, fsPar_od, fsPar_do, fsPar_oo, fVar, fC, fUn, fOp, fChain, fTup, fLst, fCall, faD, faSt, flCons, flNil, fSl, foSome, foNone, fAnd, fOr, fNot, fIf, fOfN, fn1, fnLst, fnCat, fgN, fgTup, fgCons, fgNil, fiSeq, fiRange1, fiRange2, fiEnumA, fiZip, ftOr, ftAnd, ftNot, ftB, ftT, ftYes, truD_b, truD_i, truD_l, truD_t, truD_n, gIx_t0, gIx_t1, gIx_t2, gSl_t, gSl_l, gIsT, notDict, isT, isN, tyName, gLen_t, gLen_l, gTuple_l, gCmp, gAdd_ii, gAdd_ll, PD.gSub, gNeg, gMod, seqD, forD, wipeR, gEqA, gNeA, gEq_ii, gNe_ii, gEq_tt, gIn_ints, gIn_intsL, gNotIn_ints, gNotIn_intsL, fM0, fM1, fJoined, fJ, flStar, starD, fCall0, gIsTX, noInst_n, noInst_b, noInst_i, noInst_s, noInst_l, noInst_t, fFld, fMeth, fMake, faNil, fsFld, fLendO, fDisp, fpCons, fpNil, fDict0, fiAny, walkD, fiOver, dKeys, dVals, dPairs, fsOwnD, fsPut, fOwnIx, fPop, fsExt, fDc, compK, gInX, gNotInX, gIxX, fGet]
  rcases is3_cases d with h3 | ⟨q, T, G, rfl⟩
  · refine .inl ⟨d, rfl, okW_no hd, ?_⟩
    rw [wishErr_form h3] at hp
    cases hp
    rw [h3]
    exact ⟨rfl, z⟩
  · refine .inr ⟨_, rfl, rfl, rfl, _, rfl, rfl, q, _, rfl, T, _, rfl, G, _, rfl, rfl, ?_⟩
    obtain ⟨hq, hT, hG⟩ := hd
    have hp : wishErr3 q T G = some p := hp
    unfold wishErr3 at hp
    by_cases h1 : intB q 1 4 = true
    · rw [if_pos h1] at hp
      obtain ⟨qi, rfl⟩ : ∃ i, q = .int i := by cases q <;> first | exact ⟨_, rfl⟩ | cases h1
      have hp : (if stepsB T qi = true then (if ascB G (lenD T) = true ∧ (0 : Int) ∈ intsOfD G then none else some ("good" : Str)) else some ("steps" : Str)) = some p := hp
      refine .inr ⟨_, 1, 4, rfl, hq, by rw [h1]; rfl, ?_⟩
      by_cases h2 : stepsB T qi = true
      · rw [if_pos h2] at hp
        obtain ⟨xs, rfl⟩ : ∃ xs, T = .tuple xs := by cases T <;> first | exact ⟨_, rfl⟩ | cases h2
        refine .inr ⟨_, qi, rfl, hT, by rw [h2]; rfl, .int xs.length, rfl, G, xs.length, rfl, hG, ?_⟩
        have hp : (if ascB G xs.length = true ∧ (0 : Int) ∈ intsOfD G then none else some ("good" : Str)) = some p := hp
        by_cases h4 : ascB G xs.length = true
        · by_cases h5 : (0 : Int) ∈ intsOfD G
          · rw [if_pos ⟨h4, h5⟩] at hp; cases hp
          · rw [if_neg fun y => h5 y.2] at hp
            cases hp
            have hG1 := (numsB_ints (d := G) (m := xs.length) (by unfold ascB at h4; exact (Bool.and_eq_true_iff.mp h4).1)).1
            rw [h4]
            refine .inr ⟨rfl, .bool true, ?_, rfl, z⟩
            rw [hG1, gNotIn_ints, decide_eq_false h5]
            rfl
        · rw [if_neg fun y => h4 y.1] at hp
          cases hp
          refine .inl ⟨?_, z⟩
          rw [Bool.eq_false_iff.mpr h4]
          rfl
      · rw [if_neg h2] at hp
        cases hp
        refine .inl ⟨T, qi, rfl, hT, ?_⟩
        rw [Bool.eq_false_iff.mpr h2]
        exact ⟨rfl, z⟩
    · rw [if_neg h1] at hp
      cases hp
      refine .inl ⟨q, 1, 4, rfl, hq, ?_⟩
      rw [Bool.eq_false_iff.mpr h1]
      exact ⟨rfl, z⟩
abbrev s_are_steps : Stmt := top 24
theorem sc_are_steps : FnScope ["thing", "deeds", "row"] ["thing", "deeds"] (defScope s_are_steps) := ⟨rfl, rfl, rfl, by decide +kernel, rfl, by decide +kernel, by decide +kernel⟩
theorem raw_are_steps {f : Addr} {fd : FuncData} {a_are_numbers : Addr} {d_are_numbers : FuncData} (F : Fun K "_are_steps" "_are_steps" s_are_steps f fd) (T : Txt mg) (g_are_numbers : mg "are_numbers" = some (.ref a_are_numbers)) (G_are_numbers : FnG P w K mg base (L2.CX P w) 3 a_are_numbers d_are_numbers ["thing", "many"] (spD ⟨K, w, P⟩ (MM TT) 2 W_are_numbers)) (b_are_numbers : Binds K d_are_numbers ["thing", "many"] []) (k_are_numbers : PySem.W.keepIn K (.ref a_are_numbers) = true) : FnG P w K mg base (L2.CX P w) (4) f fd ["thing", "deeds"] (spD ⟨K, w, P⟩ (MM TT) 2 (fBody 3 w_are_steps)) := by
  refine fnD F sc_are_steps fun cdv A outer s H E hgd hr => ?_
  have nd := (sc_are_steps).nd
  have hu : (A.deeper (envOfC "_are_steps" (defScope s_are_steps) s.heap.objs.size f cdv)).units + 64 < cLine := hr.units
  exact pds_cons (pds_if (PDW.pt (pdw_or (pdt_not (pdt_truth (pd_isiX (T := "tuple") (by decide) (by rfl) T.isinstance (pe_tyName (by rfl) T.tuple (by decide +kernel)) (pd_var (pv 0))))) (pdw_or1 (pdt_not (pdt_chain op_le op_le rd_cmp rd_cmp (pd_int) (pd_b1 call_lenA r1_len (by rfl) T.len (by decide +kernel) (pd_var (pv 0))) (pd_gint (by rfl) T.c_MOST_STATES)))))) (pds_one (pds_ret (pd_bl))) (pds_nil))
    (pds_one (pds_ret (pd_b1 (cr_all rfl) r1_all (by rfl) T.all (by decide +kernel) (pd_ofN (pn_lc rfl nd (own := [("row", 2)]) (vs := [2]) (pdi_seq (pd_var (pv 0))) (blkOk_by (own := [("row", 2)]) (N := ["thing", "deeds", "row"]) (sc := defScope s_are_steps) (by decide +kernel)) rfl (fun _ _ _ _ _ => pg1_name (i := 2) (pg_name (i := 2) nd rfl (by first | exact Or.inl rfl | exact Or.inr rfl))) (fun _ _ _ _ _ => ptn_nil) (fun _ _ _ _ _ => pd_and (pd_call mW_are_numbers (G_are_numbers.mono (by decide)) hgd hr (by rfl) g_are_numbers k_are_numbers b_are_numbers (pda_d (pdl_cons (pd_var (pv 2)) (pdl_cons (pd_b1 call_lenA r1_len (by rfl) T.len (by decide +kernel) (pd_var (pv 0))) (pdl_nil))))) (pd_one (pd_cmp (op_eqA hu) rd_eqA (pd_b1 call_lenA r1_len (by rfl) T.len (by decide +kernel) (pd_var (pv 2))) (pd_var (pv 1)) (by first | exact nomark _ | rfl)))) s)))))
def W_need_hold : FE := fun ρ k => ∃ (d : D), ρ.sl = [.d d] ∧ (noInst d = true ∧ intB d 0 3 = true) ∧ k (d) ρ
theorem mW_need_hold (ρ : Rho) (k k' : KD) (hM : ∀ d ρ', k d ρ' → k' d ρ') (q : W_need_hold ρ k) : W_need_hold ρ k' := by
  obtain ⟨d, e1, e2, e3⟩ := q
  exact ⟨d, e1, e2, hM _ _ e3⟩
def U_need_hold (C_OutOfPlace : Addr) : FX := fun ρ k => ∃ d, ρ.sl = [.d d] ∧ noInst d = true ∧ intB d 0 3 = false ∧ k (.ref C_OutOfPlace) [] ρ
theorem mU_need_hold (C_OutOfPlace : Addr) (ρ : Rho) (k k' : XC) (hM : ∀ c fl ρ', k c fl ρ' → k' c fl ρ') (z : U_need_hold C_OutOfPlace ρ k) : U_need_hold C_OutOfPlace ρ k' := by
  obtain ⟨d, e1, e2, e3, e4⟩ := z
  exact ⟨d, e1, e2, e3, hM _ _ _ e4⟩
abbrev s_need_hold : Stmt := top 30
theorem sc_need_hold : FnScope ["thing"] ["thing"] (defScope s_need_hold) := ⟨rfl, rfl, rfl, by decide +kernel, rfl, by decide +kernel, by decide +kernel⟩
def w_need_hold : FS := fsSeq (fsIf (ftNot (ftT (fCall 3 W_is_integer (faD (flCons (fVar 0) (flCons (fC (.int 0)) (flCons (fC (.int 3)) (flNil)))))))) (fsNever) (fsNext))
  (fsRet (fVar 0))
def u_need_hold (C_OutOfPlace : Addr) : FX := fxIf (ftNot (ftT (fCall 3 W_is_integer (faD (flCons (fVar 0) (flCons (fC (.int 0)) (flCons (fC (.int 3)) (flNil)))))))) (fxRaise (.ref C_OutOfPlace) (none) (fC (.str "hold: an integer from 0 to 3 is wanted"))) (fxNo)
theorem raw_need_hold {f : Addr} {fd : FuncData} {a_is_integer : Addr} {d_is_integer : FuncData} {C_OutOfPlace : Addr} {I_OutOfPlace : Addr} {D_OutOfPlace : FuncData} (F : Fun K "need_hold" "need_hold" s_need_hold f fd) (T : Txt mg) (g_is_integer : mg "is_integer" = some (.ref a_is_integer)) (m_OutOfPlace : mg "OutOfPlace" = some (.ref C_OutOfPlace)) (G_is_integer : FnG P w K mg base (L2.CX P w) 2 a_is_integer d_is_integer ["thing", "least", "most"] (spD ⟨K, w, P⟩ (MM TT) 3 W_is_integer)) (b_is_integer : Binds K d_is_integer ["thing", "least", "most"] []) (k_is_integer : PySem.W.keepIn K (.ref a_is_integer) = true) (Z_OutOfPlace : ExC K C_OutOfPlace I_OutOfPlace) (N_OutOfPlace : FnOk P w K mg base (L2.CX P w) 1 I_OutOfPlace D_OutOfPlace ["self", "text"] (spExN C_OutOfPlace)) (B_OutOfPlace : Binds K D_OutOfPlace ["self", "text"] []) : FnG P w K mg base (L2.CX P w) (3) f fd ["thing"] (spX ⟨K, w, P⟩ (MM TT) 1 (fBody 1 w_need_hold) (fBodyX 1 (u_need_hold C_OutOfPlace))) := by
  refine fnX F sc_need_hold fun X cdv A outer s H E eX hgd hr tk po => ?_
  subst eX
  have nd := (sc_need_hold).nd
  have hu : (A.deeper (envOfC "need_hold" (defScope s_need_hold) s.heap.objs.size f cdv)).units + 64 < cLine := hr.units
  refine ⟨?_, ?_⟩
  · exact pds_cons (pds_if (pdt_not (pdt_truth (pd_call mW_is_integer (G_is_integer.mono (by decide)) hgd hr (by rfl) g_is_integer k_is_integer b_is_integer (pda_d (pdl_cons (pd_var (pv 0)) (pdl_cons (pd_int) (pdl_cons (pd_gint (by rfl) T.c_MOST_HELD) (pdl_nil)))))))) (pds_one (pds_never)) (pds_nil))
          (pds_one (pds_ret (pd_var (pv 0))))
  · exact prs_hd (pr_if (pdt_not (pdt_truth (pd_call mW_is_integer (G_is_integer.mono (by decide)) hgd hr (by rfl) g_is_integer k_is_integer b_is_integer (pda_d (pdl_cons (pd_var (pv 0)) (pdl_cons (pd_int) (pdl_cons (pd_gint (by rfl) T.c_MOST_HELD) (pdl_nil)))))))) (prs_hd (pr_raise0 rfl tk Z_OutOfPlace N_OutOfPlace (hr.mono (by decide)) B_OutOfPlace (by rfl) m_OutOfPlace (pd_str)) (pds_nil)) (prs_no (pds_nil))) (pds_one (pds_ret (pd_var (pv 0))))
theorem ok_need_hold : ∀ ρ k, W_need_hold ρ k → fBody 1 w_need_hold ρ k := by
  rintro ⟨sl, n⟩ k ⟨d, e, ⟨hn, h⟩, z⟩
  simp only at e
  subst e
  simp [w_need_hold]
  simp [and_assoc, Rho.set, dropOwn, ftLend, fLend, lendR, frz, ow, nList, -forall_exists_index, fBody, fsSeq, fsIf, fsRet, fsNext, fsDrop, fsAsg, fsNever, fsFor, fsOwn, fsPar2, fsPar3, fsPar_od, fsPar_do, fsPar_oo, fVar, fC, fUn, fOp, fChain, fTup, fLst, fCall, faD, faSt, flCons, flNil, fSl, foSome, foNone, fAnd, fOr, fNot, fIf, fOfN, fn1, fnLst, fnCat, fgN, fgTup, fgCons, fgNil, fiSeq, fiRange1, fiRange2, fiEnumA, fiZip, ftOr, ftAnd, ftNot, ftB, ftT, ftYes, truD_b, truD_i, truD_l, truD_t, truD_n, gIx_t0, gIx_t1, gIx_t2, gSl_t, gSl_l, gIsT, notDict, isT, isN, tyName, gLen_t, gLen_l, gTuple_l, gCmp, gAdd_ii, gAdd_ll, PD.gSub, gNeg, gMod, seqD, forD, wipeR, gEqA, gNeA, gEq_ii, gNe_ii, gEq_tt, gIn_ints, gIn_intsL, gNotIn_ints, gNotIn_intsL, fM0, fM1, fJoined, fJ, flStar, starD, fCall0, gIsTX, noInst_n, noInst_b, noInst_i, noInst_s, noInst_l, noInst_t, fFld, fMeth, fMake, faNil, fsFld, fLendO, fDisp, fpCons, fpNil, fDict0, fiAny, walkD, fiOver, dKeys, dVals, dPairs, fsOwnD, fsPut, fOwnIx, fPop, fsExt, fDc, compK, gInX, gNotInX, gIxX, fGet]
  exact ⟨d, 0, 3, rfl, hn, by rw [h]; rfl, z⟩
theorem okx_need_hold (C : Addr) : ∀ ρ k, U_need_hold C ρ k → fBodyX 1 (u_need_hold C) ρ k := by
  rintro ⟨sl, n⟩ k ⟨d, e, hn, h, z⟩
  simp only at e
  subst e
  simp [u_need_hold, fBodyX, fxOr, fxThen, fxIf, fxRaise, fxNo]
  simp [and_assoc, Rho.set, dropOwn, ftLend, fLend, lendR, frz, ow, nList, -forall_exists_index, fBody, fsSeq, fsIf, fsRet, fsNext, fsDrop, fsAsg, fsNever, fsFor, fsOwn, fsPar2, fsPar3, fsPar_od, fsPar_do, fsPar_oo, fVar, fC, fUn, fOp, fChain, fTup, fLst, fCall, faD, faSt, flCons, flNil, fSl, foSome, foNone, fAnd, fOr, fNot, fIf, fOfN, fn1, fnLst, fnCat, fgN, fgTup, fgCons, fgNil, fiSeq, fiRange1, fiRange2, fiEnumA, fiZip, ftOr, ftAnd, ftNot, ftB, ftT, ftYes, truD_b, truD_i, truD_l, truD_t, truD_n, gIx_t0, gIx_t1, gIx_t2, gSl_t, gSl_l, gIsT, notDict, isT, isN, tyName, gLen_t, gLen_l, gTuple_l, gCmp, gAdd_ii, gAdd_ll, PD.gSub, gNeg, gMod, seqD, forD, wipeR, gEqA, gNeA, gEq_ii, gNe_ii, gEq_tt, gIn_ints, gIn_intsL, gNotIn_ints, gNotIn_intsL, fM0, fM1, fJoined, fJ, flStar, starD, fCall0, gIsTX, noInst_n, noInst_b, noInst_i, noInst_s, noInst_l, noInst_t, fFld, fMeth, fMake, faNil, fsFld, fLendO, fDisp, fpCons, fpNil, fDict0, fiAny, walkD, fiOver, dKeys, dVals, dPairs, fsOwnD, fsPut, fOwnIx, fPop, fsExt, fDc, compK, gInX, gNotInX, gIxX, fGet]
  exact ⟨d, 0, 3, rfl, hn, by rw [h]; exact ⟨rfl, z⟩⟩
def W_need_ahead : FE := fun ρ k => ∃ (d : D), ρ.sl = [.d d] ∧ (noInst d = true ∧ intB d 0 2 = true) ∧ k (d) ρ
theorem mW_need_ahead (ρ : Rho) (k k' : KD) (hM : ∀ d ρ', k d ρ' → k' d ρ') (q : W_need_ahead ρ k) : W_need_ahead ρ k' := by
  obtain ⟨d, e1, e2, e3⟩ := q
  exact ⟨d, e1, e2, hM _ _ e3⟩
def U_need_ahead (C_OutOfPlace : Addr) : FX := fun ρ k => ∃ d, ρ.sl = [.d d] ∧ noInst d = true ∧ intB d 0 2 = false ∧ k (.ref C_OutOfPlace) [] ρ
theorem mU_need_ahead (C_OutOfPlace : Addr) (ρ : Rho) (k k' : XC) (hM : ∀ c fl ρ', k c fl ρ' → k' c fl ρ') (z : U_need_ahead C_OutOfPlace ρ k) : U_need_ahead C_OutOfPlace ρ k' := by
  obtain ⟨d, e1, e2, e3, e4⟩ := z
  exact ⟨d, e1, e2, e3, hM _ _ _ e4⟩
abbrev s_need_ahead : Stmt := top 31
theorem sc_need_ahead : FnScope ["thing"] ["thing"] (defScope s_need_ahead) := ⟨rfl, rfl, rfl, by decide +kernel, rfl, by decide +kernel, by decide +kernel⟩
def w_need_ahead : FS := fsSeq (fsIf (ftNot (ftT (fCall 3 W_is_integer (faD (flCons (fVar 0) (flCons (fC (.int 0)) (flCons (fC (.int 2)) (flNil)))))))) (fsNever) (fsNext))
  (fsRet (fVar 0))
def u_need_ahead (C_OutOfPlace : Addr) : FX := fxIf (ftNot (ftT (fCall 3 W_is_integer (faD (flCons (fVar 0) (flCons (fC (.int 0)) (flCons (fC (.int 2)) (flNil)))))))) (fxRaise (.ref C_OutOfPlace) (none) (fC (.str "ahead: an integer from 0 to 2 is wanted"))) (fxNo)
theorem raw_need_ahead {f : Addr} {fd : FuncData} {a_is_integer : Addr} {d_is_integer : FuncData} {C_OutOfPlace : Addr} {I_OutOfPlace : Addr} {D_OutOfPlace : FuncData} (F : Fun K "need_ahead" "need_ahead" s_need_ahead f fd) (T : Txt mg) (g_is_integer : mg "is_integer" = some (.ref a_is_integer)) (m_OutOfPlace : mg "OutOfPlace" = some (.ref C_OutOfPlace)) (G_is_integer : FnG P w K mg base (L2.CX P w) 2 a_is_integer d_is_integer ["thing", "least", "most"] (spD ⟨K, w, P⟩ (MM TT) 3 W_is_integer)) (b_is_integer : Binds K d_is_integer ["thing", "least", "most"] []) (k_is_integer : PySem.W.keepIn K (.ref a_is_integer) = true) (Z_OutOfPlace : ExC K C_OutOfPlace I_OutOfPlace) (N_OutOfPlace : FnOk P w K mg base (L2.CX P w) 1 I_OutOfPlace D_OutOfPlace ["self", "text"] (spExN C_OutOfPlace)) (B_OutOfPlace : Binds K D_OutOfPlace ["self", "text"] []) : FnG P w K mg base (L2.CX P w) (3) f fd ["thing"] (spX ⟨K, w, P⟩ (MM TT) 1 (fBody 1 w_need_ahead) (fBodyX 1 (u_need_ahead C_OutOfPlace))) := by
  refine fnX F sc_need_ahead fun X cdv A outer s H E eX hgd hr tk po => ?_
  subst eX
  have nd := (sc_need_ahead).nd
  have hu : (A.deeper (envOfC "need_ahead" (defScope s_need_ahead) s.heap.objs.size f cdv)).units + 64 < cLine := hr.units
  refine ⟨?_, ?_⟩
  · exact pds_cons (pds_if (pdt_not (pdt_truth (pd_call mW_is_integer (G_is_integer.mono (by decide)) hgd hr (by rfl) g_is_integer k_is_integer b_is_integer (pda_d (pdl_cons (pd_var (pv 0)) (pdl_cons (pd_int) (pdl_cons (pd_gint (by rfl) T.c_MOST_AHEAD) (pdl_nil)))))))) (pds_one (pds_never)) (pds_nil))
          (pds_one (pds_ret (pd_var (pv 0))))
  · exact prs_hd (pr_if (pdt_not (pdt_truth (pd_call mW_is_integer (G_is_integer.mono (by decide)) hgd hr (by rfl) g_is_integer k_is_integer b_is_integer (pda_d (pdl_cons (pd_var (pv 0)) (pdl_cons (pd_int) (pdl_cons (pd_gint (by rfl) T.c_MOST_AHEAD) (pdl_nil)))))))) (prs_hd (pr_raise0 rfl tk Z_OutOfPlace N_OutOfPlace (hr.mono (by decide)) B_OutOfPlace (by rfl) m_OutOfPlace (pd_str)) (pds_nil)) (prs_no (pds_nil))) (pds_one (pds_ret (pd_var (pv 0))))
theorem ok_need_ahead : ∀ ρ k, W_need_ahead ρ k → fBody 1 w_need_ahead ρ k := by
  rintro ⟨sl, n⟩ k ⟨d, e, ⟨hn, h⟩, z⟩
  simp only at e
  subst e
  simp [w_need_ahead]
  simp [and_assoc, Rho.set, dropOwn, ftLend, fLend, lendR, frz, ow, nList, -forall_exists_index, fBody, fsSeq, fsIf, fsRet, fsNext, fsDrop, fsAsg, fsNever, fsFor, fsOwn, fsPar2, fsPar3, fsPar_od, fsPar_do, fsPar_oo, fVar, fC, fUn, fOp, fChain, fTup, fLst, fCall, faD, faSt, flCons, flNil, fSl, foSome, foNone, fAnd, fOr, fNot, fIf, fOfN, fn1, fnLst, fnCat, fgN, fgTup, fgCons, fgNil, fiSeq, fiRange1, fiRange2, fiEnumA, fiZip, ftOr, ftAnd, ftNot, ftB, ftT, ftYes, truD_b, truD_i, truD_l, truD_t, truD_n, gIx_t0, gIx_t1, gIx_t2, gSl_t, gSl_l, gIsT, notDict, isT, isN, tyName, gLen_t, gLen_l, gTuple_l, gCmp, gAdd_ii, gAdd_ll, PD.gSub, gNeg, gMod, seqD, forD, wipeR, gEqA, gNeA, gEq_ii, gNe_ii, gEq_tt, gIn_ints, gIn_intsL, gNotIn_ints, gNotIn_intsL, fM0, fM1, fJoined, fJ, flStar, starD, fCall0, gIsTX, noInst_n, noInst_b, noInst_i, noInst_s, noInst_l, noInst_t, fFld, fMeth, fMake, faNil, fsFld, fLendO, fDisp, fpCons, fpNil, fDict0, fiAny, walkD, fiOver, dKeys, dVals, dPairs, fsOwnD, fsPut, fOwnIx, fPop, fsExt, fDc, compK, gInX, gNotInX, gIxX, fGet]
  exact ⟨d, 0, 2, rfl, hn, by rw [h]; rfl, z⟩
theorem okx_need_ahead (C : Addr) : ∀ ρ k, U_need_ahead C ρ k → fBodyX 1 (u_need_ahead C) ρ k := by
  rintro ⟨sl, n⟩ k ⟨d, e, hn, h, z⟩
  simp only at e
  subst e
  simp [u_need_ahead, fBodyX, fxOr, fxThen, fxIf, fxRaise, fxNo]
  simp [and_assoc, Rho.set, dropOwn, ftLend, fLend, lendR, frz, ow, nList, -forall_exists_index, fBody, fsSeq, fsIf, fsRet, fsNext, fsDrop, fsAsg, fsNever, fsFor, fsOwn, fsPar2, fsPar3, fsPar_od, fsPar_do, fsPar_oo, fVar, fC, fUn, fOp, fChain, fTup, fLst, fCall, faD, faSt, flCons, flNil, fSl, foSome, foNone, fAnd, fOr, fNot, fIf, fOfN, fn1, fnLst, fnCat, fgN, fgTup, fgCons, fgNil, fiSeq, fiRange1, fiRange2, fiEnumA, fiZip, ftOr, ftAnd, ftNot, ftB, ftT, ftYes, truD_b, truD_i, truD_l, truD_t, truD_n, gIx_t0, gIx_t1, gIx_t2, gSl_t, gSl_l, gIsT, notDict, isT, isN, tyName, gLen_t, gLen_l, gTuple_l, gCmp, gAdd_ii, gAdd_ll, PD.gSub, gNeg, gMod, seqD, forD, wipeR, gEqA, gNeA, gEq_ii, gNe_ii, gEq_tt, gIn_ints, gIn_intsL, gNotIn_ints, gNotIn_intsL, fM0, fM1, fJoined, fJ, flStar, starD, fCall0, gIsTX, noInst_n, noInst_b, noInst_i, noInst_s, noInst_l, noInst_t, fFld, fMeth, fMake, faNil, fsFld, fLendO, fDisp, fpCons, fpNil, fDict0, fiAny, walkD, fiOver, dKeys, dVals, dPairs, fsOwnD, fsPut, fOwnIx, fPop, fsExt, fDc, compK, gInX, gNotInX, gIxX, fGet]
  exact ⟨d, 0, 2, rfl, hn, by rw [h]; exact ⟨rfl, z⟩⟩
def W_need_loose : FE := fun ρ k => ∃ (q : Int) (T : List (List Int)) (G : List Int) (d : D), ρ.sl = [.d (wishD q T G), .d d] ∧ (okD d ∧ ascB d q = true) ∧ k (d) ρ
theorem mW_need_loose (ρ : Rho) (k k' : KD) (hM : ∀ d ρ', k d ρ' → k' d ρ') (q : W_need_loose ρ k) : W_need_loose ρ k' := by
  obtain ⟨q, T, G, d, e1, e2, e3⟩ := q
  exact ⟨q, T, G, d, e1, e2, hM _ _ e3⟩
def U_need_loose (C_OutOfPlace : Addr) : FX := fun ρ k => ∃ q T G d, ρ.sl = [.d (wishD q T G), .d d] ∧ okD d ∧ ascB d q = false ∧ k (.ref C_OutOfPlace) [] ρ
theorem mU_need_loose (C_OutOfPlace : Addr) (ρ : Rho) (k k' : XC) (hM : ∀ c fl ρ', k c fl ρ' → k' c fl ρ') (z : U_need_loose C_OutOfPlace ρ k) : U_need_loose C_OutOfPlace ρ k' := by
  obtain ⟨q, T, G, d, e1, e2, e3, e4⟩ := z
  exact ⟨q, T, G, d, e1, e2, e3, hM _ _ _ e4⟩
abbrev s_need_loose : Stmt := top 32
theorem sc_need_loose : FnScope ["wish", "thing"] ["wish", "thing"] (defScope s_need_loose) := ⟨rfl, rfl, rfl, by decide +kernel, rfl, by decide +kernel, by decide +kernel⟩
def w_need_loose : FS := fsSeq (fsIf (ftNot (ftT (fCall 2 W_are_ascending (faD (flCons (fVar 1) (flCons (fOp gIx (fVar 0) (fC (.int 0))) (flNil))))))) (fsNever) (fsNext))
  (fsRet (fVar 1))
def u_need_loose (C_OutOfPlace : Addr) : FX := fxIf (ftNot (ftT (fCall 2 W_are_ascending (faD (flCons (fVar 1) (flCons (fOp gIx (fVar 0) (fC (.int 0))) (flNil))))))) (fxRaise (.ref C_OutOfPlace) (none) (fC (.str "loose: an ascending tuple of deeds is wanted"))) (fxNo)
theorem raw_need_loose {f : Addr} {fd : FuncData} {a_are_ascending : Addr} {d_are_ascending : FuncData} {C_OutOfPlace : Addr} {I_OutOfPlace : Addr} {D_OutOfPlace : FuncData} (F : Fun K "need_loose" "need_loose" s_need_loose f fd) (T : Txt mg) (g_are_ascending : mg "are_ascending" = some (.ref a_are_ascending)) (m_OutOfPlace : mg "OutOfPlace" = some (.ref C_OutOfPlace)) (G_are_ascending : FnG P w K mg base (L2.CX P w) 4 a_are_ascending d_are_ascending ["thing", "many"] (spD ⟨K, w, P⟩ (MM TT) 2 W_are_ascending)) (b_are_ascending : Binds K d_are_ascending ["thing", "many"] []) (k_are_ascending : PySem.W.keepIn K (.ref a_are_ascending) = true) (Z_OutOfPlace : ExC K C_OutOfPlace I_OutOfPlace) (N_OutOfPlace : FnOk P w K mg base (L2.CX P w) 1 I_OutOfPlace D_OutOfPlace ["self", "text"] (spExN C_OutOfPlace)) (B_OutOfPlace : Binds K D_OutOfPlace ["self", "text"] []) : FnG P w K mg base (L2.CX P w) (5) f fd ["wish", "thing"] (spX ⟨K, w, P⟩ (MM TT) 2 (fBody 2 w_need_loose) (fBodyX 2 (u_need_loose C_OutOfPlace))) := by
  refine fnX F sc_need_loose fun X cdv A outer s H E eX hgd hr tk po => ?_
  subst eX
  have nd := (sc_need_loose).nd
  have hu : (A.deeper (envOfC "need_loose" (defScope s_need_loose) s.heap.objs.size f cdv)).units + 64 < cLine := hr.units
  refine ⟨?_, ?_⟩
  · exact pds_cons (pds_if (pdt_not (pdt_truth (pd_call mW_are_ascending (G_are_ascending.mono (by decide)) hgd hr (by rfl) g_are_ascending k_are_ascending b_are_ascending (pda_d (pdl_cons (pd_var (pv 1)) (pdl_cons (pd_ix ix_any rd_ix (pd_var (pv 0)) (pd_int) (fun _ _ => rfl)) (pdl_nil))))))) (pds_one (pds_never)) (pds_nil))
          (pds_one (pds_ret (pd_var (pv 1))))
  · exact prs_hd (pr_if (pdt_not (pdt_truth (pd_call mW_are_ascending (G_are_ascending.mono (by decide)) hgd hr (by rfl) g_are_ascending k_are_ascending b_are_ascending (pda_d (pdl_cons (pd_var (pv 1)) (pdl_cons (pd_ix ix_any rd_ix (pd_var (pv 0)) (pd_int) (fun _ _ => rfl)) (pdl_nil))))))) (prs_hd (pr_raise0 rfl tk Z_OutOfPlace N_OutOfPlace (hr.mono (by decide)) B_OutOfPlace (by rfl) m_OutOfPlace (pd_str)) (pds_nil)) (prs_no (pds_nil))) (pds_one (pds_ret (pd_var (pv 1))))
theorem ok_need_loose : ∀ ρ k, W_need_loose ρ k → fBody 2 w_need_loose ρ k := by
  rintro ⟨sl, n⟩ k ⟨q, T, G, d, e, ⟨hn, h⟩, z⟩
  simp only at e
  subst e
  simp [w_need_loose]
  simp [and_assoc, Rho.set, dropOwn, ftLend, fLend, lendR, frz, ow, nList, -forall_exists_index, fBody, fsSeq, fsIf, fsRet, fsNext, fsDrop, fsAsg, fsNever, fsFor, fsOwn, fsPar2, fsPar3, fsPar_od, fsPar_do, fsPar_oo, fVar, fC, fUn, fOp, fChain, fTup, fLst, fCall, faD, faSt, flCons, flNil, fSl, foSome, foNone, fAnd, fOr, fNot, fIf, fOfN, fn1, fnLst, fnCat, fgN, fgTup, fgCons, fgNil, fiSeq, fiRange1, fiRange2, fiEnumA, fiZip, ftOr, ftAnd, ftNot, ftB, ftT, ftYes, truD_b, truD_i, truD_l, truD_t, truD_n, gIx_t0, gIx_t1, gIx_t2, gSl_t, gSl_l, gIsT, notDict, isT, isN, tyName, gLen_t, gLen_l, gTuple_l, gCmp, gAdd_ii, gAdd_ll, PD.gSub, gNeg, gMod, seqD, forD, wipeR, gEqA, gNeA, gEq_ii, gNe_ii, gEq_tt, gIn_ints, gIn_intsL, gNotIn_ints, gNotIn_intsL, fM0, fM1, fJoined, fJ, flStar, starD, fCall0, gIsTX, noInst_n, noInst_b, noInst_i, noInst_s, noInst_l, noInst_t, fFld, fMeth, fMake, faNil, fsFld, fLendO, fDisp, fpCons, fpNil, fDict0, fiAny, walkD, fiOver, dKeys, dVals, dPairs, fsOwnD, fsPut, fOwnIx, fPop, fsExt, fDc, compK, gInX, gNotInX, gIxX, fGet]
  exact ⟨d, q, rfl, hn, by rw [h]; rfl, z⟩
theorem okx_need_loose (C : Addr) : ∀ ρ k, U_need_loose C ρ k → fBodyX 2 (u_need_loose C) ρ k := by
  rintro ⟨sl, n⟩ k ⟨q, T, G, d, e, hn, h, z⟩
  simp only at e
  subst e
  simp [u_need_loose, fBodyX, fxOr, fxThen, fxIf, fxRaise, fxNo]
  simp [and_assoc, Rho.set, dropOwn, ftLend, fLend, lendR, frz, ow, nList, -forall_exists_index, fBody, fsSeq, fsIf, fsRet, fsNext, fsDrop, fsAsg, fsNever, fsFor, fsOwn, fsPar2, fsPar3, fsPar_od, fsPar_do, fsPar_oo, fVar, fC, fUn, fOp, fChain, fTup, fLst, fCall, faD, faSt, flCons, flNil, fSl, foSome, foNone, fAnd, fOr, fNot, fIf, fOfN, fn1, fnLst, fnCat, fgN, fgTup, fgCons, fgNil, fiSeq, fiRange1, fiRange2, fiEnumA, fiZip, ftOr, ftAnd, ftNot, ftB, ftT, ftYes, truD_b, truD_i, truD_l, truD_t, truD_n, gIx_t0, gIx_t1, gIx_t2, gSl_t, gSl_l, gIsT, notDict, isT, isN, tyName, gLen_t, gLen_l, gTuple_l, gCmp, gAdd_ii, gAdd_ll, PD.gSub, gNeg, gMod, seqD, forD, wipeR, gEqA, gNeA, gEq_ii, gNe_ii, gEq_tt, gIn_ints, gIn_intsL, gNotIn_ints, gNotIn_intsL, fM0, fM1, fJoined, fJ, flStar, starD, fCall0, gIsTX, noInst_n, noInst_b, noInst_i, noInst_s, noInst_l, noInst_t, fFld, fMeth, fMake, faNil, fsFld, fLendO, fDisp, fpCons, fpNil, fDict0, fiAny, walkD, fiOver, dKeys, dVals, dPairs, fsOwnD, fsPut, fOwnIx, fPop, fsExt, fDc, compK, gInX, gNotInX, gIxX, fGet]
  exact ⟨d, q, rfl, hn, by rw [h]; exact ⟨rfl, z⟩⟩
def W_need_both : FE := fun ρ k => ∃ (q : Int) (T : List (List Int)) (G : List Int) (q' : Int) (T' : List (List Int)) (G' : List Int), ρ.sl = [.d (wishD q T G), .d (wishD q' T' G')] ∧ (False) ∧ k (.none) ρ
theorem mW_need_both (ρ : Rho) (k k' : KD) (hM : ∀ d ρ', k d ρ' → k' d ρ') (q : W_need_both ρ k) : W_need_both ρ k' := by
  obtain ⟨q, T, G, q', T', G', e1, e2, e3⟩ := q
  exact ⟨q, T, G, q', T', G', e1, e2, hM _ _ e3⟩
def BadB (C_BadWish C_OutOfPlace : Addr) (d e : D) (k : XC) (ρ : Rho) : Prop :=
  (okW d ∧ ∃ p, wishErr d = some p ∧ bw C_BadWish p k ρ) ∨ ∃ q T G, d = wishD q T G ∧ WOK q T G ∧ ((okW e ∧ ∃ p, wishErr e = some p ∧ bw C_BadWish p k ρ) ∨ ∃ q' T' G', e = wishD q' T' G' ∧ WOK q' T' G' ∧ q ≠ q' ∧ k (.ref C_OutOfPlace) [] ρ)
def U_need_both (C_BadWish C_OutOfPlace : Addr) : FX := fun ρ k => ∃ d e, ρ.sl = [.d d, .d e] ∧ BadB C_BadWish C_OutOfPlace d e k ρ
theorem mU_need_both (C_BadWish C_OutOfPlace : Addr) (ρ : Rho) (k k' : XC) (hM : ∀ c fl ρ', k c fl ρ' → k' c fl ρ') (z : U_need_both C_BadWish C_OutOfPlace ρ k) : U_need_both C_BadWish C_OutOfPlace ρ k' := by
  obtain ⟨d, e, e1, h⟩ := z
  refine ⟨d, e, e1, ?_⟩
  rcases h with ⟨h1, p, h2, h3⟩ | ⟨q, T, G, h1, h2, ⟨h3, p, h4, h5⟩ | ⟨q', T', G', h3, h4, h5, h6⟩⟩
  · exact .inl ⟨h1, p, h2, hM _ _ _ h3⟩
  · exact .inr ⟨q, T, G, h1, h2, .inl ⟨h3, p, h4, hM _ _ _ h5⟩⟩
  · exact .inr ⟨q, T, G, h1, h2, .inr ⟨q', T', G', h3, h4, h5, hM _ _ _ h6⟩⟩
abbrev s_need_both : Stmt := top 51
theorem sc_need_both : FnScope ["wish", "other"] ["wish", "other"] (defScope s_need_both) := ⟨rfl, rfl, rfl, by decide +kernel, rfl, by decide +kernel, by decide +kernel⟩
def w_need_both : FS := fsSeq (fsDrop (fCall 1 W_need_wish (faD (flCons (fVar 0) (flNil)))))
  (fsSeq (fsDrop (fCall 1 W_need_wish (faD (flCons (fVar 1) (flNil)))))
  (fsIf (ftB (fOp gNeA (fOp gIx (fVar 0) (fC (.int 0))) (fOp gIx (fVar 1) (fC (.int 0))))) (fsNever) (fsNext)))
def u_need_both (C_BadWish C_OutOfPlace : Addr) : FX := fxOr (fxCall 1 (U_need_wish C_BadWish) (faD (flCons (fVar 0) (flNil)))) (fxThen (fsDrop (fCall 1 W_need_wish (faD (flCons (fVar 0) (flNil))))) (fxOr (fxCall 1 (U_need_wish C_BadWish) (faD (flCons (fVar 1) (flNil)))) (fxThen (fsDrop (fCall 1 W_need_wish (faD (flCons (fVar 1) (flNil))))) (fxIf (ftB (fOp gNeA (fOp gIx (fVar 0) (fC (.int 0))) (fOp gIx (fVar 1) (fC (.int 0))))) (fxRaise (.ref C_OutOfPlace) (none) (fC (.str "other: a wish with as many deeds is wanted"))) (fxNo)))))
theorem raw_need_both {f : Addr} {fd : FuncData} {a_need_wish : Addr} {d_need_wish : FuncData} {C_BadWish : Addr} {C_OutOfPlace : Addr} {I_OutOfPlace : Addr} {D_OutOfPlace : FuncData} (F : Fun K "_need_both" "_need_both" s_need_both f fd) (T : Txt mg) (g_need_wish : mg "need_wish" = some (.ref a_need_wish)) (m_OutOfPlace : mg "OutOfPlace" = some (.ref C_OutOfPlace)) (G_need_wish : FnG P w K mg base (L2.CX P w) 5 a_need_wish d_need_wish ["thing"] (spX ⟨K, w, P⟩ (MM TT) 1 W_need_wish (U_need_wish C_BadWish))) (b_need_wish : Binds K d_need_wish ["thing"] []) (k_need_wish : PySem.W.keepIn K (.ref a_need_wish) = true) (Z_OutOfPlace : ExC K C_OutOfPlace I_OutOfPlace) (N_OutOfPlace : FnOk P w K mg base (L2.CX P w) 1 I_OutOfPlace D_OutOfPlace ["self", "text"] (spExN C_OutOfPlace)) (B_OutOfPlace : Binds K D_OutOfPlace ["self", "text"] []) : FnG P w K mg base (L2.CX P w) (6) f fd ["wish", "other"] (spX ⟨K, w, P⟩ (MM TT) 2 (fBody 2 w_need_both) (fBodyX 2 (u_need_both C_BadWish C_OutOfPlace))) := by
  refine fnX F sc_need_both fun X cdv A outer s H E eX hgd hr tk po => ?_
  subst eX
  have nd := (sc_need_both).nd
  have hu : (A.deeper (envOfC "_need_both" (defScope s_need_both) s.heap.objs.size f cdv)).units + 64 < cLine := hr.units
  refine ⟨?_, ?_⟩
  · exact pds_cons (pds_expr (pd_call mW_need_wish (G_need_wish.left.mono (by decide)) hgd hr (by rfl) g_need_wish k_need_wish b_need_wish (pda_d (pdl_cons (pd_var (pv 0)) (pdl_nil)))))
          (pds_cons (pds_expr (pd_call mW_need_wish (G_need_wish.left.mono (by decide)) hgd hr (by rfl) g_need_wish k_need_wish b_need_wish (pda_d (pdl_cons (pd_var (pv 1)) (pdl_nil)))))
          (pds_one (pds_if (pdt_cmp (op_neA hu) rd_neA (pd_ix ix_any rd_ix (pd_var (pv 0)) (pd_int) (fun _ _ => rfl)) (pd_ix ix_any rd_ix (pd_var (pv 1)) (pd_int) (fun _ _ => rfl)) (by first | exact nomark _ | rfl)) (pds_one (pds_never)) (pds_nil))))
  · exact prs_or (prs_hd (pr_expr (px_call tk (mU_need_wish C_BadWish) (G_need_wish.right.mono (by decide)) hgd hr (by rfl) g_need_wish k_need_wish b_need_wish (pda_d (pdl_cons (pd_var (pv 0)) (pdl_nil))))) (pds_cons (pds_expr (pd_call mW_need_wish (G_need_wish.left.mono (by decide)) hgd hr (by rfl) g_need_wish k_need_wish b_need_wish (pda_d (pdl_cons (pd_var (pv 1)) (pdl_nil)))))
          (pds_one (pds_if (pdt_cmp (op_neA hu) rd_neA (pd_ix ix_any rd_ix (pd_var (pv 0)) (pd_int) (fun _ _ => rfl)) (pd_ix ix_any rd_ix (pd_var (pv 1)) (pd_int) (fun _ _ => rfl)) (by first | exact nomark _ | rfl)) (pds_one (pds_never)) (pds_nil)))))
          (prs_tl (pds_expr (pd_call mW_need_wish (G_need_wish.left.mono (by decide)) hgd hr (by rfl) g_need_wish k_need_wish b_need_wish (pda_d (pdl_cons (pd_var (pv 0)) (pdl_nil))))) (prs_or (prs_hd (pr_expr (px_call tk (mU_need_wish C_BadWish) (G_need_wish.right.mono (by decide)) hgd hr (by rfl) g_need_wish k_need_wish b_need_wish (pda_d (pdl_cons (pd_var (pv 1)) (pdl_nil))))) (pds_one (pds_if (pdt_cmp (op_neA hu) rd_neA (pd_ix ix_any rd_ix (pd_var (pv 0)) (pd_int) (fun _ _ => rfl)) (pd_ix ix_any rd_ix (pd_var (pv 1)) (pd_int) (fun _ _ => rfl)) (by first | exact nomark _ | rfl)) (pds_one (pds_never)) (pds_nil))))
          (prs_tl (pds_expr (pd_call mW_need_wish (G_need_wish.left.mono (by decide)) hgd hr (by rfl) g_need_wish k_need_wish b_need_wish (pda_d (pdl_cons (pd_var (pv 1)) (pdl_nil))))) (prs_hd (pr_if (pdt_cmp (op_neA hu) rd_neA (pd_ix ix_any rd_ix (pd_var (pv 0)) (pd_int) (fun _ _ => rfl)) (pd_ix ix_any rd_ix (pd_var (pv 1)) (pd_int) (fun _ _ => rfl)) (by first | exact nomark _ | rfl)) (prs_hd (pr_raise0 rfl tk Z_OutOfPlace N_OutOfPlace (hr.mono (by decide)) B_OutOfPlace (by rfl) m_OutOfPlace (pd_str)) (pds_nil)) (prs_no (pds_nil))) (pds_nil)))))
theorem ok_need_both : ∀ ρ k, W_need_both ρ k → fBody 2 w_need_both ρ k := by
  rintro ρ k ⟨_, _, _, _, _, _, _, h, _⟩
  exact h.elim
theorem okx_need_both (C C' : Addr) : ∀ ρ k, U_need_both C C' ρ k → fBodyX 2 (u_need_both C C') ρ k := by
  rintro ⟨sl, n⟩ k ⟨d, e, e1, h⟩
  simp only at e1
  subst e1
  simp [u_need_both, fBodyX, fxOr, fxThen, fxCall, fxIf, fxRaise, fxNo]
  simp [and_assoc, Rho.set, dropOwn, ftLend, fLend, lendR, frz, ow, nList, -forall_exists_index, fBody, fsSeq, fsIf, fsRet, fsNext, fsDrop, fsAsg, fsNever, fsFor, fsOwn, fsPar2, fsPar3, fsPar_od, fsPar_do, fsPar_oo, fVar, fC, fUn, fOp, fChain, fTup, fLst, fCall, faD, faSt, flCons, flNil, fSl, foSome, foNone, fAnd, fOr, fNot, fIf, fOfN, fn1, fnLst, fnCat, fgN, fgTup, fgCons, fgNil, fiSeq, fiRange1, fiRange2, fiEnumA, fiZip, ftOr, ftAnd, ftNot, ftB, ftT, ftYes, truD_b, truD_i, truD_l, truD_t, truD_n, gIx_t0, gIx_t1, gIx_t2, gSl_t, gSl_l, gIsT, notDict, isT, isN, tyName, gLen_t, gLen_l, gTuple_l, gCmp, gAdd_ii, gAdd_ll, PD.gSub, gNeg, gMod, seqD, forD, wipeR, gEqA, gNeA, gEq_ii, gNe_ii, gEq_tt, gIn_ints, gIn_intsL, gNotIn_ints, gNotIn_intsL, fM0, fM1, fJoined, fJ, flStar, starD, fCall0, gIsTX, noInst_n, noInst_b, noInst_i, noInst_s, noInst_l, noInst_t, fFld, fMeth, fMake, faNil, fsFld, fLendO, fDisp, fpCons, fpNil, fDict0, fiAny, walkD, fiOver, dKeys, dVals, dPairs, fsOwnD, fsPut, fOwnIx, fPop, fsExt, fDc, compK, gInX, gNotInX, gIxX, fGet]
  rcases h with ⟨h1, p, h2, h3⟩ | ⟨q, T, G, rfl, h2, ⟨h3, p, h4, h5⟩ | ⟨q', T', G', rfl, h4, h5, h6⟩⟩
  · exact .inl ⟨d, p, rfl, h1, h2, h3⟩
  · exact .inr ⟨q, T, G, rfl, h2, .inl ⟨e, p, rfl, h3, h4, h5⟩⟩
  · refine .inr ⟨q, T, G, rfl, h2, .inr ⟨q', T', G', rfl, h4, .int q, rfl, .int q', rfl, ?_⟩⟩
    refine ⟨.bool true, ?_, rfl, h6⟩
    show gNe (.int q) (.int q') = _
    rw [gNe_ii, decide_eq_false h5]
    rfl
def W_is_part : FE := fun _ _ => False
theorem mW_is_part (ρ : Rho) (k k' : KD) (_ : ∀ d ρ', k d ρ' → k' d ρ') (z : W_is_part ρ k) : W_is_part ρ k' := z
abbrev U_is_part := U_need_both
abbrev mU_is_part := mU_need_both
def W_parting : FE := fun _ _ => False
theorem mW_parting (ρ : Rho) (k k' : KD) (_ : ∀ d ρ', k d ρ' → k' d ρ') (z : W_parting ρ k) : W_parting ρ k' := z
abbrev U_parting := U_need_both
abbrev mU_parting := mU_need_both
def W_are_alike : FE := fun _ _ => False
theorem mW_are_alike (ρ : Rho) (k k' : KD) (_ : ∀ d ρ', k d ρ' → k' d ρ') (z : W_are_alike ρ k) : W_are_alike ρ k' := z
abbrev U_are_alike := U_need_both
abbrev mU_are_alike := mU_need_both
abbrev s_is_part : Stmt := top 47
theorem sc_is_part : FnScope ["wish", "other", "state", "beside"] ["wish", "other"] (defScope s_is_part) := ⟨rfl, rfl, rfl, by decide +kernel, rfl, by decide +kernel, by decide +kernel⟩
def w_is_part : FS := fsSeq (fsDrop (fCall 2 W_need_both (faD (flCons (fVar 0) (flCons (fVar 1) (flNil))))))
  (fsNever)
def u_is_part (C_BadWish C_OutOfPlace : Addr) : FX := fxCall 2 (U_need_both C_BadWish C_OutOfPlace) (faD (flCons (fVar 0) (flCons (fVar 1) (flNil))))
theorem raw_is_part {f : Addr} {fd : FuncData} {a_need_both : Addr} {d_need_both : FuncData} {C_BadWish : Addr} {C_OutOfPlace : Addr} (F : Fun K "is_part" "is_part" s_is_part f fd) (T : Txt mg) (g_need_both : mg "_need_both" = some (.ref a_need_both)) (G_need_both : FnG P w K mg base (L2.CX P w) 6 a_need_both d_need_both ["wish", "other"] (spX ⟨K, w, P⟩ (MM TT) 2 W_need_both (U_need_both C_BadWish C_OutOfPlace))) (b_need_both : Binds K d_need_both ["wish", "other"] []) (k_need_both : PySem.W.keepIn K (.ref a_need_both) = true) : FnG P w K mg base (L2.CX P w) (7) f fd ["wish", "other"] (spX ⟨K, w, P⟩ (MM TT) 2 (fBody 4 w_is_part) (fBodyX 4 (u_is_part C_BadWish C_OutOfPlace))) := by
  refine fnX F sc_is_part fun X cdv A outer s H E eX hgd hr tk po => ?_
  subst eX
  have nd := (sc_is_part).nd
  have hu : (A.deeper (envOfC "is_part" (defScope s_is_part) s.heap.objs.size f cdv)).units + 64 < cLine := hr.units
  refine ⟨?_, ?_⟩
  · exact pds_cons (pds_expr (pd_call mW_need_both (G_need_both.left.mono (by decide)) hgd hr (by rfl) g_need_both k_need_both b_need_both (pda_d (pdl_cons (pd_var (pv 0)) (pdl_cons (pd_var (pv 1)) (pdl_nil))))))
          (pds_any)
  · exact prs_hd (pr_expr (px_call tk (mU_need_both C_BadWish C_OutOfPlace) (G_need_both.right.mono (by decide)) hgd hr (by rfl) g_need_both k_need_both b_need_both (pda_d (pdl_cons (pd_var (pv 0)) (pdl_cons (pd_var (pv 1)) (pdl_nil)))))) (pds_any)
theorem ok_is_part : ∀ ρ k, W_is_part ρ k → fBody 4 w_is_part ρ k := fun _ _ h => h.elim
theorem okx_is_part (C C' : Addr) : ∀ ρ k, U_is_part C C' ρ k → fBodyX 4 (u_is_part C C') ρ k := by
  rintro ⟨sl, n⟩ k ⟨d, e, e1, h⟩
  simp only at e1
  subst e1
  simp [u_is_part, fBodyX, fxCall]
  simp [and_assoc, Rho.set, dropOwn, ftLend, fLend, lendR, frz, ow, nList, -forall_exists_index, fBody, fsSeq, fsIf, fsRet, fsNext, fsDrop, fsAsg, fsNever, fsFor, fsOwn, fsPar2, fsPar3, fsPar_od, fsPar_do, fsPar_oo, fVar, fC, fUn, fOp, fChain, fTup, fLst, fCall, faD, faSt, flCons, flNil, fSl, foSome, foNone, fAnd, fOr, fNot, fIf, fOfN, fn1, fnLst, fnCat, fgN, fgTup, fgCons, fgNil, fiSeq, fiRange1, fiRange2, fiEnumA, fiZip, ftOr, ftAnd, ftNot, ftB, ftT, ftYes, truD_b, truD_i, truD_l, truD_t, truD_n, gIx_t0, gIx_t1, gIx_t2, gSl_t, gSl_l, gIsT, notDict, isT, isN, tyName, gLen_t, gLen_l, gTuple_l, gCmp, gAdd_ii, gAdd_ll, PD.gSub, gNeg, gMod, seqD, forD, wipeR, gEqA, gNeA, gEq_ii, gNe_ii, gEq_tt, gIn_ints, gIn_intsL, gNotIn_ints, gNotIn_intsL, fM0, fM1, fJoined, fJ, flStar, starD, fCall0, gIsTX, noInst_n, noInst_b, noInst_i, noInst_s, noInst_l, noInst_t, fFld, fMeth, fMake, faNil, fsFld, fLendO, fDisp, fpCons, fpNil, fDict0, fiAny, walkD, fiOver, dKeys, dVals, dPairs, fsOwnD, fsPut, fOwnIx, fPop, fsExt, fDc, compK, gInX, gNotInX, gIxX, fGet]
  exact ⟨d, e, rfl, h⟩
abbrev s_parting : Stmt := top 49
theorem sc_parting : FnScope ["wish", "other", "runs", "state", "beside"] ["wish", "other"] (defScope s_parting) := ⟨rfl, rfl, rfl, by decide +kernel, rfl, by decide +kernel, by decide +kernel⟩
def w_parting : FS := fsSeq (fsDrop (fCall 2 W_need_both (faD (flCons (fVar 0) (flCons (fVar 1) (flNil))))))
  (fsNever)
def u_parting (C_BadWish C_OutOfPlace : Addr) : FX := fxCall 2 (U_need_both C_BadWish C_OutOfPlace) (faD (flCons (fVar 0) (flCons (fVar 1) (flNil))))
theorem raw_parting {f : Addr} {fd : FuncData} {a_need_both : Addr} {d_need_both : FuncData} {C_BadWish : Addr} {C_OutOfPlace : Addr} (F : Fun K "parting" "parting" s_parting f fd) (T : Txt mg) (g_need_both : mg "_need_both" = some (.ref a_need_both)) (G_need_both : FnG P w K mg base (L2.CX P w) 6 a_need_both d_need_both ["wish", "other"] (spX ⟨K, w, P⟩ (MM TT) 2 W_need_both (U_need_both C_BadWish C_OutOfPlace))) (b_need_both : Binds K d_need_both ["wish", "other"] []) (k_need_both : PySem.W.keepIn K (.ref a_need_both) = true) : FnG P w K mg base (L2.CX P w) (7) f fd ["wish", "other"] (spX ⟨K, w, P⟩ (MM TT) 2 (fBody 5 w_parting) (fBodyX 5 (u_parting C_BadWish C_OutOfPlace))) := by
  refine fnX F sc_parting fun X cdv A outer s H E eX hgd hr tk po => ?_
  subst eX
  have nd := (sc_parting).nd
  have hu : (A.deeper (envOfC "parting" (defScope s_parting) s.heap.objs.size f cdv)).units + 64 < cLine := hr.units
  refine ⟨?_, ?_⟩
  · exact pds_cons (pds_expr (pd_call mW_need_both (G_need_both.left.mono (by decide)) hgd hr (by rfl) g_need_both k_need_both b_need_both (pda_d (pdl_cons (pd_var (pv 0)) (pdl_cons (pd_var (pv 1)) (pdl_nil))))))
          (pds_any)
  · exact prs_hd (pr_expr (px_call tk (mU_need_both C_BadWish C_OutOfPlace) (G_need_both.right.mono (by decide)) hgd hr (by rfl) g_need_both k_need_both b_need_both (pda_d (pdl_cons (pd_var (pv 0)) (pdl_cons (pd_var (pv 1)) (pdl_nil)))))) (pds_any)
theorem ok_parting : ∀ ρ k, W_parting ρ k → fBody 5 w_parting ρ k := fun _ _ h => h.elim
theorem okx_parting (C C' : Addr) : ∀ ρ k, U_parting C C' ρ k → fBodyX 5 (u_parting C C') ρ k := by
  rintro ⟨sl, n⟩ k ⟨d, e, e1, h⟩
  simp only at e1
  subst e1
  simp [u_parting, fBodyX, fxCall]
  simp [and_assoc, Rho.set, dropOwn, ftLend, fLend, lendR, frz, ow, nList, -forall_exists_index, fBody, fsSeq, fsIf, fsRet, fsNext, fsDrop, fsAsg, fsNever, fsFor, fsOwn, fsPar2, fsPar3, fsPar_od, fsPar_do, fsPar_oo, fVar, fC, fUn, fOp, fChain, fTup, fLst, fCall, faD, faSt, flCons, flNil, fSl, foSome, foNone, fAnd, fOr, fNot, fIf, fOfN, fn1, fnLst, fnCat, fgN, fgTup, fgCons, fgNil, fiSeq, fiRange1, fiRange2, fiEnumA, fiZip, ftOr, ftAnd, ftNot, ftB, ftT, ftYes, truD_b, truD_i, truD_l, truD_t, truD_n, gIx_t0, gIx_t1, gIx_t2, gSl_t, gSl_l, gIsT, notDict, isT, isN, tyName, gLen_t, gLen_l, gTuple_l, gCmp, gAdd_ii, gAdd_ll, PD.gSub, gNeg, gMod, seqD, forD, wipeR, gEqA, gNeA, gEq_ii, gNe_ii, gEq_tt, gIn_ints, gIn_intsL, gNotIn_ints, gNotIn_intsL, fM0, fM1, fJoined, fJ, flStar, starD, fCall0, gIsTX, noInst_n, noInst_b, noInst_i, noInst_s, noInst_l, noInst_t, fFld, fMeth, fMake, faNil, fsFld, fLendO, fDisp, fpCons, fpNil, fDict0, fiAny, walkD, fiOver, dKeys, dVals, dPairs, fsOwnD, fsPut, fOwnIx, fPop, fsExt, fDc, compK, gInX, gNotInX, gIxX, fGet]
  exact ⟨d, e, rfl, h⟩
abbrev s_are_alike : Stmt := top 48
theorem sc_are_alike : FnScope ["wish", "other"] ["wish", "other"] (defScope s_are_alike) := ⟨rfl, rfl, rfl, by decide +kernel, rfl, by decide +kernel, by decide +kernel⟩
def w_are_alike : FS := fsRet (fOp gIsN (fCall 2 W_parting (faD (flCons (fVar 0) (flCons (fVar 1) (flNil))))) (fC .none))
def u_are_alike (C_BadWish C_OutOfPlace : Addr) : FX := fxCall 2 (U_parting C_BadWish C_OutOfPlace) (faD (flCons (fVar 0) (flCons (fVar 1) (flNil))))
theorem raw_are_alike {f : Addr} {fd : FuncData} {a_parting : Addr} {d_parting : FuncData} {C_BadWish : Addr} {C_OutOfPlace : Addr} (F : Fun K "are_alike" "are_alike" s_are_alike f fd) (T : Txt mg) (g_parting : mg "parting" = some (.ref a_parting)) (G_parting : FnG P w K mg base (L2.CX P w) 7 a_parting d_parting ["wish", "other"] (spX ⟨K, w, P⟩ (MM TT) 2 W_parting (U_parting C_BadWish C_OutOfPlace))) (b_parting : Binds K d_parting ["wish", "other"] []) (k_parting : PySem.W.keepIn K (.ref a_parting) = true) : FnG P w K mg base (L2.CX P w) (8) f fd ["wish", "other"] (spX ⟨K, w, P⟩ (MM TT) 2 (fBody 2 w_are_alike) (fBodyX 2 (u_are_alike C_BadWish C_OutOfPlace))) := by
  refine fnX F sc_are_alike fun X cdv A outer s H E eX hgd hr tk po => ?_
  subst eX
  have nd := (sc_are_alike).nd
  have hu : (A.deeper (envOfC "are_alike" (defScope s_are_alike) s.heap.objs.size f cdv)).units + 64 < cLine := hr.units
  refine ⟨?_, ?_⟩
  · exact pds_one (pds_ret (pd_cmp op_isN rd_isN (pd_call mW_parting (G_parting.left.mono (by decide)) hgd hr (by rfl) g_parting k_parting b_parting (pda_d (pdl_cons (pd_var (pv 0)) (pdl_cons (pd_var (pv 1)) (pdl_nil))))) (pd_non) (by first | exact nomark _ | rfl)))
  · exact prs_hd (pr_ret (px_cmpl op_isN (px_call tk (mU_parting C_BadWish C_OutOfPlace) (G_parting.right.mono (by decide)) hgd hr (by rfl) g_parting k_parting b_parting (pda_d (pdl_cons (pd_var (pv 0)) (pdl_cons (pd_var (pv 1)) (pdl_nil))))) (pd_non) (by first | exact nomark _ | rfl))) (pds_nil)
theorem ok_are_alike : ∀ ρ k, W_are_alike ρ k → fBody 2 w_are_alike ρ k := fun _ _ h => h.elim
theorem okx_are_alike (C C' : Addr) : ∀ ρ k, U_are_alike C C' ρ k → fBodyX 2 (u_are_alike C C') ρ k := by
  rintro ⟨sl, n⟩ k ⟨d, e, e1, h⟩
  simp only at e1
  subst e1
  simp [u_are_alike, fBodyX, fxCall]
  simp [and_assoc, Rho.set, dropOwn, ftLend, fLend, lendR, frz, ow, nList, -forall_exists_index, fBody, fsSeq, fsIf, fsRet, fsNext, fsDrop, fsAsg, fsNever, fsFor, fsOwn, fsPar2, fsPar3, fsPar_od, fsPar_do, fsPar_oo, fVar, fC, fUn, fOp, fChain, fTup, fLst, fCall, faD, faSt, flCons, flNil, fSl, foSome, foNone, fAnd, fOr, fNot, fIf, fOfN, fn1, fnLst, fnCat, fgN, fgTup, fgCons, fgNil, fiSeq, fiRange1, fiRange2, fiEnumA, fiZip, ftOr, ftAnd, ftNot, ftB, ftT, ftYes, truD_b, truD_i, truD_l, truD_t, truD_n, gIx_t0, gIx_t1, gIx_t2, gSl_t, gSl_l, gIsT, notDict, isT, isN, tyName, gLen_t, gLen_l, gTuple_l, gCmp, gAdd_ii, gAdd_ll, PD.gSub, gNeg, gMod, seqD, forD, wipeR, gEqA, gNeA, gEq_ii, gNe_ii, gEq_tt, gIn_ints, gIn_intsL, gNotIn_ints, gNotIn_intsL, fM0, fM1, fJoined, fJ, flStar, starD, fCall0, gIsTX, noInst_n, noInst_b, noInst_i, noInst_s, noInst_l, noInst_t, fFld, fMeth, fMake, faNil, fsFld, fLendO, fDisp, fpCons, fpNil, fDict0, fiAny, walkD, fiOver, dKeys, dVals, dPairs, fsOwnD, fsPut, fOwnIx, fPop, fsExt, fDc, compK, gInX, gNotInX, gIxX, fGet]
  exact ⟨d, e, rfl, h⟩
def W_least_hold : FE := fun _ _ => False
theorem mW_least_hold (ρ : Rho) (k k' : KD) (_ : ∀ d ρ', k d ρ' → k' d ρ') (z : W_least_hold ρ k) : W_least_hold ρ k' := z
def U_least_hold (C C' : Addr) : FX := fun ρ k => ∃ d e l, ρ.sl = [.d d, .d e, .d l] ∧ ((okW d ∧ ∃ p, wishErr d = some p ∧ bw C p k ρ) ∨ ∃ q T G, d = wishD q T G ∧ WOK q T G ∧ noInst e = true ∧ (intB e 0 2 = false ∨ intB e 0 2 = true ∧ okD l ∧ ascB l q = false) ∧ k (.ref C') [] ρ)
theorem mU_least_hold (C C' : Addr) (ρ : Rho) (k k' : XC) (hM : ∀ c fl ρ', k c fl ρ' → k' c fl ρ') (z : U_least_hold C C' ρ k) : U_least_hold C C' ρ k' := by
  obtain ⟨d, e, l, e1, ⟨e2, p, e3, e4⟩ | ⟨q, T, G, e2, e3, e4, e5, e6⟩⟩ := z
  · exact ⟨d, e, l, e1, .inl ⟨e2, p, e3, hM _ _ _ e4⟩⟩
  · exact ⟨d, e, l, e1, .inr ⟨q, T, G, e2, e3, e4, e5, hM _ _ _ e6⟩⟩
abbrev s_least_hold : Stmt := top 40
theorem sc_least_hold : FnScope ["wish", "ahead", "loose", "hold"] ["wish", "ahead", "loose"] (defScope s_least_hold) := ⟨rfl, rfl, rfl, by decide +kernel, rfl, by decide +kernel, by decide +kernel⟩
def w_least_hold : FS := fsSeq (fsDrop (fCall 1 W_need_wish (faD (flCons (fVar 0) (flNil)))))
  (fsSeq (fsDrop (fCall 1 W_need_ahead (faD (flCons (fVar 1) (flNil)))))
  (fsSeq (fsDrop (fCall 2 W_need_loose (faD (flCons (fVar 0) (flCons (fVar 2) (flNil))))))
  (fsNever)))
def u_least_hold (C_BadWish C_OutOfPlace : Addr) : FX := fxOr (fxCall 1 (U_need_wish C_BadWish) (faD (flCons (fVar 0) (flNil)))) (fxThen (fsDrop (fCall 1 W_need_wish (faD (flCons (fVar 0) (flNil))))) (fxOr (fxCall 1 (U_need_ahead C_OutOfPlace) (faD (flCons (fVar 1) (flNil)))) (fxThen (fsDrop (fCall 1 W_need_ahead (faD (flCons (fVar 1) (flNil))))) (fxCall 2 (U_need_loose C_OutOfPlace) (faD (flCons (fVar 0) (flCons (fVar 2) (flNil))))))))
theorem raw_least_hold {f : Addr} {fd : FuncData} {a_need_wish : Addr} {d_need_wish : FuncData} {a_need_ahead : Addr} {d_need_ahead : FuncData} {a_need_loose : Addr} {d_need_loose : FuncData} {C_BadWish : Addr} {C_OutOfPlace : Addr} (F : Fun K "least_hold" "least_hold" s_least_hold f fd) (T : Txt mg) (g_need_wish : mg "need_wish" = some (.ref a_need_wish)) (g_need_ahead : mg "need_ahead" = some (.ref a_need_ahead)) (g_need_loose : mg "need_loose" = some (.ref a_need_loose)) (G_need_wish : FnG P w K mg base (L2.CX P w) 5 a_need_wish d_need_wish ["thing"] (spX ⟨K, w, P⟩ (MM TT) 1 W_need_wish (U_need_wish C_BadWish))) (b_need_wish : Binds K d_need_wish ["thing"] []) (k_need_wish : PySem.W.keepIn K (.ref a_need_wish) = true) (G_need_ahead : FnG P w K mg base (L2.CX P w) 3 a_need_ahead d_need_ahead ["thing"] (spX ⟨K, w, P⟩ (MM TT) 1 W_need_ahead (U_need_ahead C_OutOfPlace))) (b_need_ahead : Binds K d_need_ahead ["thing"] []) (k_need_ahead : PySem.W.keepIn K (.ref a_need_ahead) = true) (G_need_loose : FnG P w K mg base (L2.CX P w) 5 a_need_loose d_need_loose ["wish", "thing"] (spX ⟨K, w, P⟩ (MM TT) 2 W_need_loose (U_need_loose C_OutOfPlace))) (b_need_loose : Binds K d_need_loose ["wish", "thing"] []) (k_need_loose : PySem.W.keepIn K (.ref a_need_loose) = true) : FnG P w K mg base (L2.CX P w) (6) f fd ["wish", "ahead", "loose"] (spX ⟨K, w, P⟩ (MM TT) 3 (fBody 4 w_least_hold) (fBodyX 4 (u_least_hold C_BadWish C_OutOfPlace))) := by
  refine fnX F sc_least_hold fun X cdv A outer s H E eX hgd hr tk po => ?_
  subst eX
  have nd := (sc_least_hold).nd
  have hu : (A.deeper (envOfC "least_hold" (defScope s_least_hold) s.heap.objs.size f cdv)).units + 64 < cLine := hr.units
  refine ⟨?_, ?_⟩
  · exact pds_cons (pds_expr (pd_call mW_need_wish (G_need_wish.left.mono (by decide)) hgd hr (by rfl) g_need_wish k_need_wish b_need_wish (pda_d (pdl_cons (pd_var (pv 0)) (pdl_nil)))))
          (pds_cons (pds_expr (pd_call mW_need_ahead (G_need_ahead.left.mono (by decide)) hgd hr (by rfl) g_need_ahead k_need_ahead b_need_ahead (pda_d (pdl_cons (pd_var (pv 1)) (pdl_nil)))))
          (pds_cons (pds_expr (pd_call mW_need_loose (G_need_loose.left.mono (by decide)) hgd hr (by rfl) g_need_loose k_need_loose b_need_loose (pda_d (pdl_cons (pd_var (pv 0)) (pdl_cons (pd_var (pv 2)) (pdl_nil))))))
          (pds_any)))
  · exact prs_or (prs_hd (pr_expr (px_call tk (mU_need_wish C_BadWish) (G_need_wish.right.mono (by decide)) hgd hr (by rfl) g_need_wish k_need_wish b_need_wish (pda_d (pdl_cons (pd_var (pv 0)) (pdl_nil))))) (pds_cons (pds_expr (pd_call mW_need_ahead (G_need_ahead.left.mono (by decide)) hgd hr (by rfl) g_need_ahead k_need_ahead b_need_ahead (pda_d (pdl_cons (pd_var (pv 1)) (pdl_nil)))))
          (pds_cons (pds_expr (pd_call mW_need_loose (G_need_loose.left.mono (by decide)) hgd hr (by rfl) g_need_loose k_need_loose b_need_loose (pda_d (pdl_cons (pd_var (pv 0)) (pdl_cons (pd_var (pv 2)) (pdl_nil))))))
          (pds_any))))
          (prs_tl (pds_expr (pd_call mW_need_wish (G_need_wish.left.mono (by decide)) hgd hr (by rfl) g_need_wish k_need_wish b_need_wish (pda_d (pdl_cons (pd_var (pv 0)) (pdl_nil))))) (prs_or (prs_hd (pr_expr (px_call tk (mU_need_ahead C_OutOfPlace) (G_need_ahead.right.mono (by decide)) hgd hr (by rfl) g_need_ahead k_need_ahead b_need_ahead (pda_d (pdl_cons (pd_var (pv 1)) (pdl_nil))))) (pds_cons (pds_expr (pd_call mW_need_loose (G_need_loose.left.mono (by decide)) hgd hr (by rfl) g_need_loose k_need_loose b_need_loose (pda_d (pdl_cons (pd_var (pv 0)) (pdl_cons (pd_var (pv 2)) (pdl_nil))))))
          (pds_any)))
          (prs_tl (pds_expr (pd_call mW_need_ahead (G_need_ahead.left.mono (by decide)) hgd hr (by rfl) g_need_ahead k_need_ahead b_need_ahead (pda_d (pdl_cons (pd_var (pv 1)) (pdl_nil))))) (prs_hd (pr_expr (px_call tk (mU_need_loose C_OutOfPlace) (G_need_loose.right.mono (by decide)) hgd hr (by rfl) g_need_loose k_need_loose b_need_loose (pda_d (pdl_cons (pd_var (pv 0)) (pdl_cons (pd_var (pv 2)) (pdl_nil)))))) (pds_any)))))
theorem ok_least_hold : ∀ ρ k, W_least_hold ρ k → fBody 4 w_least_hold ρ k := fun _ _ h => h.elim
theorem okx_least_hold (C C' : Addr) : ∀ ρ k, U_least_hold C C' ρ k → fBodyX 4 (u_least_hold C C') ρ k := by
  rintro ⟨sl, n⟩ k ⟨d, e, l, e1, h⟩
  simp only at e1
  subst e1
  simp [u_least_hold, fBodyX, fxCall, fxOr, fxThen]
  simp [and_assoc, Rho.set, dropOwn, ftLend, fLend, lendR, frz, ow, nList, -forall_exists_index, fBody, fsSeq, fsIf, fsRet, fsNext, fsDrop, fsAsg, fsNever, fsFor, fsOwn, fsPar2, fsPar3, fsPar_od, fsPar_do, fsPar_oo, fVar, fC, fUn, fOp, fChain, fTup, fLst, fCall, faD, faSt, flCons, flNil, fSl, foSome, foNone, fAnd, fOr, fNot, fIf, fOfN, fn1, fnLst, fnCat, fgN, fgTup, fgCons, fgNil, fiSeq, fiRange1, fiRange2, fiEnumA, fiZip, ftOr, ftAnd, ftNot, ftB, ftT, ftYes, truD_b, truD_i, truD_l, truD_t, truD_n, gIx_t0, gIx_t1, gIx_t2, gSl_t, gSl_l, gIsT, notDict, isT, isN, tyName, gLen_t, gLen_l, gTuple_l, gCmp, gAdd_ii, gAdd_ll, PD.gSub, gNeg, gMod, seqD, forD, wipeR, gEqA, gNeA, gEq_ii, gNe_ii, gEq_tt, gIn_ints, gIn_intsL, gNotIn_ints, gNotIn_intsL, fM0, fM1, fJoined, fJ, flStar, starD, fCall0, gIsTX, noInst_n, noInst_b, noInst_i, noInst_s, noInst_l, noInst_t, fFld, fMeth, fMake, faNil, fsFld, fLendO, fDisp, fpCons, fpNil, fDict0, fiAny, walkD, fiOver, dKeys, dVals, dPairs, fsOwnD, fsPut, fOwnIx, fPop, fsExt, fDc, compK, gInX, gNotInX, gIxX, fGet]
  rcases h with ⟨h1, p, h2, h3⟩ | ⟨q, T, G, rfl, w, he, h4 | ⟨h4, h5, h6⟩, z⟩
  · exact .inl ⟨d, p, rfl, h1, h2, h3⟩
  · exact .inr ⟨q, T, G, rfl, w, .inl ⟨e, rfl, he, h4, z⟩⟩
  · exact .inr ⟨q, T, G, rfl, w, .inr ⟨e, rfl, ⟨he, h4⟩, q, T, G, l, rfl, h5, h6, z⟩⟩
def W_least_ahead : FE := fun _ _ => False
theorem mW_least_ahead (ρ : Rho) (k k' : KD) (_ : ∀ d ρ', k d ρ' → k' d ρ') (z : W_least_ahead ρ k) : W_least_ahead ρ k' := z
def U_least_ahead (C C' : Addr) : FX := fun ρ k => ∃ d e l, ρ.sl = [.d d, .d e, .d l] ∧ ((okW d ∧ ∃ p, wishErr d = some p ∧ bw C p k ρ) ∨ ∃ q T G, d = wishD q T G ∧ WOK q T G ∧ noInst e = true ∧ (intB e 0 3 = false ∨ intB e 0 3 = true ∧ okD l ∧ ascB l q = false) ∧ k (.ref C') [] ρ)
theorem mU_least_ahead (C C' : Addr) (ρ : Rho) (k k' : XC) (hM : ∀ c fl ρ', k c fl ρ' → k' c fl ρ') (z : U_least_ahead C C' ρ k) : U_least_ahead C C' ρ k' := by
  obtain ⟨d, e, l, e1, ⟨e2, p, e3, e4⟩ | ⟨q, T, G, e2, e3, e4, e5, e6⟩⟩ := z
  · exact ⟨d, e, l, e1, .inl ⟨e2, p, e3, hM _ _ _ e4⟩⟩
  · exact ⟨d, e, l, e1, .inr ⟨q, T, G, e2, e3, e4, e5, hM _ _ _ e6⟩⟩
abbrev s_least_ahead : Stmt := top 41
theorem sc_least_ahead : FnScope ["wish", "hold", "loose", "ahead"] ["wish", "hold", "loose"] (defScope s_least_ahead) := ⟨rfl, rfl, rfl, by decide +kernel, rfl, by decide +kernel, by decide +kernel⟩
def w_least_ahead : FS := fsSeq (fsDrop (fCall 1 W_need_wish (faD (flCons (fVar 0) (flNil)))))
  (fsSeq (fsDrop (fCall 1 W_need_hold (faD (flCons (fVar 1) (flNil)))))
  (fsSeq (fsDrop (fCall 2 W_need_loose (faD (flCons (fVar 0) (flCons (fVar 2) (flNil))))))
  (fsNever)))
def u_least_ahead (C_BadWish C_OutOfPlace : Addr) : FX := fxOr (fxCall 1 (U_need_wish C_BadWish) (faD (flCons (fVar 0) (flNil)))) (fxThen (fsDrop (fCall 1 W_need_wish (faD (flCons (fVar 0) (flNil))))) (fxOr (fxCall 1 (U_need_hold C_OutOfPlace) (faD (flCons (fVar 1) (flNil)))) (fxThen (fsDrop (fCall 1 W_need_hold (faD (flCons (fVar 1) (flNil))))) (fxCall 2 (U_need_loose C_OutOfPlace) (faD (flCons (fVar 0) (flCons (fVar 2) (flNil))))))))
theorem raw_least_ahead {f : Addr} {fd : FuncData} {a_need_wish : Addr} {d_need_wish : FuncData} {a_need_hold : Addr} {d_need_hold : FuncData} {a_need_loose : Addr} {d_need_loose : FuncData} {C_BadWish : Addr} {C_OutOfPlace : Addr} (F : Fun K "least_ahead" "least_ahead" s_least_ahead f fd) (T : Txt mg) (g_need_wish : mg "need_wish" = some (.ref a_need_wish)) (g_need_hold : mg "need_hold" = some (.ref a_need_hold)) (g_need_loose : mg "need_loose" = some (.ref a_need_loose)) (G_need_wish : FnG P w K mg base (L2.CX P w) 5 a_need_wish d_need_wish ["thing"] (spX ⟨K, w, P⟩ (MM TT) 1 W_need_wish (U_need_wish C_BadWish))) (b_need_wish : Binds K d_need_wish ["thing"] []) (k_need_wish : PySem.W.keepIn K (.ref a_need_wish) = true) (G_need_hold : FnG P w K mg base (L2.CX P w) 3 a_need_hold d_need_hold ["thing"] (spX ⟨K, w, P⟩ (MM TT) 1 W_need_hold (U_need_hold C_OutOfPlace))) (b_need_hold : Binds K d_need_hold ["thing"] []) (k_need_hold : PySem.W.keepIn K (.ref a_need_hold) = true) (G_need_loose : FnG P w K mg base (L2.CX P w) 5 a_need_loose d_need_loose ["wish", "thing"] (spX ⟨K, w, P⟩ (MM TT) 2 W_need_loose (U_need_loose C_OutOfPlace))) (b_need_loose : Binds K d_need_loose ["wish", "thing"] []) (k_need_loose : PySem.W.keepIn K (.ref a_need_loose) = true) : FnG P w K mg base (L2.CX P w) (6) f fd ["wish", "hold", "loose"] (spX ⟨K, w, P⟩ (MM TT) 3 (fBody 4 w_least_ahead) (fBodyX 4 (u_least_ahead C_BadWish C_OutOfPlace))) := by
  refine fnX F sc_least_ahead fun X cdv A outer s H E eX hgd hr tk po => ?_
  subst eX
  have nd := (sc_least_ahead).nd
  have hu : (A.deeper (envOfC "least_ahead" (defScope s_least_ahead) s.heap.objs.size f cdv)).units + 64 < cLine := hr.units
  refine ⟨?_, ?_⟩
  · exact pds_cons (pds_expr (pd_call mW_need_wish (G_need_wish.left.mono (by decide)) hgd hr (by rfl) g_need_wish k_need_wish b_need_wish (pda_d (pdl_cons (pd_var (pv 0)) (pdl_nil)))))
          (pds_cons (pds_expr (pd_call mW_need_hold (G_need_hold.left.mono (by decide)) hgd hr (by rfl) g_need_hold k_need_hold b_need_hold (pda_d (pdl_cons (pd_var (pv 1)) (pdl_nil)))))
          (pds_cons (pds_expr (pd_call mW_need_loose (G_need_loose.left.mono (by decide)) hgd hr (by rfl) g_need_loose k_need_loose b_need_loose (pda_d (pdl_cons (pd_var (pv 0)) (pdl_cons (pd_var (pv 2)) (pdl_nil))))))
          (pds_any)))
  · exact prs_or (prs_hd (pr_expr (px_call tk (mU_need_wish C_BadWish) (G_need_wish.right.mono (by decide)) hgd hr (by rfl) g_need_wish k_need_wish b_need_wish (pda_d (pdl_cons (pd_var (pv 0)) (pdl_nil))))) (pds_cons (pds_expr (pd_call mW_need_hold (G_need_hold.left.mono (by decide)) hgd hr (by rfl) g_need_hold k_need_hold b_need_hold (pda_d (pdl_cons (pd_var (pv 1)) (pdl_nil)))))
          (pds_cons (pds_expr (pd_call mW_need_loose (G_need_loose.left.mono (by decide)) hgd hr (by rfl) g_need_loose k_need_loose b_need_loose (pda_d (pdl_cons (pd_var (pv 0)) (pdl_cons (pd_var (pv 2)) (pdl_nil))))))
          (pds_any))))
          (prs_tl (pds_expr (pd_call mW_need_wish (G_need_wish.left.mono (by decide)) hgd hr (by rfl) g_need_wish k_need_wish b_need_wish (pda_d (pdl_cons (pd_var (pv 0)) (pdl_nil))))) (prs_or (prs_hd (pr_expr (px_call tk (mU_need_hold C_OutOfPlace) (G_need_hold.right.mono (by decide)) hgd hr (by rfl) g_need_hold k_need_hold b_need_hold (pda_d (pdl_cons (pd_var (pv 1)) (pdl_nil))))) (pds_cons (pds_expr (pd_call mW_need_loose (G_need_loose.left.mono (by decide)) hgd hr (by rfl) g_need_loose k_need_loose b_need_loose (pda_d (pdl_cons (pd_var (pv 0)) (pdl_cons (pd_var (pv 2)) (pdl_nil))))))
          (pds_any)))
          (prs_tl (pds_expr (pd_call mW_need_hold (G_need_hold.left.mono (by decide)) hgd hr (by rfl) g_need_hold k_need_hold b_need_hold (pda_d (pdl_cons (pd_var (pv 1)) (pdl_nil))))) (prs_hd (pr_expr (px_call tk (mU_need_loose C_OutOfPlace) (G_need_loose.right.mono (by decide)) hgd hr (by rfl) g_need_loose k_need_loose b_need_loose (pda_d (pdl_cons (pd_var (pv 0)) (pdl_cons (pd_var (pv 2)) (pdl_nil)))))) (pds_any)))))
theorem ok_least_ahead : ∀ ρ k, W_least_ahead ρ k → fBody 4 w_least_ahead ρ k := fun _ _ h => h.elim
theorem okx_least_ahead (C C' : Addr) : ∀ ρ k, U_least_ahead C C' ρ k → fBodyX 4 (u_least_ahead C C') ρ k := by
  rintro ⟨sl, n⟩ k ⟨d, e, l, e1, h⟩
  simp only at e1
  subst e1
  simp [u_least_ahead, fBodyX, fxCall, fxOr, fxThen]
  simp [and_assoc, Rho.set, dropOwn, ftLend, fLend, lendR, frz, ow, nList, -forall_exists_index, fBody, fsSeq, fsIf, fsRet, fsNext, fsDrop, fsAsg, fsNever, fsFor, fsOwn, fsPar2, fsPar3, fsPar_od, fsPar_do, fsPar_oo, fVar, fC, fUn, fOp, fChain, fTup, fLst, fCall, faD, faSt, flCons, flNil, fSl, foSome, foNone, fAnd, fOr, fNot, fIf, fOfN, fn1, fnLst, fnCat, fgN, fgTup, fgCons, fgNil, fiSeq, fiRange1, fiRange2, fiEnumA, fiZip, ftOr, ftAnd, ftNot, ftB, ftT, ftYes, truD_b, truD_i, truD_l, truD_t, truD_n, gIx_t0, gIx_t1, gIx_t2, gSl_t, gSl_l, gIsT, notDict, isT, isN, tyName, gLen_t, gLen_l, gTuple_l, gCmp, gAdd_ii, gAdd_ll, PD.gSub, gNeg, gMod, seqD, forD, wipeR, gEqA, gNeA, gEq_ii, gNe_ii, gEq_tt, gIn_ints, gIn_intsL, gNotIn_ints, gNotIn_intsL, fM0, fM1, fJoined, fJ, flStar, starD, fCall0, gIsTX, noInst_n, noInst_b, noInst_i, noInst_s, noInst_l, noInst_t, fFld, fMeth, fMake, faNil, fsFld, fLendO, fDisp, fpCons, fpNil, fDict0, fiAny, walkD, fiOver, dKeys, dVals, dPairs, fsOwnD, fsPut, fOwnIx, fPop, fsExt, fDc, compK, gInX, gNotInX, gIxX, fGet]
  rcases h with ⟨h1, p, h2, h3⟩ | ⟨q, T, G, rfl, w, he, h4 | ⟨h4, h5, h6⟩, z⟩
  · exact .inl ⟨d, p, rfl, h1, h2, h3⟩
  · exact .inr ⟨q, T, G, rfl, w, .inl ⟨e, rfl, he, h4, z⟩⟩
  · exact .inr ⟨q, T, G, rfl, w, .inr ⟨e, rfl, ⟨he, h4⟩, q, T, G, l, rfl, h5, h6, z⟩⟩
def W_need : FE := fun _ _ => False
theorem mW_need (ρ : Rho) (k k' : KD) (_ : ∀ d ρ', k d ρ' → k' d ρ') (z : W_need ρ k) : W_need ρ k' := z
abbrev U_need := U_need_wish
abbrev mU_need := mU_need_wish
abbrev s_need : Stmt := top 42
theorem sc_need : FnScope ["wish", "steps", "good", "live", "waiting", "state", "longer", "many", "behind", "step"] ["wish"] (defScope s_need) := ⟨rfl, rfl, rfl, by decide +kernel, rfl, by decide +kernel, by decide +kernel⟩
def w_need : FS := fsSeq (fsAsg (fSl gSl (fCall 1 W_need_wish (faD (flCons (fVar 0) (flNil)))) (foSome (fC (.int 1))) (foNone)) (fgTup 2 (fgCons (fgN 1) (fgCons (fgN 2) (fgNil)))))
  (fsNever)
def u_need (C_BadWish : Addr) : FX := fxCall 1 (U_need_wish C_BadWish) (faD (flCons (fVar 0) (flNil)))
theorem raw_need {f : Addr} {fd : FuncData} {a_need_wish : Addr} {d_need_wish : FuncData} {C_BadWish : Addr} (F : Fun K "need" "need" s_need f fd) (T : Txt mg) (g_need_wish : mg "need_wish" = some (.ref a_need_wish)) (G_need_wish : FnG P w K mg base (L2.CX P w) 5 a_need_wish d_need_wish ["thing"] (spX ⟨K, w, P⟩ (MM TT) 1 W_need_wish (U_need_wish C_BadWish))) (b_need_wish : Binds K d_need_wish ["thing"] []) (k_need_wish : PySem.W.keepIn K (.ref a_need_wish) = true) : FnG P w K mg base (L2.CX P w) (6) f fd ["wish"] (spX ⟨K, w, P⟩ (MM TT) 1 (fBody 10 w_need) (fBodyX 10 (u_need C_BadWish))) := by
  refine fnX F sc_need fun X cdv A outer s H E eX hgd hr tk po => ?_
  subst eX
  have nd := (sc_need).nd
  have hu : (A.deeper (envOfC "need" (defScope s_need) s.heap.objs.size f cdv)).units + 64 < cLine := hr.units
  refine ⟨?_, ?_⟩
  · exact pds_cons (pds_asg (pd_slice (pd_call mW_need_wish (G_need_wish.left.mono (by decide)) hgd hr (by rfl) g_need_wish k_need_wish b_need_wish (pda_d (pdl_cons (pd_var (pv 0)) (pdl_nil)))) (pdo_some (pd_int)) (pdo_none)) (pg1_tup (pgn_cons (pg1_name (i := 1) (pg_name (i := 1) nd rfl (by first | exact Or.inl rfl | exact Or.inr rfl))) (pgn_cons (pg1_name (i := 2) (pg_name (i := 2) nd rfl (by first | exact Or.inl rfl | exact Or.inr rfl))) (pgn_nil) (pgs_cons (pg1_name (i := 2) (pg_name (i := 2) nd rfl (by first | exact Or.inl rfl | exact Or.inr rfl))).pg (pgn_nil).pg)) (pgs_cons (pg1_name (i := 1) (pg_name (i := 1) nd rfl (by first | exact Or.inl rfl | exact Or.inr rfl))).pg (pgn_cons (pg1_name (i := 2) (pg_name (i := 2) nd rfl (by first | exact Or.inl rfl | exact Or.inr rfl))) (pgn_nil) (pgs_cons (pg1_name (i := 2) (pg_name (i := 2) nd rfl (by first | exact Or.inl rfl | exact Or.inr rfl))).pg (pgn_nil).pg)).pg)) (pg_tup rfl (pgn_cons (pg1_name (i := 1) (pg_name (i := 1) nd rfl (by first | exact Or.inl rfl | exact Or.inr rfl))) (pgn_cons (pg1_name (i := 2) (pg_name (i := 2) nd rfl (by first | exact Or.inl rfl | exact Or.inr rfl))) (pgn_nil) (pgs_cons (pg1_name (i := 2) (pg_name (i := 2) nd rfl (by first | exact Or.inl rfl | exact Or.inr rfl))).pg (pgn_nil).pg)) (pgs_cons (pg1_name (i := 1) (pg_name (i := 1) nd rfl (by first | exact Or.inl rfl | exact Or.inr rfl))).pg (pgn_cons (pg1_name (i := 2) (pg_name (i := 2) nd rfl (by first | exact Or.inl rfl | exact Or.inr rfl))) (pgn_nil) (pgs_cons (pg1_name (i := 2) (pg_name (i := 2) nd rfl (by first | exact Or.inl rfl | exact Or.inr rfl))).pg (pgn_nil).pg)).pg)).pg)))
          (pds_any)
  · exact prs_hd (pr_asg (px_slc (px_call tk (mU_need_wish C_BadWish) (G_need_wish.right.mono (by decide)) hgd hr (by rfl) g_need_wish k_need_wish b_need_wish (pda_d (pdl_cons (pd_var (pv 0)) (pdl_nil)))) (pdo_some (pd_int)) (pdo_none)) (pg1_tup (pgn_cons (pg1_name (i := 1) (pg_name (i := 1) nd rfl (by first | exact Or.inl rfl | exact Or.inr rfl))) (pgn_cons (pg1_name (i := 2) (pg_name (i := 2) nd rfl (by first | exact Or.inl rfl | exact Or.inr rfl))) (pgn_nil) (pgs_cons (pg1_name (i := 2) (pg_name (i := 2) nd rfl (by first | exact Or.inl rfl | exact Or.inr rfl))).pg (pgn_nil).pg)) (pgs_cons (pg1_name (i := 1) (pg_name (i := 1) nd rfl (by first | exact Or.inl rfl | exact Or.inr rfl))).pg (pgn_cons (pg1_name (i := 2) (pg_name (i := 2) nd rfl (by first | exact Or.inl rfl | exact Or.inr rfl))) (pgn_nil) (pgs_cons (pg1_name (i := 2) (pg_name (i := 2) nd rfl (by first | exact Or.inl rfl | exact Or.inr rfl))).pg (pgn_nil).pg)).pg)) (pg_tup rfl (pgn_cons (pg1_name (i := 1) (pg_name (i := 1) nd rfl (by first | exact Or.inl rfl | exact Or.inr rfl))) (pgn_cons (pg1_name (i := 2) (pg_name (i := 2) nd rfl (by first | exact Or.inl rfl | exact Or.inr rfl))) (pgn_nil) (pgs_cons (pg1_name (i := 2) (pg_name (i := 2) nd rfl (by first | exact Or.inl rfl | exact Or.inr rfl))).pg (pgn_nil).pg)) (pgs_cons (pg1_name (i := 1) (pg_name (i := 1) nd rfl (by first | exact Or.inl rfl | exact Or.inr rfl))).pg (pgn_cons (pg1_name (i := 2) (pg_name (i := 2) nd rfl (by first | exact Or.inl rfl | exact Or.inr rfl))) (pgn_nil) (pgs_cons (pg1_name (i := 2) (pg_name (i := 2) nd rfl (by first | exact Or.inl rfl | exact Or.inr rfl))).pg (pgn_nil).pg)).pg)).pg))) (pds_any)
theorem ok_need : ∀ ρ k, W_need ρ k → fBody 10 w_need ρ k := fun _ _ h => h.elim
theorem okx_need (C : Addr) : ∀ ρ k, U_need C ρ k → fBodyX 10 (u_need C) ρ k := by
  rintro ⟨sl, n⟩ k ⟨d, p, e1, h⟩
  simp only at e1
  subst e1
  simp [u_need, fBodyX, fxCall]
  simp [and_assoc, Rho.set, dropOwn, ftLend, fLend, lendR, frz, ow, nList, -forall_exists_index, fBody, fsSeq, fsIf, fsRet, fsNext, fsDrop, fsAsg, fsNever, fsFor, fsOwn, fsPar2, fsPar3, fsPar_od, fsPar_do, fsPar_oo, fVar, fC, fUn, fOp, fChain, fTup, fLst, fCall, faD, faSt, flCons, flNil, fSl, foSome, foNone, fAnd, fOr, fNot, fIf, fOfN, fn1, fnLst, fnCat, fgN, fgTup, fgCons, fgNil, fiSeq, fiRange1, fiRange2, fiEnumA, fiZip, ftOr, ftAnd, ftNot, ftB, ftT, ftYes, truD_b, truD_i, truD_l, truD_t, truD_n, gIx_t0, gIx_t1, gIx_t2, gSl_t, gSl_l, gIsT, notDict, isT, isN, tyName, gLen_t, gLen_l, gTuple_l, gCmp, gAdd_ii, gAdd_ll, PD.gSub, gNeg, gMod, seqD, forD, wipeR, gEqA, gNeA, gEq_ii, gNe_ii, gEq_tt, gIn_ints, gIn_intsL, gNotIn_ints, gNotIn_intsL, fM0, fM1, fJoined, fJ, flStar, starD, fCall0, gIsTX, noInst_n, noInst_b, noInst_i, noInst_s, noInst_l, noInst_t, fFld, fMeth, fMake, faNil, fsFld, fLendO, fDisp, fpCons, fpNil, fDict0, fiAny, walkD, fiOver, dKeys, dVals, dPairs, fsOwnD, fsPut, fOwnIx, fPop, fsExt, fDc, compK, gInX, gNotInX, gIxX, fGet]
  exact ⟨d, p, rfl, h⟩
def W_sure_states : FE := fun ρ k => ∃ (q : Int) (T : List (List Int)) (G : List Int), ρ.sl = [.d (tupT T), .d (tupI G), .d (.tuple [])] ∧ (WOK q T G) ∧ k (.list (G.map .int)) ρ
theorem mW_sure_states (ρ : Rho) (k k' : KD) (hM : ∀ d ρ', k d ρ' → k' d ρ') (q : W_sure_states ρ k) : W_sure_states ρ k' := by
  obtain ⟨q, T, G, e1, e2, e3⟩ := q
  exact ⟨q, T, G, e1, e2, hM _ _ e3⟩
abbrev s_sure_states : Stmt := top 53
theorem sc_sure_states : FnScope ["steps", "good", "loose", "sure", "fewer", "state", "deed"] ["steps", "good", "loose"] (defScope s_sure_states) := ⟨rfl, rfl, rfl, by decide +kernel, rfl, by decide +kernel, by decide +kernel⟩
def w_sure_states : FS := fsSeq (fsAsg (fOfN (fn1 nList (fVar 1))) (fgN 3))
  (whD (ftT (fC (.bool true))) (fsSeq (fsAsg (fOfN (fnComp (fiSeq (fVar 3)) (fgN 5) (ftT (fUn gAll (fOfN (fnComp (fiSeq (fVar 2)) (fgN 6) (ftYes) (fOp gIn (fOp gIx (fOp gIx (fVar 0) (fVar 5)) (fVar 6)) (fVar 3)) [6])))) (fVar 5) [5])) (fgN 4))
  (fsSeq (fsIf (ftB (fOp gEqA (fUn gLen (fVar 4)) (fUn gLen (fVar 3)))) (fsRet (fVar 4)) (fsNext))
  (fsAsg (fVar 4) (fgN 3)))))
theorem raw_sure_states {f : Addr} {fd : FuncData} (F : Fun K "_sure_states" "_sure_states" s_sure_states f fd) (T : Txt mg) : FnG P w K mg base (L2.CX P w) (1) f fd ["steps", "good", "loose"] (spD ⟨K, w, P⟩ (MM TT) 3 (fBody 7 w_sure_states)) := by
  refine fnD F sc_sure_states fun cdv A outer s H E hgd hr => ?_
  have nd := (sc_sure_states).nd
  have hu : (A.deeper (envOfC "_sure_states" (defScope s_sure_states) s.heap.objs.size f cdv)).units + 64 < cLine := hr.units
  exact pds_cons (pds_asg (pd_ofN (pn_t1 call_list_of rn_list (by rfl) T.list (by decide +kernel) (pd_var (pv 1)))) (pg1_name (i := 3) (pg_name (i := 3) nd rfl (by first | exact Or.inl rfl | exact Or.inr rfl))))
    (pds_one (pds_while PassesOwn.never (pdt_truth (pd_bl)) (pds_cons (pds_setLc (i := 4) rfl nd rfl rfl (sw_true rfl rfl rfl (by decide +kernel)) (own := [("state", 5)]) (vs := [5]) (pdi_seq (pd_var (pv 3))) (blkOk_by (own := [("state", 5)]) (N := ["steps", "good", "loose", "sure", "fewer", "state", "deed"]) (sc := defScope s_sure_states) (by decide +kernel)) rfl (fun _ _ _ _ _ => pg1_name (i := 5) (pg_name (i := 5) nd rfl (by first | exact Or.inl rfl | exact Or.inr rfl))) (fun _ _ _ _ _ => ptn_one (pdt_truth (pd_b1 (cr_all rfl) r1_all (by rfl) T.all (by decide +kernel) (pd_ofN (pn_lc rfl nd (own := [("deed", 6)]) (vs := [6]) (pdi_seq (pd_var (pv 2))) (blkOk_by (own := [("deed", 6)]) (N := ["steps", "good", "loose", "sure", "fewer", "state", "deed"]) (sc := {kind := PySem.ScopeKind.function, names := [ (PySem.Str.ofString ".0", PySem.NameKind.local), (PySem.Str.ofString "state", PySem.NameKind.cell), (PySem.Str.ofString "all", PySem.NameKind.globalImplicit), (PySem.Str.ofString "loose", PySem.NameKind.cell), (PySem.Str.ofString "steps", PySem.NameKind.cell), (PySem.Str.ofString "sure", PySem.NameKind.cell)], isGenerator := false, isCoroutine := false, more := [] : PySem.Scope }) (by decide +kernel)) rfl (fun _ _ _ _ _ => pg1_name (i := 6) (pg_name (i := 6) nd rfl (by first | exact Or.inl rfl | exact Or.inr rfl))) (fun _ _ _ _ _ => ptn_nil) (fun _ _ _ _ _ => pd_cmp op_in_seq rd_in (pd_ix ix_any rd_ix (pd_ix ix_any rd_ix (pd_var (pv 0)) (pd_var (pv 5)) (fun _ _ => rfl)) (pd_var (pv 6)) (fun _ _ => rfl)) (pd_var (pv 3)) (by first | exact nomark _ | rfl)) s))))) (fun _ _ _ _ _ => pd_var (pv 5)) s)
    (pds_cons (pds_if (pdt_cmp (op_eqA hu) rd_eqA (pd_b1 call_lenA r1_len (by rfl) T.len (by decide +kernel) (pd_var (pv 4))) (pd_b1 call_lenA r1_len (by rfl) T.len (by decide +kernel) (pd_var (pv 3))) (by first | exact nomark _ | rfl)) (pds_one (pds_ret (pd_var (pv 4)))) (pds_nil))
    (pds_one (pds_asg (pd_var (pv 4)) (pg1_name (i := 3) (pg_name (i := 3) nd rfl (by first | exact Or.inl rfl | exact Or.inr rfl)))))))))
theorem ok_sure_states : ∀ ρ k, W_sure_states ρ k → fBody 7 w_sure_states ρ k := by
  rintro ⟨sl, n⟩ k ⟨q, T, G, e, w, z⟩
  simp only at e
  subst e
  simp [w_sure_states]
  simp [and_assoc, Rho.set, dropOwn, ftLend, fLend, lendR, frz, ow, nList, -forall_exists_index, fBody, fsSeq, fsIf, fsRet, fsNext, fsDrop, fsAsg, fsNever, fsFor, fsOwn, fsPar2, fsPar3, fsPar_od, fsPar_do, fsPar_oo, fVar, fC, fUn, fOp, fChain, fTup, fLst, fCall, faD, faSt, flCons, flNil, fSl, foSome, foNone, fAnd, fOr, fNot, fIf, fOfN, fn1, fnLst, fnCat, fgN, fgTup, fgCons, fgNil, fiSeq, fiRange1, fiRange2, fiEnumA, fiZip, ftOr, ftAnd, ftNot, ftB, ftT, ftYes, truD_b, truD_i, truD_l, truD_t, truD_n, gIx_t0, gIx_t1, gIx_t2, gSl_t, gSl_l, gIsT, notDict, isT, isN, tyName, gLen_t, gLen_l, gTuple_l, gCmp, gAdd_ii, gAdd_ll, PD.gSub, gNeg, gMod, seqD, forD, wipeR, gEqA, gNeA, gEq_ii, gNe_ii, gEq_tt, gIn_ints, gIn_intsL, gNotIn_ints, gNotIn_intsL, fM0, fM1, fJoined, fJ, flStar, starD, fCall0, gIsTX, noInst_n, noInst_b, noInst_i, noInst_s, noInst_l, noInst_t, fFld, fMeth, fMake, faNil, fsFld, fLendO, fDisp, fpCons, fpNil, fDict0, fiAny, walkD, fiOver, dKeys, dVals, dPairs, fsOwnD, fsPut, fOwnIx, fPop, fsExt, fDc, compK, gInX, gNotInX, gIxX, fGet]
  have g6 := w.glen
  refine ⟨fun m ρ => ρ = ⟨[.d (tupT T), .d (tupI G), .d (.tuple []), .d (.list (G.map .int)), .no, .no, .no], n⟩ ∧ m = 0, ⟨0, rfl, rfl⟩, ?_⟩
  rintro m ρ ⟨rfl, rfl⟩
  simp [and_assoc, Rho.set, dropOwn, ftLend, fLend, lendR, frz, ow, nList, -forall_exists_index, fBody, fsSeq, fsIf, fsRet, fsNext, fsDrop, fsAsg, fsNever, fsFor, fsOwn, fsPar2, fsPar3, fsPar_od, fsPar_do, fsPar_oo, fVar, fC, fUn, fOp, fChain, fTup, fLst, fCall, faD, faSt, flCons, flNil, fSl, foSome, foNone, fAnd, fOr, fNot, fIf, fOfN, fn1, fnLst, fnCat, fgN, fgTup, fgCons, fgNil, fiSeq, fiRange1, fiRange2, fiEnumA, fiZip, ftOr, ftAnd, ftNot, ftB, ftT, ftYes, truD_b, truD_i, truD_l, truD_t, truD_n, gIx_t0, gIx_t1, gIx_t2, gSl_t, gSl_l, gIsT, notDict, isT, isN, tyName, gLen_t, gLen_l, gTuple_l, gCmp, gAdd_ii, gAdd_ll, PD.gSub, gNeg, gMod, seqD, forD, wipeR, gEqA, gNeA, gEq_ii, gNe_ii, gEq_tt, gIn_ints, gIn_intsL, gNotIn_ints, gNotIn_intsL, fM0, fM1, fJoined, fJ, flStar, starD, fCall0, gIsTX, noInst_n, noInst_b, noInst_i, noInst_s, noInst_l, noInst_t, fFld, fMeth, fMake, faNil, fsFld, fLendO, fDisp, fpCons, fpNil, fDict0, fiAny, walkD, fiOver, dKeys, dVals, dPairs, fsOwnD, fsPut, fOwnIx, fPop, fsExt, fDc, compK, gInX, gNotInX, gIxX, fGet]
  refine fnComp_i ?_
  simp [and_assoc, Rho.set, dropOwn, ftLend, fLend, lendR, frz, ow, nList, -forall_exists_index, fBody, fsSeq, fsIf, fsRet, fsNext, fsDrop, fsAsg, fsNever, fsFor, fsOwn, fsPar2, fsPar3, fsPar_od, fsPar_do, fsPar_oo, fVar, fC, fUn, fOp, fChain, fTup, fLst, fCall, faD, faSt, flCons, flNil, fSl, foSome, foNone, fAnd, fOr, fNot, fIf, fOfN, fn1, fnLst, fnCat, fgN, fgTup, fgCons, fgNil, fiSeq, fiRange1, fiRange2, fiEnumA, fiZip, ftOr, ftAnd, ftNot, ftB, ftT, ftYes, truD_b, truD_i, truD_l, truD_t, truD_n, gIx_t0, gIx_t1, gIx_t2, gSl_t, gSl_l, gIsT, notDict, isT, isN, tyName, gLen_t, gLen_l, gTuple_l, gCmp, gAdd_ii, gAdd_ll, PD.gSub, gNeg, gMod, seqD, forD, wipeR, gEqA, gNeA, gEq_ii, gNe_ii, gEq_tt, gIn_ints, gIn_intsL, gNotIn_ints, gNotIn_intsL, fM0, fM1, fJoined, fJ, flStar, starD, fCall0, gIsTX, noInst_n, noInst_b, noInst_i, noInst_s, noInst_l, noInst_t, fFld, fMeth, fMake, faNil, fsFld, fLendO, fDisp, fpCons, fpNil, fDict0, fiAny, walkD, fiOver, dKeys, dVals, dPairs, fsOwnD, fsPut, fOwnIx, fPop, fsExt, fDc, compK, gInX, gNotInX, gIxX, fGet]
  refine ⟨by omega, comp_on PyData.int (fun _ => true) PyData.int G [] (fun x hx kt kf c1 c2 => ?_) ?_⟩
  · simp [and_assoc, Rho.set, dropOwn, ftLend, fLend, lendR, frz, ow, nList, -forall_exists_index, fBody, fsSeq, fsIf, fsRet, fsNext, fsDrop, fsAsg, fsNever, fsFor, fsOwn, fsPar2, fsPar3, fsPar_od, fsPar_do, fsPar_oo, fVar, fC, fUn, fOp, fChain, fTup, fLst, fCall, faD, faSt, flCons, flNil, fSl, foSome, foNone, fAnd, fOr, fNot, fIf, fOfN, fn1, fnLst, fnCat, fgN, fgTup, fgCons, fgNil, fiSeq, fiRange1, fiRange2, fiEnumA, fiZip, ftOr, ftAnd, ftNot, ftB, ftT, ftYes, truD_b, truD_i, truD_l, truD_t, truD_n, gIx_t0, gIx_t1, gIx_t2, gSl_t, gSl_l, gIsT, notDict, isT, isN, tyName, gLen_t, gLen_l, gTuple_l, gCmp, gAdd_ii, gAdd_ll, PD.gSub, gNeg, gMod, seqD, forD, wipeR, gEqA, gNeA, gEq_ii, gNe_ii, gEq_tt, gIn_ints, gIn_intsL, gNotIn_ints, gNotIn_intsL, fM0, fM1, fJoined, fJ, flStar, starD, fCall0, gIsTX, noInst_n, noInst_b, noInst_i, noInst_s, noInst_l, noInst_t, fFld, fMeth, fMake, faNil, fsFld, fLendO, fDisp, fpCons, fpNil, fDict0, fiAny, walkD, fiOver, dKeys, dVals, dPairs, fsOwnD, fsPut, fOwnIx, fPop, fsExt, fDc, compK, gInX, gNotInX, gIxX, fGet]
    refine fnComp_i ?_
    simp [and_assoc, Rho.set, dropOwn, ftLend, fLend, lendR, frz, ow, nList, -forall_exists_index, fBody, fsSeq, fsIf, fsRet, fsNext, fsDrop, fsAsg, fsNever, fsFor, fsOwn, fsPar2, fsPar3, fsPar_od, fsPar_do, fsPar_oo, fVar, fC, fUn, fOp, fChain, fTup, fLst, fCall, faD, faSt, flCons, flNil, fSl, foSome, foNone, fAnd, fOr, fNot, fIf, fOfN, fn1, fnLst, fnCat, fgN, fgTup, fgCons, fgNil, fiSeq, fiRange1, fiRange2, fiEnumA, fiZip, ftOr, ftAnd, ftNot, ftB, ftT, ftYes, truD_b, truD_i, truD_l, truD_t, truD_n, gIx_t0, gIx_t1, gIx_t2, gSl_t, gSl_l, gIsT, notDict, isT, isN, tyName, gLen_t, gLen_l, gTuple_l, gCmp, gAdd_ii, gAdd_ll, PD.gSub, gNeg, gMod, seqD, forD, wipeR, gEqA, gNeA, gEq_ii, gNe_ii, gEq_tt, gIn_ints, gIn_intsL, gNotIn_ints, gNotIn_intsL, fM0, fM1, fJoined, fJ, flStar, starD, fCall0, gIsTX, noInst_n, noInst_b, noInst_i, noInst_s, noInst_l, noInst_t, fFld, fMeth, fMake, faNil, fsFld, fLendO, fDisp, fpCons, fpNil, fDict0, fiAny, walkD, fiOver, dKeys, dVals, dPairs, fsOwnD, fsPut, fOwnIx, fPop, fsExt, fDc, compK, gInX, gNotInX, gIxX, fGet]
    refine ⟨.bool true, rfl, ?_⟩
    simp [and_assoc, Rho.set, dropOwn, ftLend, fLend, lendR, frz, ow, nList, -forall_exists_index, fBody, fsSeq, fsIf, fsRet, fsNext, fsDrop, fsAsg, fsNever, fsFor, fsOwn, fsPar2, fsPar3, fsPar_od, fsPar_do, fsPar_oo, fVar, fC, fUn, fOp, fChain, fTup, fLst, fCall, faD, faSt, flCons, flNil, fSl, foSome, foNone, fAnd, fOr, fNot, fIf, fOfN, fn1, fnLst, fnCat, fgN, fgTup, fgCons, fgNil, fiSeq, fiRange1, fiRange2, fiEnumA, fiZip, ftOr, ftAnd, ftNot, ftB, ftT, ftYes, truD_b, truD_i, truD_l, truD_t, truD_n, gIx_t0, gIx_t1, gIx_t2, gSl_t, gSl_l, gIsT, notDict, isT, isN, tyName, gLen_t, gLen_l, gTuple_l, gCmp, gAdd_ii, gAdd_ll, PD.gSub, gNeg, gMod, seqD, forD, wipeR, gEqA, gNeA, gEq_ii, gNe_ii, gEq_tt, gIn_ints, gIn_intsL, gNotIn_ints, gNotIn_intsL, fM0, fM1, fJoined, fJ, flStar, starD, fCall0, gIsTX, noInst_n, noInst_b, noInst_i, noInst_s, noInst_l, noInst_t, fFld, fMeth, fMake, faNil, fsFld, fLendO, fDisp, fpCons, fpNil, fDict0, fiAny, walkD, fiOver, dKeys, dVals, dPairs, fsOwnD, fsPut, fOwnIx, fPop, fsExt, fDc, compK, gInX, gNotInX, gIxX, fGet]
    exact c1 rfl _ rfl
  · rw [show G.filter (fun _ => true) = G from List.filter_eq_self.mpr fun _ _ => rfl]
    exact ⟨by simp, z⟩
abbrev dI (l : List (Int × D)) : List (D × D) := l.map fun p => (.int p.1, p.2)
theorem dI_flat (l : List (Int × D)) : ((dI l).all fun p => isFlatK p.1) = true := List.all_eq_true.mpr fun p hp => by
  obtain ⟨q, _, rfl⟩ := List.mem_map.mp hp
  rfl
theorem dI_key (x : Int) (l : List (Int × D)) : keyOk (.int x) (dI l) = some (.num x) := by
  show (if ((isTupK (.int x) && (dI l).all fun p => isTupK p.1) || (isFlatK (.int x) && (dI l).all fun p => isFlatK p.1)) = true then (if (NestedKey.num x).depth ≤ 8 then some (NestedKey.num x) else none) else none) = _
  rw [dI_flat]
  rfl
theorem dI_at (x : Int) : ∀ l : List (Int × D), dAt (dI l) (.num x) = l.lookup x
  | [] => rfl
  | (y, c) :: l => by
    have ih := dI_at x l
    unfold dAt dI at ih ⊢
    rw [List.map_cons, List.find?_cons, List.lookup_cons]
    by_cases h : x = y
    · subst h
      simp [keyN]
    · have hb : (x == y) = false := by simpa using h
      have hk : ¬ keyN (.int y) = some (.num x) := fun z => h (by
        have z : some (NestedKey.num y) = some (.num x) := z
        injection z with z
        injection z with z
        exact z.symm)
      rw [hb]
      simp only [hk, decide_false]
      exact ih
theorem dI_has (x : Int) (l : List (Int × D)) : (dAt (dI l) (.num x)).isSome = decide (x ∈ l.map (·.1)) := by
  rw [dI_at]
  exact look_some
theorem dI_put (x : Int) (d : D) (l : List (Int × D)) (h : x ∉ l.map (·.1)) : dPut (dI l) (.int x) (.num x) d = dI (l ++ [(x, d)]) := by
  unfold dPut
  rw [dI_has, decide_eq_false h]
  unfold dI
  rw [List.map_append]
  rfl
abbrev dB (ks : List Int) : List (D × D) := ks.map fun k => (PyData.int k, PyData.bool true)
theorem dB_dI (ks : List Int) : dB ks = dI (ks.map fun k => (k, .bool true)) := by
  unfold dI dB
  rw [List.map_map]
  rfl
theorem dB_in (y : Int) (ks : List Int) : gInD true (.int y) (.dict (dB ks)) = some (.bool (!decide (y ∈ ks))) := by
  rw [dB_dI]
  show (keyOk (.int y) (dI _)).map _ = _
  rw [dI_key]
  show some (PyData.bool (!(dAt (dI _) (.num y)).isSome)) = _
  rw [dI_has, List.map_map]
  have e : ks.map ((fun x : Int × D => x.1) ∘ fun k => (k, PyData.bool true)) = ks := List.map_id ks
  rw [e]
theorem dB_put (y : Int) (ks : List Int) (h : y ∉ ks) : dPut (dB ks) (.int y) (.num y) (.bool true) = dB (ks ++ [y]) := by
  rw [dB_dI, dI_put _ _ _ (by
    rw [List.map_map]
    have e : ks.map ((fun x : Int × D => x.1) ∘ fun k => (k, PyData.bool true)) = ks := List.map_id ks
    rw [e]
    exact h), dB_dI, List.map_append]
  rfl
theorem dB_sort (ks : List Int) (h : ks ≠ []) (h2 : ks.length < 64) : nSortedX (.dict (dB ks)) = some ((isort ks).map .int) := by
  have e : intsD (dKeys (dB ks)) = some ks := by
    unfold dKeys dB
    rw [List.map_map]
    exact ints_of ks
  have ek : keysOk (dB ks) = true := by
    unfold keysOk
    rw [dB_dI, dI_flat, Bool.or_true]
  show (match intsD (dKeys (dB ks)) with
    | some ns => if keysOk (dB ks) = true ∧ ns ≠ [] ∧ ns.length < 64 then some ((isort ns).map PyData.int) else none
    | none => none) = _
  rw [e]
  show (if keysOk (dB ks) = true ∧ ks ≠ [] ∧ ks.length < 64 then some ((isort ks).map PyData.int) else none) = _
  rw [if_pos ⟨ek, h, h2⟩]
theorem nodup_len {ks : List Int} {n : Int} (hn : ks.Nodup) (h : ∀ x ∈ ks, 0 ≤ x ∧ x ≤ n - 1) (h0 : 0 ≤ n) : (ks.length : Int) ≤ n := by
  have hp : (isort ks).Perm ks := List.mergeSort_perm _ _
  have hs : (isort ks).Pairwise (· ≤ ·) := (List.pairwise_mergeSort (fun a b c h1 h2 => by simp at *; omega) (fun a b => by simp; omega) ks).imp fun h => by simpa using h
  have hd : (isort ks).Nodup := hp.nodup_iff.mpr hn
  have hlt : (isort ks).Pairwise (· < ·) := (List.Pairwise.and hs hd).imp fun ⟨h1, h2⟩ => by omega
  have := asc_len hlt (lo := 0) (hi := n - 1) fun x hx => h x (hp.mem_iff.mp hx)
  rw [hp.length_eq] at this
  omega
def W_reached_states : FE := fun ρ k => ∃ q T G, ρ.sl = [.d (tupT T), .d (.list (G.map .int))] ∧ WOK q T G ∧ ∀ S : List Int, S ≠ [] → S.length ≤ 6 → S.Nodup → (∀ x ∈ S, GM.St T x) → k (.list (S.map .int)) ρ
theorem mW_reached_states (ρ : Rho) (k k' : KD) (hM : ∀ d ρ', k d ρ' → k' d ρ') (z : W_reached_states ρ k) : W_reached_states ρ k' := by
  obtain ⟨q, T, G, e1, e2, e3⟩ := z
  exact ⟨q, T, G, e1, e2, fun S h1 h2 h3 h4 => hM _ _ (e3 S h1 h2 h3 h4)⟩
abbrev s_reached_states : Stmt := top 23
theorem sc_reached_states : FnScope ["steps", "states", "reached", "waiting", "state", "behind"] ["steps", "states"] (defScope s_reached_states) := ⟨rfl, rfl, rfl, by decide +kernel, rfl, by decide +kernel, by decide +kernel⟩
def w_reached_states : FS := fsSeq (fsOwnD 2 false)
  (fsSeq (fsOwn 3 (fnLst (flCons (fC (.int 0)) (flNil))))
  (fsSeq (whD (ftLend 3 (ftT (fVar 3))) (fsSeq (fsAsg (fPop 3) (fgN 4))
  (fsIf (ftLend 2 (ftB (fOp gNotInX (fVar 4) (fVar 2)))) (fsSeq (fsPut 2 (fVar 4) (fC (.bool true)))
  (fsExt 3 (fnComp (fiAny (fOp gIxX (fVar 0) (fVar 4))) (fgN 5) (ftB (fOp gInX (fVar 5) (fVar 1))) (fVar 5) [5]))) (fsNext))))
  ((fun ρ P => (fsRet (fOfN (fn1 nSortedX (fVar 2)))) (frz 2 ρ) P))))
theorem raw_reached_states {f : Addr} {fd : FuncData} (F : Fun K "reached_states" "reached_states" s_reached_states f fd) (T : Txt mg) : FnG P w K mg base (L2.CX P w) (1) f fd ["steps", "states"] (spD ⟨K, w, P⟩ (MM TT) 2 (fBody 6 w_reached_states)) := by
  refine fnD F sc_reached_states fun cdv A outer s H E hgd hr => ?_
  have nd := (sc_reached_states).nd
  have hu : (A.deeper (envOfC "reached_states" (defScope s_reached_states) s.heap.objs.size f cdv)).units + 64 < cLine := hr.units
  exact pds_cons (pds_ownD (j := 2) false (pg_name (i := 2) nd rfl (by first | exact Or.inl rfl | exact Or.inr rfl)))
    (pds_cons (pds_own (i := 3) (pn_lst (pdl_cons (pd_int) (pdl_nil))) (pg_name (i := 3) nd rfl (by first | exact Or.inl rfl | exact Or.inr rfl)))
    (pds_cons (pds_while PassesOwn.never (pdt_lend 3 (pdt_truth (pd_var (pv 3)))) (pds_cons (pds_asg (pd_pop (i := 3) (pe_bm0 PySem.F.plainAttrs_list PySem.F.slot_list_pop PySem.F.type_list_pop mt_pop (pv 3))) (pg1_name (i := 4) (pg_name (i := 4) nd rfl (by first | exact Or.inl rfl | exact Or.inr rfl))))
    (pds_one (pds_if (pdt_lend 2 (pdt_cmp (op_notInX hu) rd_notInX (pd_var (pv 4)) (pd_var (pv 2)) (by first | exact nomark _ | rfl))) (pds_cons (pds_dput (j := 2) (pd_bl) (pd_var (pv 4)) (pg_sub (pv 2) (pd_var (pv 4)).pe (set_D hu)))
    (pds_one (pds_ext (i := 3) (pn_lc rfl nd (own := [("behind", 5)]) (vs := [5]) (pdi_any (pd_ix (ix_X hu) rd_ixX (pd_var (pv 0)) (pd_var (pv 4)) (fun _ _ => rfl))) (blkOk_by (own := [("behind", 5)]) (N := ["steps", "states", "reached", "waiting", "state", "behind"]) (sc := defScope s_reached_states) (by decide +kernel)) rfl (fun _ _ _ _ _ => pg1_name (i := 5) (pg_name (i := 5) nd rfl (by first | exact Or.inl rfl | exact Or.inr rfl))) (fun _ _ _ _ _ => ptn_one (pdt_cmp (op_inX hu) rd_inX (pd_var (pv 5)) (pd_var (pv 1)) (by first | exact nomark _ | rfl))) (fun _ _ _ _ _ => pd_var (pv 5)) s) (pe_bm PySem.F.plainAttrs_list PySem.F.slot_list_extend PySem.F.type_list_extend mt_extend (pv 3) (pa_cons (pn_lc rfl nd (own := [("behind", 5)]) (vs := [5]) (pdi_any (pd_ix (ix_X hu) rd_ixX (pd_var (pv 0)) (pd_var (pv 4)) (fun _ _ => rfl))) (blkOk_by (own := [("behind", 5)]) (N := ["steps", "states", "reached", "waiting", "state", "behind"]) (sc := defScope s_reached_states) (by decide +kernel)) rfl (fun _ _ _ _ _ => pg1_name (i := 5) (pg_name (i := 5) nd rfl (by first | exact Or.inl rfl | exact Or.inr rfl))) (fun _ _ _ _ _ => ptn_one (pdt_cmp (op_inX hu) rd_inX (pd_var (pv 5)) (pd_var (pv 1)) (by first | exact nomark _ | rfl))) (fun _ _ _ _ _ => pd_var (pv 5)) s).pe pa_nil))))) (pds_nil)))))
    (pds_one (pds_frz1 2 (pds_ret (pd_ofN (pn_b1 (call_sortedX rfl) rn_sortedX (by rfl) T.sorted (by decide +kernel) (pd_var (pv 2)))))))))
theorem ok_reached_states : ∀ ρ k, W_reached_states ρ k → fBody 6 w_reached_states ρ k := by
  rintro ⟨sl, n⟩ k ⟨q, T, G, e, w, z⟩
  simp only at e
  subst e
  have t1 := w.t1
  have t6 := w.t6
  have g6 := w.glen
  simp [w_reached_states]
  simp [and_assoc, Rho.set, dropOwn, ftLend, fLend, lendR, frz, ow, nList, -forall_exists_index, fBody, fsSeq, fsIf, fsRet, fsNext, fsDrop, fsAsg, fsNever, fsFor, fsOwn, fsPar2, fsPar3, fsPar_od, fsPar_do, fsPar_oo, fVar, fC, fUn, fOp, fChain, fTup, fLst, fCall, faD, faSt, flCons, flNil, fSl, foSome, foNone, fAnd, fOr, fNot, fIf, fOfN, fn1, fnLst, fnCat, fgN, fgTup, fgCons, fgNil, fiSeq, fiRange1, fiRange2, fiEnumA, fiZip, ftOr, ftAnd, ftNot, ftB, ftT, ftYes, truD_b, truD_i, truD_l, truD_t, truD_n, gIx_t0, gIx_t1, gIx_t2, gSl_t, gSl_l, gIsT, notDict, isT, isN, tyName, gLen_t, gLen_l, gTuple_l, gCmp, gAdd_ii, gAdd_ll, PD.gSub, gNeg, gMod, seqD, forD, wipeR, gEqA, gNeA, gEq_ii, gNe_ii, gEq_tt, gIn_ints, gIn_intsL, gNotIn_ints, gNotIn_intsL, fM0, fM1, fJoined, fJ, flStar, starD, fCall0, gIsTX, noInst_n, noInst_b, noInst_i, noInst_s, noInst_l, noInst_t, fFld, fMeth, fMake, faNil, fsFld, fLendO, fDisp, fpCons, fpNil, fDict0, fiAny, walkD, fiOver, dKeys, dVals, dPairs, fsOwnD, fsPut, fOwnIx, fPop, fsExt, fDc, compK, gInX, gNotInX, gIxX, fGet]
  refine ⟨fun m ρ => ∃ (ks wt : List Int) (a : Sl), ρ = ⟨[.d (tupT T), .d (.list (G.map .int)), .own (.d false (ks.map fun k => (PyData.int k, PyData.bool true))), .own (.l (wt.map .int)), a, .no], n⟩ ∧ ks.Nodup ∧ (∀ x ∈ ks, GM.St T x) ∧ (∀ x ∈ wt, GM.St T x) ∧ (ks ≠ [] ∨ wt ≠ []) ∧ wt.length ≤ 100 + 5 * ks.length ∧ m = 5 * (T.length - ks.length) + wt.length,
    ⟨_, [], [0], .no, rfl, List.nodup_nil, fun x hx => absurd hx List.not_mem_nil, fun x hx => by rw [List.mem_singleton.mp hx]; exact ⟨by decide, by omega⟩, .inr (by simp), by simp, rfl⟩, ?_⟩
  rintro m ρ ⟨ks, wt, a, rfl, hn, hk, hw, hne, hwl, rfl⟩
  have kl := nodup_len (n := T.length) hn hk (by omega)
  rcases List.eq_nil_or_concat wt with rfl | ⟨xs, y, rfl⟩
  · simp [and_assoc, Rho.set, dropOwn, ftLend, fLend, lendR, frz, ow, nList, -forall_exists_index, fBody, fsSeq, fsIf, fsRet, fsNext, fsDrop, fsAsg, fsNever, fsFor, fsOwn, fsPar2, fsPar3, fsPar_od, fsPar_do, fsPar_oo, fVar, fC, fUn, fOp, fChain, fTup, fLst, fCall, faD, faSt, flCons, flNil, fSl, foSome, foNone, fAnd, fOr, fNot, fIf, fOfN, fn1, fnLst, fnCat, fgN, fgTup, fgCons, fgNil, fiSeq, fiRange1, fiRange2, fiEnumA, fiZip, ftOr, ftAnd, ftNot, ftB, ftT, ftYes, truD_b, truD_i, truD_l, truD_t, truD_n, gIx_t0, gIx_t1, gIx_t2, gSl_t, gSl_l, gIsT, notDict, isT, isN, tyName, gLen_t, gLen_l, gTuple_l, gCmp, gAdd_ii, gAdd_ll, PD.gSub, gNeg, gMod, seqD, forD, wipeR, gEqA, gNeA, gEq_ii, gNe_ii, gEq_tt, gIn_ints, gIn_intsL, gNotIn_ints, gNotIn_intsL, fM0, fM1, fJoined, fJ, flStar, starD, fCall0, gIsTX, noInst_n, noInst_b, noInst_i, noInst_s, noInst_l, noInst_t, fFld, fMeth, fMake, faNil, fsFld, fLendO, fDisp, fpCons, fpNil, fDict0, fiAny, walkD, fiOver, dKeys, dVals, dPairs, fsOwnD, fsPut, fOwnIx, fPop, fsExt, fDc, compK, gInX, gNotInX, gIxX, fGet]
    have hne : ks ≠ [] := hne.elim id fun h => absurd rfl h
    have hp : (isort ks).Perm ks := List.mergeSort_perm _ _
    refine ⟨_, dB_sort ks hne (by omega), z (isort ks) (fun e => hne ?_) (by rw [hp.length_eq]; omega) (hp.nodup_iff.mpr hn) fun x hx => hk x (hp.mem_iff.mp hx)⟩
    rw [e] at hp
    exact List.nil_perm.mp hp
  · rw [List.concat_eq_append] at hw hne hwl
    have hyw : GM.St T y := hw y (List.mem_append_right _ List.mem_cons_self)
    have hxw : ∀ x ∈ xs, GM.St T x := fun x hx => hw x (List.mem_append_left _ hx)
    have hxl : xs.length + 1 ≤ 100 + 5 * ks.length := by rw [List.length_append] at hwl; exact hwl
    simp [and_assoc, Rho.set, dropOwn, ftLend, fLend, lendR, frz, ow, nList, -forall_exists_index, fBody, fsSeq, fsIf, fsRet, fsNext, fsDrop, fsAsg, fsNever, fsFor, fsOwn, fsPar2, fsPar3, fsPar_od, fsPar_do, fsPar_oo, fVar, fC, fUn, fOp, fChain, fTup, fLst, fCall, faD, faSt, flCons, flNil, fSl, foSome, foNone, fAnd, fOr, fNot, fIf, fOfN, fn1, fnLst, fnCat, fgN, fgTup, fgCons, fgNil, fiSeq, fiRange1, fiRange2, fiEnumA, fiZip, ftOr, ftAnd, ftNot, ftB, ftT, ftYes, truD_b, truD_i, truD_l, truD_t, truD_n, gIx_t0, gIx_t1, gIx_t2, gSl_t, gSl_l, gIsT, notDict, isT, isN, tyName, gLen_t, gLen_l, gTuple_l, gCmp, gAdd_ii, gAdd_ll, PD.gSub, gNeg, gMod, seqD, forD, wipeR, gEqA, gNeA, gEq_ii, gNe_ii, gEq_tt, gIn_ints, gIn_intsL, gNotIn_ints, gNotIn_intsL, fM0, fM1, fJoined, fJ, flStar, starD, fCall0, gIsTX, noInst_n, noInst_b, noInst_i, noInst_s, noInst_l, noInst_t, fFld, fMeth, fMake, faNil, fsFld, fLendO, fDisp, fpCons, fpNil, fDict0, fiAny, walkD, fiOver, dKeys, dVals, dPairs, fsOwnD, fsPut, fOwnIx, fPop, fsExt, fDc, compK, gInX, gNotInX, gIxX, fGet]
    by_cases hy : y ∈ ks
    · refine ⟨_, dB_in y ks, .inl ⟨by rw [decide_eq_true hy]; rfl, _, ?_, ks, rfl, xs, rfl, hn, hk, hxw, .inl (List.ne_nil_of_mem hy), by omega, rfl⟩⟩
      omega
    · refine ⟨_, dB_in y ks, .inr ⟨by rw [decide_eq_false hy]; rfl, .num y, rfl, (by show 0 ≤ 8; decide), rfl, by omega, ?_⟩⟩
      have ep := dB_put y ks hy
      unfold dB at ep
      rw [ep]
      obtain ⟨i, rfl⟩ := Int.eq_ofNat_of_zero_le hyw.1
      have hi : i < T.length := by have := hyw.2; omega
      have er : T.getD (i : Int).toNat [] = T[i] := by simp [List.getD, hi]
      have hr := w.row T[i] (List.getElem_mem hi)
      have q4 := w.q4
      have hn2 : (ks ++ [(i : Int)]).Nodup := List.nodup_append.mpr ⟨hn, List.nodup_cons.mpr ⟨List.not_mem_nil, List.nodup_nil⟩, fun a ha b hb => by rw [List.mem_singleton.mp hb]; exact fun e => hy (e ▸ ha)⟩
      have hk2 : ∀ x ∈ ks ++ [(i : Int)], GM.St T x := fun x hx => (List.mem_append.mp hx).elim (hk x) fun h => by rw [List.mem_singleton.mp h]; exact hyw
      have kl2 := nodup_len (n := T.length) hn2 hk2 (by omega)
      rw [List.length_append] at kl2
      have kl2 : ((ks.length + 1 : Nat) : Int) ≤ T.length := kl2
      refine fnComp_i ?_
      simp [and_assoc, Rho.set, dropOwn, ftLend, fLend, lendR, frz, ow, nList, -forall_exists_index, fBody, fsSeq, fsIf, fsRet, fsNext, fsDrop, fsAsg, fsNever, fsFor, fsOwn, fsPar2, fsPar3, fsPar_od, fsPar_do, fsPar_oo, fVar, fC, fUn, fOp, fChain, fTup, fLst, fCall, faD, faSt, flCons, flNil, fSl, foSome, foNone, fAnd, fOr, fNot, fIf, fOfN, fn1, fnLst, fnCat, fgN, fgTup, fgCons, fgNil, fiSeq, fiRange1, fiRange2, fiEnumA, fiZip, ftOr, ftAnd, ftNot, ftB, ftT, ftYes, truD_b, truD_i, truD_l, truD_t, truD_n, gIx_t0, gIx_t1, gIx_t2, gSl_t, gSl_l, gIsT, notDict, isT, isN, tyName, gLen_t, gLen_l, gTuple_l, gCmp, gAdd_ii, gAdd_ll, PD.gSub, gNeg, gMod, seqD, forD, wipeR, gEqA, gNeA, gEq_ii, gNe_ii, gEq_tt, gIn_ints, gIn_intsL, gNotIn_ints, gNotIn_intsL, fM0, fM1, fJoined, fJ, flStar, starD, fCall0, gIsTX, noInst_n, noInst_b, noInst_i, noInst_s, noInst_l, noInst_t, fFld, fMeth, fMake, faNil, fsFld, fLendO, fDisp, fpCons, fpNil, fDict0, fiAny, walkD, fiOver, dKeys, dVals, dPairs, fsOwnD, fsPut, fOwnIx, fPop, fsExt, fDc, compK, gInX, gNotInX, gIxX, fGet]
      refine ⟨tupI T[i], ?_, ?_⟩
      · have := ix_T hyw
        rw [er] at this
        exact this
      · simp [and_assoc, Rho.set, dropOwn, ftLend, fLend, lendR, frz, ow, nList, -forall_exists_index, fBody, fsSeq, fsIf, fsRet, fsNext, fsDrop, fsAsg, fsNever, fsFor, fsOwn, fsPar2, fsPar3, fsPar_od, fsPar_do, fsPar_oo, fVar, fC, fUn, fOp, fChain, fTup, fLst, fCall, faD, faSt, flCons, flNil, fSl, foSome, foNone, fAnd, fOr, fNot, fIf, fOfN, fn1, fnLst, fnCat, fgN, fgTup, fgCons, fgNil, fiSeq, fiRange1, fiRange2, fiEnumA, fiZip, ftOr, ftAnd, ftNot, ftB, ftT, ftYes, truD_b, truD_i, truD_l, truD_t, truD_n, gIx_t0, gIx_t1, gIx_t2, gSl_t, gSl_l, gIsT, notDict, isT, isN, tyName, gLen_t, gLen_l, gTuple_l, gCmp, gAdd_ii, gAdd_ll, PD.gSub, gNeg, gMod, seqD, forD, wipeR, gEqA, gNeA, gEq_ii, gNe_ii, gEq_tt, gIn_ints, gIn_intsL, gNotIn_ints, gNotIn_intsL, fM0, fM1, fJoined, fJ, flStar, starD, fCall0, gIsTX, noInst_n, noInst_b, noInst_i, noInst_s, noInst_l, noInst_t, fFld, fMeth, fMake, faNil, fsFld, fLendO, fDisp, fpCons, fpNil, fDict0, fiAny, walkD, fiOver, dKeys, dVals, dPairs, fsOwnD, fsPut, fOwnIx, fPop, fsExt, fDc, compK, gInX, gNotInX, gIxX, fGet]
        have fl : (T[i].filter fun b => decide (b ∈ G)).length ≤ T[i].length := List.length_filter_le _ _
        refine ⟨by omega, comp_on PyData.int (fun b => decide (b ∈ G)) PyData.int T[i] [] (fun x hx kt kf c1 c2 => ?_) ?_⟩
        · simp [and_assoc, Rho.set, dropOwn, ftLend, fLend, lendR, frz, ow, nList, -forall_exists_index, fBody, fsSeq, fsIf, fsRet, fsNext, fsDrop, fsAsg, fsNever, fsFor, fsOwn, fsPar2, fsPar3, fsPar_od, fsPar_do, fsPar_oo, fVar, fC, fUn, fOp, fChain, fTup, fLst, fCall, faD, faSt, flCons, flNil, fSl, foSome, foNone, fAnd, fOr, fNot, fIf, fOfN, fn1, fnLst, fnCat, fgN, fgTup, fgCons, fgNil, fiSeq, fiRange1, fiRange2, fiEnumA, fiZip, ftOr, ftAnd, ftNot, ftB, ftT, ftYes, truD_b, truD_i, truD_l, truD_t, truD_n, gIx_t0, gIx_t1, gIx_t2, gSl_t, gSl_l, gIsT, notDict, isT, isN, tyName, gLen_t, gLen_l, gTuple_l, gCmp, gAdd_ii, gAdd_ll, PD.gSub, gNeg, gMod, seqD, forD, wipeR, gEqA, gNeA, gEq_ii, gNe_ii, gEq_tt, gIn_ints, gIn_intsL, gNotIn_ints, gNotIn_intsL, fM0, fM1, fJoined, fJ, flStar, starD, fCall0, gIsTX, noInst_n, noInst_b, noInst_i, noInst_s, noInst_l, noInst_t, fFld, fMeth, fMake, faNil, fsFld, fLendO, fDisp, fpCons, fpNil, fDict0, fiAny, walkD, fiOver, dKeys, dVals, dPairs, fsOwnD, fsPut, fOwnIx, fPop, fsExt, fDc, compK, gInX, gNotInX, gIxX, fGet]
          by_cases hx : x ∈ G
          · exact .inr ⟨hx, c1 (decide_eq_true hx) _ rfl⟩
          · exact .inl ⟨hx, c2 (decide_eq_false hx) _ rfl⟩
        · rw [List.nil_append]
          refine ⟨by rw [List.length_map]; omega, _, ?_, ks ++ [(i : Int)], by rw [List.map_append]; rfl, xs ++ T[i].filter (fun b => decide (b ∈ G)), by rw [List.map_append], rfl, hn2, hk2, fun x hx => ?_, .inl (by simp), ?_, rfl⟩
          · rw [List.length_append, List.length_append]
            have e1 : ([(i : Int)] : List Int).length = 1 := rfl
            omega
          · rcases List.mem_append.mp hx with h | h
            · exact hxw x h
            · exact hr.2 x (List.mem_filter.mp h).1
          · rw [List.length_append, List.length_append]
            have e1 : ([(i : Int)] : List Int).length = 1 := rfl
            omega
theorem gMulX_t {x : D} {m : Int} (h : 1 ≤ m) (h2 : m ≤ 1000) : gMulX (PyData.tuple [x]) (.int m) = some (PyData.tuple (List.replicate m.toNat x)) := by
  have e : (List.replicate m.toNat [x]).flatten = List.replicate m.toNat x := by
    induction m.toNat with
    | zero => rfl
    | succ n ih => rw [List.replicate_succ, List.flatten_cons, ih]; rfl
  show (if m = 1 then some (PyData.tuple [x]) else if [x] ≠ [] ∧ 2 ≤ m ∧ m ≤ 1000 ∧ [x].length ≤ 1000 then some (PyData.tuple (List.replicate m.toNat [x]).flatten) else none) = _
  by_cases h3 : m = 1
  · rw [if_pos h3, h3]
    rfl
  · rw [if_neg h3, if_pos ⟨by simp, by omega, h2, by simp⟩, e]
def W_kept_part : FE := fun ρ k => ∃ q T G, ρ.sl = [.d (wishD q T G), .d (.tuple [])] ∧ WOK q T G ∧ ∀ d, k d ρ
theorem mW_kept_part (ρ : Rho) (k k' : KD) (hM : ∀ d ρ', k d ρ' → k' d ρ') (z : W_kept_part ρ k) : W_kept_part ρ k' := by
  obtain ⟨q, T, G, e1, e2, e3⟩ := z
  exact ⟨q, T, G, e1, e2, fun d => hM _ _ (e3 d)⟩
def U_kept_part (C C' : Addr) : FX := fun ρ k => ∃ d l, ρ.sl = [.d d, .d l] ∧ ((okW d ∧ ∃ p, wishErr d = some p ∧ bw C p k ρ) ∨ ∃ q T G, d = wishD q T G ∧ WOK q T G ∧ okD l ∧ ascB l q = false ∧ k (.ref C') [] ρ)
theorem mU_kept_part (C C' : Addr) (ρ : Rho) (k k' : XC) (hM : ∀ c fl ρ', k c fl ρ' → k' c fl ρ') (z : U_kept_part C C' ρ k) : U_kept_part C C' ρ k' := by
  obtain ⟨d, l, e1, ⟨e2, p, e3, e4⟩ | ⟨q, T, G, e2, e3, e4, e5, e6⟩⟩ := z
  · exact ⟨d, l, e1, .inl ⟨e2, p, e3, hM _ _ _ e4⟩⟩
  · exact ⟨d, l, e1, .inr ⟨q, T, G, e2, e3, e4, e5, hM _ _ _ e6⟩⟩
abbrev s_kept_part : Stmt := top 50
theorem sc_kept_part : FnScope ["wish", "loose", "deeds", "steps", "good", "sure", "states", "numbers", "number", "state", "out", "rows", "behind", "row"] ["wish", "loose"] (defScope s_kept_part) := ⟨rfl, rfl, rfl, by decide +kernel, rfl, by decide +kernel, by decide +kernel⟩
def c_kept_part_8 : FS := (fun ρ P => (fsRet (fTup (flCons (fVar 2) (flCons (fUn gTuple (fVar 11)) (flCons (fUn gTupRg (fVar 10)) (flNil)))))) (frz 11 ρ) P)
def c_kept_part_7 : FS := fsSeq (fsIf (ftLend 11 (ftT (fUn gAny (fOfN (fnComp (fiSeq (fVar 11)) (fgN 13) (ftYes) (fOp gIn (fVar 10) (fVar 13)) [13]))))) ((fun ρ P => (∃ xs : List D, ρ.sl[11]? = some (Sl.own xs)) ∧ fsApp 11 (fOp gMulX (fTup (flCons (fVar 10) (flNil))) (fVar 2)) ρ P)) (fsNext))
  (c_kept_part_8)
def c_kept_part_6 : FS := fsSeq (fsOwn 11 (fnComp (fiSeq (fVar 6)) (fgN 9) (ftYes) (fUn gTuple (fOfN (fnComp (fiSeq (fOp gIx (fVar 3) (fVar 9))) (fgN 12) (ftYes) (fGet (fVar 7) (fVar 12) (fVar 10)) [12]))) [9]))
  (c_kept_part_7)
def c_kept_part_5 : FS := fsSeq (fsAsg (fUn gLen (fVar 6)) (fgN 10))
  (c_kept_part_6)
def c_kept_part_4 : FS := fsSeq (fsAsg (fDc false (fiEnumA (flCons (fVar 6) (flNil))) (fgTup 2 (fgCons (fgN 8) (fgCons (fgN 9) (fgNil)))) (ftYes) (fVar 9) (fVar 8) [8, 9]) (fgN 7))
  (c_kept_part_5)
def c_kept_part_3 : FS := fsSeq (fsAsg (fCall 2 W_reached_states (faD (flCons (fVar 3) (flCons (fVar 5) (flNil))))) (fgN 6))
  (c_kept_part_4)
def c_kept_part_2 : FS := fsSeq (fsIf (ftB (fOp gNotIn (fC (.int 0)) (fVar 5))) (fsRet (fC .none)) (fsNext))
  (c_kept_part_3)
def c_kept_part_1 : FS := fsSeq (fsAsg (fCall 3 W_sure_states (faD (flCons (fVar 3) (flCons (fVar 4) (flCons (fCall 2 W_need_loose (faD (flCons (fVar 0) (flCons (fVar 1) (flNil))))) (flNil)))))) (fgN 5))
  (c_kept_part_2)
def w_kept_part : FS := fsSeq (fsAsg (fCall 1 W_need_wish (faD (flCons (fVar 0) (flNil)))) (fgTup 3 (fgCons (fgN 2) (fgCons (fgN 3) (fgCons (fgN 4) (fgNil))))))
  (c_kept_part_1)
def u_kept_part (C_BadWish C_OutOfPlace : Addr) : FX := fxOr (fxCall 1 (U_need_wish C_BadWish) (faD (flCons (fVar 0) (flNil)))) (fxThen (fsAsg (fCall 1 W_need_wish (faD (flCons (fVar 0) (flNil)))) (fgTup 3 (fgCons (fgN 2) (fgCons (fgN 3) (fgCons (fgN 4) (fgNil)))))) (fxVal (fVar 3) (fxVal (fVar 4) (fxCall 2 (U_need_loose C_OutOfPlace) (faD (flCons (fVar 0) (flCons (fVar 1) (flNil))))))))
theorem raw_kept_part {f : Addr} {fd : FuncData} {a_need_wish : Addr} {d_need_wish : FuncData} {a_reached_states : Addr} {d_reached_states : FuncData} {a_need_loose : Addr} {d_need_loose : FuncData} {a_sure_states : Addr} {d_sure_states : FuncData} {C_BadWish : Addr} {C_OutOfPlace : Addr} (F : Fun K "kept_part" "kept_part" s_kept_part f fd) (T : Txt mg) (g_need_wish : mg "need_wish" = some (.ref a_need_wish)) (g_reached_states : mg "reached_states" = some (.ref a_reached_states)) (g_need_loose : mg "need_loose" = some (.ref a_need_loose)) (g_sure_states : mg "_sure_states" = some (.ref a_sure_states)) (G_need_wish : FnG P w K mg base (L2.CX P w) 5 a_need_wish d_need_wish ["thing"] (spX ⟨K, w, P⟩ (MM TT) 1 W_need_wish (U_need_wish C_BadWish))) (b_need_wish : Binds K d_need_wish ["thing"] []) (k_need_wish : PySem.W.keepIn K (.ref a_need_wish) = true) (G_reached_states : FnG P w K mg base (L2.CX P w) 1 a_reached_states d_reached_states ["steps", "states"] (spD ⟨K, w, P⟩ (MM TT) 2 W_reached_states)) (b_reached_states : Binds K d_reached_states ["steps", "states"] []) (k_reached_states : PySem.W.keepIn K (.ref a_reached_states) = true) (G_need_loose : FnG P w K mg base (L2.CX P w) 5 a_need_loose d_need_loose ["wish", "thing"] (spX ⟨K, w, P⟩ (MM TT) 2 W_need_loose (U_need_loose C_OutOfPlace))) (b_need_loose : Binds K d_need_loose ["wish", "thing"] []) (k_need_loose : PySem.W.keepIn K (.ref a_need_loose) = true) (G_sure_states : FnG P w K mg base (L2.CX P w) 1 a_sure_states d_sure_states ["steps", "good", "loose"] (spD ⟨K, w, P⟩ (MM TT) 3 W_sure_states)) (b_sure_states : Binds K d_sure_states ["steps", "good", "loose"] []) (k_sure_states : PySem.W.keepIn K (.ref a_sure_states) = true) : FnG P w K mg base (L2.CX P w) (6) f fd ["wish", "loose"] (spX ⟨K, w, P⟩ (MM TT) 2 (fBody 14 w_kept_part) (fBodyX 14 (u_kept_part C_BadWish C_OutOfPlace))) := by
  refine fnX F sc_kept_part fun X cdv A outer s H E eX hgd hr tk po => ?_
  subst eX
  have nd := (sc_kept_part).nd
  have hu : (A.deeper (envOfC "kept_part" (defScope s_kept_part) s.heap.objs.size f cdv)).units + 64 < cLine := hr.units
  refine ⟨?_, ?_⟩
  · exact pds_cons (pds_asg (pd_call mW_need_wish (G_need_wish.left.mono (by decide)) hgd hr (by rfl) g_need_wish k_need_wish b_need_wish (pda_d (pdl_cons (pd_var (pv 0)) (pdl_nil)))) (pg1_tup (pgn_cons (pg1_name (i := 2) (pg_name (i := 2) nd rfl (by first | exact Or.inl rfl | exact Or.inr rfl))) (pgn_cons (pg1_name (i := 3) (pg_name (i := 3) nd rfl (by first | exact Or.inl rfl | exact Or.inr rfl))) (pgn_cons (pg1_name (i := 4) (pg_name (i := 4) nd rfl (by first | exact Or.inl rfl | exact Or.inr rfl))) (pgn_nil) (pgs_cons (pg1_name (i := 4) (pg_name (i := 4) nd rfl (by first | exact Or.inl rfl | exact Or.inr rfl))).pg (pgn_nil).pg)) (pgs_cons (pg1_name (i := 3) (pg_name (i := 3) nd rfl (by first | exact Or.inl rfl | exact Or.inr rfl))).pg (pgn_cons (pg1_name (i := 4) (pg_name (i := 4) nd rfl (by first | exact Or.inl rfl | exact Or.inr rfl))) (pgn_nil) (pgs_cons (pg1_name (i := 4) (pg_name (i := 4) nd rfl (by first | exact Or.inl rfl | exact Or.inr rfl))).pg (pgn_nil).pg)).pg)) (pgs_cons (pg1_name (i := 2) (pg_name (i := 2) nd rfl (by first | exact Or.inl rfl | exact Or.inr rfl))).pg (pgn_cons (pg1_name (i := 3) (pg_name (i := 3) nd rfl (by first | exact Or.inl rfl | exact Or.inr rfl))) (pgn_cons (pg1_name (i := 4) (pg_name (i := 4) nd rfl (by first | exact Or.inl rfl | exact Or.inr rfl))) (pgn_nil) (pgs_cons (pg1_name (i := 4) (pg_name (i := 4) nd rfl (by first | exact Or.inl rfl | exact Or.inr rfl))).pg (pgn_nil).pg)) (pgs_cons (pg1_name (i := 3) (pg_name (i := 3) nd rfl (by first | exact Or.inl rfl | exact Or.inr rfl))).pg (pgn_cons (pg1_name (i := 4) (pg_name (i := 4) nd rfl (by first | exact Or.inl rfl | exact Or.inr rfl))) (pgn_nil) (pgs_cons (pg1_name (i := 4) (pg_name (i := 4) nd rfl (by first | exact Or.inl rfl | exact Or.inr rfl))).pg (pgn_nil).pg)).pg)).pg)) (pg_tup rfl (pgn_cons (pg1_name (i := 2) (pg_name (i := 2) nd rfl (by first | exact Or.inl rfl | exact Or.inr rfl))) (pgn_cons (pg1_name (i := 3) (pg_name (i := 3) nd rfl (by first | exact Or.inl rfl | exact Or.inr rfl))) (pgn_cons (pg1_name (i := 4) (pg_name (i := 4) nd rfl (by first | exact Or.inl rfl | exact Or.inr rfl))) (pgn_nil) (pgs_cons (pg1_name (i := 4) (pg_name (i := 4) nd rfl (by first | exact Or.inl rfl | exact Or.inr rfl))).pg (pgn_nil).pg)) (pgs_cons (pg1_name (i := 3) (pg_name (i := 3) nd rfl (by first | exact Or.inl rfl | exact Or.inr rfl))).pg (pgn_cons (pg1_name (i := 4) (pg_name (i := 4) nd rfl (by first | exact Or.inl rfl | exact Or.inr rfl))) (pgn_nil) (pgs_cons (pg1_name (i := 4) (pg_name (i := 4) nd rfl (by first | exact Or.inl rfl | exact Or.inr rfl))).pg (pgn_nil).pg)).pg)) (pgs_cons (pg1_name (i := 2) (pg_name (i := 2) nd rfl (by first | exact Or.inl rfl | exact Or.inr rfl))).pg (pgn_cons (pg1_name (i := 3) (pg_name (i := 3) nd rfl (by first | exact Or.inl rfl | exact Or.inr rfl))) (pgn_cons (pg1_name (i := 4) (pg_name (i := 4) nd rfl (by first | exact Or.inl rfl | exact Or.inr rfl))) (pgn_nil) (pgs_cons (pg1_name (i := 4) (pg_name (i := 4) nd rfl (by first | exact Or.inl rfl | exact Or.inr rfl))).pg (pgn_nil).pg)) (pgs_cons (pg1_name (i := 3) (pg_name (i := 3) nd rfl (by first | exact Or.inl rfl | exact Or.inr rfl))).pg (pgn_cons (pg1_name (i := 4) (pg_name (i := 4) nd rfl (by first | exact Or.inl rfl | exact Or.inr rfl))) (pgn_nil) (pgs_cons (pg1_name (i := 4) (pg_name (i := 4) nd rfl (by first | exact Or.inl rfl | exact Or.inr rfl))).pg (pgn_nil).pg)).pg)).pg)).pg)))
          (pds_cons (pds_asg (pd_call mW_sure_states (G_sure_states.mono (by decide)) hgd hr (by rfl) g_sure_states k_sure_states b_sure_states (pda_d (pdl_cons (pd_var (pv 3)) (pdl_cons (pd_var (pv 4)) (pdl_cons (pd_call mW_need_loose (G_need_loose.left.mono (by decide)) hgd hr (by rfl) g_need_loose k_need_loose b_need_loose (pda_d (pdl_cons (pd_var (pv 0)) (pdl_cons (pd_var (pv 1)) (pdl_nil))))) (pdl_nil)))))) (pg1_name (i := 5) (pg_name (i := 5) nd rfl (by first | exact Or.inl rfl | exact Or.inr rfl))))
          (pds_cons (pds_if (pdt_cmp op_notIn_seq rd_notIn (pd_int) (pd_var (pv 5)) (by first | exact nomark _ | rfl)) (pds_one (pds_ret (pd_non))) (pds_nil))
          (pds_cons (pds_asg (pd_call mW_reached_states (G_reached_states.mono (by decide)) hgd hr (by rfl) g_reached_states k_reached_states b_reached_states (pda_d (pdl_cons (pd_var (pv 3)) (pdl_cons (pd_var (pv 5)) (pdl_nil))))) (pg1_name (i := 6) (pg_name (i := 6) nd rfl (by first | exact Or.inl rfl | exact Or.inr rfl))))
          (pds_cons (pds_asg (pd_dc false rfl hu nd (own := [("number", 8), ("state", 9)]) (vs := [8, 9]) (pdi_enumA (by rfl) T.enumerate (pdl_cons (pd_var (pv 6)) (pdl_nil))) (blkOk_by (own := [("number", 8), ("state", 9)]) (N := ["wish", "loose", "deeds", "steps", "good", "sure", "states", "numbers", "number", "state", "out", "rows", "behind", "row"]) (sc := defScope s_kept_part) (by decide +kernel)) rfl (fun _ _ _ _ _ => pg1_tup (pgn_cons (pg1_name (i := 8) (pg_name (i := 8) nd rfl (by first | exact Or.inl rfl | exact Or.inr rfl))) (pgn_cons (pg1_name (i := 9) (pg_name (i := 9) nd rfl (by first | exact Or.inl rfl | exact Or.inr rfl))) (pgn_nil) (pgs_cons (pg1_name (i := 9) (pg_name (i := 9) nd rfl (by first | exact Or.inl rfl | exact Or.inr rfl))).pg (pgn_nil).pg)) (pgs_cons (pg1_name (i := 8) (pg_name (i := 8) nd rfl (by first | exact Or.inl rfl | exact Or.inr rfl))).pg (pgn_cons (pg1_name (i := 9) (pg_name (i := 9) nd rfl (by first | exact Or.inl rfl | exact Or.inr rfl))) (pgn_nil) (pgs_cons (pg1_name (i := 9) (pg_name (i := 9) nd rfl (by first | exact Or.inl rfl | exact Or.inr rfl))).pg (pgn_nil).pg)).pg)) (pg_tup rfl (pgn_cons (pg1_name (i := 8) (pg_name (i := 8) nd rfl (by first | exact Or.inl rfl | exact Or.inr rfl))) (pgn_cons (pg1_name (i := 9) (pg_name (i := 9) nd rfl (by first | exact Or.inl rfl | exact Or.inr rfl))) (pgn_nil) (pgs_cons (pg1_name (i := 9) (pg_name (i := 9) nd rfl (by first | exact Or.inl rfl | exact Or.inr rfl))).pg (pgn_nil).pg)) (pgs_cons (pg1_name (i := 8) (pg_name (i := 8) nd rfl (by first | exact Or.inl rfl | exact Or.inr rfl))).pg (pgn_cons (pg1_name (i := 9) (pg_name (i := 9) nd rfl (by first | exact Or.inl rfl | exact Or.inr rfl))) (pgn_nil) (pgs_cons (pg1_name (i := 9) (pg_name (i := 9) nd rfl (by first | exact Or.inl rfl | exact Or.inr rfl))).pg (pgn_nil).pg)).pg)).pg)) (fun _ _ _ _ _ => ptn_nil) (fun _ _ _ _ _ => pd_var (pv 9)) (fun _ _ _ _ _ => pd_var (pv 8)) s) (pg1_name (i := 7) (pg_name (i := 7) nd rfl (by first | exact Or.inl rfl | exact Or.inr rfl))))
          (pds_cons (pds_asg (pd_b1 call_lenA r1_len (by rfl) T.len (by decide +kernel) (pd_var (pv 6))) (pg1_name (i := 10) (pg_name (i := 10) nd rfl (by first | exact Or.inl rfl | exact Or.inr rfl))))
          (pds_cons (pds_ownLc (i := 11) rfl nd rfl rfl (sw_true rfl rfl rfl (by decide +kernel)) (own := [("state", 9)]) (vs := [9]) (pdi_seq (pd_var (pv 6))) (blkOk_by (own := [("state", 9)]) (N := ["wish", "loose", "deeds", "steps", "good", "sure", "states", "numbers", "number", "state", "out", "rows", "behind", "row"]) (sc := defScope s_kept_part) (by decide +kernel)) rfl (fun _ _ _ _ _ => pg1_name (i := 9) (pg_name (i := 9) nd rfl (by first | exact Or.inl rfl | exact Or.inr rfl))) (fun _ _ _ _ _ => ptn_nil) (fun _ _ _ _ _ => pd_t1 call_tuple_of r1_tuple (by rfl) T.tuple (by decide +kernel) (pd_ofN (pn_lc rfl nd (own := [("behind", 12)]) (vs := [12]) (pdi_seq (pd_ix ix_any rd_ix (pd_var (pv 3)) (pd_var (pv 9)) (fun _ _ => rfl))) (blkOk_by (own := [("behind", 12)]) (N := ["wish", "loose", "deeds", "steps", "good", "sure", "states", "numbers", "number", "state", "out", "rows", "behind", "row"]) (sc := {kind := PySem.ScopeKind.function, names := [ (PySem.Str.ofString ".0", PySem.NameKind.local), (PySem.Str.ofString "state", PySem.NameKind.local), (PySem.Str.ofString "tuple", PySem.NameKind.globalImplicit), (PySem.Str.ofString "numbers", PySem.NameKind.cell), (PySem.Str.ofString "out", PySem.NameKind.cell), (PySem.Str.ofString "steps", PySem.NameKind.cell)], isGenerator := false, isCoroutine := false, more := [] : PySem.Scope }) (by decide +kernel)) rfl (fun _ _ _ _ _ => pg1_name (i := 12) (pg_name (i := 12) nd rfl (by first | exact Or.inl rfl | exact Or.inr rfl))) (fun _ _ _ _ _ => ptn_nil) (fun _ _ _ _ _ => pd_get hu (pd_var (pv 7)) (pd_var (pv 12)) (pd_var (pv 10)) ⟨rfl, rfl, rfl, rfl⟩) s))) s)
          (pds_cons (pds_if (pdt_lend 11 (pdt_truth (pd_b1 (cr_any rfl) r1_any (by rfl) T.any (by decide +kernel) (pd_ofN (pn_lc rfl nd (own := [("row", 13)]) (vs := [13]) (pdi_seq (pd_var (pv 11))) (blkOk_by (own := [("row", 13)]) (N := ["wish", "loose", "deeds", "steps", "good", "sure", "states", "numbers", "number", "state", "out", "rows", "behind", "row"]) (sc := defScope s_kept_part) (by decide +kernel)) rfl (fun _ _ _ _ _ => pg1_name (i := 13) (pg_name (i := 13) nd rfl (by first | exact Or.inl rfl | exact Or.inr rfl))) (fun _ _ _ _ _ => ptn_nil) (fun _ _ _ _ _ => pd_cmp op_in_seq rd_in (pd_var (pv 10)) (pd_var (pv 13)) (by first | exact nomark _ | rfl)) s))))) (pds_one (pds_app (i := 11) (pd_op op_mulX rd_mulX (pd_tup (pdl_cons (pd_var (pv 10)) (pdl_nil))) (pd_var (pv 2))) (pe_bm PySem.F.plainAttrs_list PySem.F.slot_list_append PySem.F.type_list_append mt_append (pv 11) (pa_cons (pd_op op_mulX rd_mulX (pd_tup (pdl_cons (pd_var (pv 10)) (pdl_nil))) (pd_var (pv 2))).pe pa_nil)))) (pds_nil))
          (pds_one (pds_frz1 11 (pds_ret (pd_tup (pdl_cons (pd_var (pv 2)) (pdl_cons (pd_t1 call_tuple_of r1_tuple (by rfl) T.tuple (by decide +kernel) (pd_var (pv 11))) (pdl_cons (pd_tupRg rfl (by rfl) T.tuple (by rfl) T.range (pd_var (pv 10))) (pdl_nil)))))))))))))))
  · exact prs_or (prs_hd (pr_asg (px_call tk (mU_need_wish C_BadWish) (G_need_wish.right.mono (by decide)) hgd hr (by rfl) g_need_wish k_need_wish b_need_wish (pda_d (pdl_cons (pd_var (pv 0)) (pdl_nil)))) (pg1_tup (pgn_cons (pg1_name (i := 2) (pg_name (i := 2) nd rfl (by first | exact Or.inl rfl | exact Or.inr rfl))) (pgn_cons (pg1_name (i := 3) (pg_name (i := 3) nd rfl (by first | exact Or.inl rfl | exact Or.inr rfl))) (pgn_cons (pg1_name (i := 4) (pg_name (i := 4) nd rfl (by first | exact Or.inl rfl | exact Or.inr rfl))) (pgn_nil) (pgs_cons (pg1_name (i := 4) (pg_name (i := 4) nd rfl (by first | exact Or.inl rfl | exact Or.inr rfl))).pg (pgn_nil).pg)) (pgs_cons (pg1_name (i := 3) (pg_name (i := 3) nd rfl (by first | exact Or.inl rfl | exact Or.inr rfl))).pg (pgn_cons (pg1_name (i := 4) (pg_name (i := 4) nd rfl (by first | exact Or.inl rfl | exact Or.inr rfl))) (pgn_nil) (pgs_cons (pg1_name (i := 4) (pg_name (i := 4) nd rfl (by first | exact Or.inl rfl | exact Or.inr rfl))).pg (pgn_nil).pg)).pg)) (pgs_cons (pg1_name (i := 2) (pg_name (i := 2) nd rfl (by first | exact Or.inl rfl | exact Or.inr rfl))).pg (pgn_cons (pg1_name (i := 3) (pg_name (i := 3) nd rfl (by first | exact Or.inl rfl | exact Or.inr rfl))) (pgn_cons (pg1_name (i := 4) (pg_name (i := 4) nd rfl (by first | exact Or.inl rfl | exact Or.inr rfl))) (pgn_nil) (pgs_cons (pg1_name (i := 4) (pg_name (i := 4) nd rfl (by first | exact Or.inl rfl | exact Or.inr rfl))).pg (pgn_nil).pg)) (pgs_cons (pg1_name (i := 3) (pg_name (i := 3) nd rfl (by first | exact Or.inl rfl | exact Or.inr rfl))).pg (pgn_cons (pg1_name (i := 4) (pg_name (i := 4) nd rfl (by first | exact Or.inl rfl | exact Or.inr rfl))) (pgn_nil) (pgs_cons (pg1_name (i := 4) (pg_name (i := 4) nd rfl (by first | exact Or.inl rfl | exact Or.inr rfl))).pg (pgn_nil).pg)).pg)).pg)) (pg_tup rfl (pgn_cons (pg1_name (i := 2) (pg_name (i := 2) nd rfl (by first | exact Or.inl rfl | exact Or.inr rfl))) (pgn_cons (pg1_name (i := 3) (pg_name (i := 3) nd rfl (by first | exact Or.inl rfl | exact Or.inr rfl))) (pgn_cons (pg1_name (i := 4) (pg_name (i := 4) nd rfl (by first | exact Or.inl rfl | exact Or.inr rfl))) (pgn_nil) (pgs_cons (pg1_name (i := 4) (pg_name (i := 4) nd rfl (by first | exact Or.inl rfl | exact Or.inr rfl))).pg (pgn_nil).pg)) (pgs_cons (pg1_name (i := 3) (pg_name (i := 3) nd rfl (by first | exact Or.inl rfl | exact Or.inr rfl))).pg (pgn_cons (pg1_name (i := 4) (pg_name (i := 4) nd rfl (by first | exact Or.inl rfl | exact Or.inr rfl))) (pgn_nil) (pgs_cons (pg1_name (i := 4) (pg_name (i := 4) nd rfl (by first | exact Or.inl rfl | exact Or.inr rfl))).pg (pgn_nil).pg)).pg)) (pgs_cons (pg1_name (i := 2) (pg_name (i := 2) nd rfl (by first | exact Or.inl rfl | exact Or.inr rfl))).pg (pgn_cons (pg1_name (i := 3) (pg_name (i := 3) nd rfl (by first | exact Or.inl rfl | exact Or.inr rfl))) (pgn_cons (pg1_name (i := 4) (pg_name (i := 4) nd rfl (by first | exact Or.inl rfl | exact Or.inr rfl))) (pgn_nil) (pgs_cons (pg1_name (i := 4) (pg_name (i := 4) nd rfl (by first | exact Or.inl rfl | exact Or.inr rfl))).pg (pgn_nil).pg)) (pgs_cons (pg1_name (i := 3) (pg_name (i := 3) nd rfl (by first | exact Or.inl rfl | exact Or.inr rfl))).pg (pgn_cons (pg1_name (i := 4) (pg_name (i := 4) nd rfl (by first | exact Or.inl rfl | exact Or.inr rfl))) (pgn_nil) (pgs_cons (pg1_name (i := 4) (pg_name (i := 4) nd rfl (by first | exact Or.inl rfl | exact Or.inr rfl))).pg (pgn_nil).pg)).pg)).pg)).pg))) (pds_cons (pds_asg (pd_call mW_sure_states (G_sure_states.mono (by decide)) hgd hr (by rfl) g_sure_states k_sure_states b_sure_states (pda_d (pdl_cons (pd_var (pv 3)) (pdl_cons (pd_var (pv 4)) (pdl_cons (pd_call mW_need_loose (G_need_loose.left.mono (by decide)) hgd hr (by rfl) g_need_loose k_need_loose b_need_loose (pda_d (pdl_cons (pd_var (pv 0)) (pdl_cons (pd_var (pv 1)) (pdl_nil))))) (pdl_nil)))))) (pg1_name (i := 5) (pg_name (i := 5) nd rfl (by first | exact Or.inl rfl | exact Or.inr rfl))))
          (pds_cons (pds_if (pdt_cmp op_notIn_seq rd_notIn (pd_int) (pd_var (pv 5)) (by first | exact nomark _ | rfl)) (pds_one (pds_ret (pd_non))) (pds_nil))
          (pds_cons (pds_asg (pd_call mW_reached_states (G_reached_states.mono (by decide)) hgd hr (by rfl) g_reached_states k_reached_states b_reached_states (pda_d (pdl_cons (pd_var (pv 3)) (pdl_cons (pd_var (pv 5)) (pdl_nil))))) (pg1_name (i := 6) (pg_name (i := 6) nd rfl (by first | exact Or.inl rfl | exact Or.inr rfl))))
          (pds_cons (pds_asg (pd_dc false rfl hu nd (own := [("number", 8), ("state", 9)]) (vs := [8, 9]) (pdi_enumA (by rfl) T.enumerate (pdl_cons (pd_var (pv 6)) (pdl_nil))) (blkOk_by (own := [("number", 8), ("state", 9)]) (N := ["wish", "loose", "deeds", "steps", "good", "sure", "states", "numbers", "number", "state", "out", "rows", "behind", "row"]) (sc := defScope s_kept_part) (by decide +kernel)) rfl (fun _ _ _ _ _ => pg1_tup (pgn_cons (pg1_name (i := 8) (pg_name (i := 8) nd rfl (by first | exact Or.inl rfl | exact Or.inr rfl))) (pgn_cons (pg1_name (i := 9) (pg_name (i := 9) nd rfl (by first | exact Or.inl rfl | exact Or.inr rfl))) (pgn_nil) (pgs_cons (pg1_name (i := 9) (pg_name (i := 9) nd rfl (by first | exact Or.inl rfl | exact Or.inr rfl))).pg (pgn_nil).pg)) (pgs_cons (pg1_name (i := 8) (pg_name (i := 8) nd rfl (by first | exact Or.inl rfl | exact Or.inr rfl))).pg (pgn_cons (pg1_name (i := 9) (pg_name (i := 9) nd rfl (by first | exact Or.inl rfl | exact Or.inr rfl))) (pgn_nil) (pgs_cons (pg1_name (i := 9) (pg_name (i := 9) nd rfl (by first | exact Or.inl rfl | exact Or.inr rfl))).pg (pgn_nil).pg)).pg)) (pg_tup rfl (pgn_cons (pg1_name (i := 8) (pg_name (i := 8) nd rfl (by first | exact Or.inl rfl | exact Or.inr rfl))) (pgn_cons (pg1_name (i := 9) (pg_name (i := 9) nd rfl (by first | exact Or.inl rfl | exact Or.inr rfl))) (pgn_nil) (pgs_cons (pg1_name (i := 9) (pg_name (i := 9) nd rfl (by first | exact Or.inl rfl | exact Or.inr rfl))).pg (pgn_nil).pg)) (pgs_cons (pg1_name (i := 8) (pg_name (i := 8) nd rfl (by first | exact Or.inl rfl | exact Or.inr rfl))).pg (pgn_cons (pg1_name (i := 9) (pg_name (i := 9) nd rfl (by first | exact Or.inl rfl | exact Or.inr rfl))) (pgn_nil) (pgs_cons (pg1_name (i := 9) (pg_name (i := 9) nd rfl (by first | exact Or.inl rfl | exact Or.inr rfl))).pg (pgn_nil).pg)).pg)).pg)) (fun _ _ _ _ _ => ptn_nil) (fun _ _ _ _ _ => pd_var (pv 9)) (fun _ _ _ _ _ => pd_var (pv 8)) s) (pg1_name (i := 7) (pg_name (i := 7) nd rfl (by first | exact Or.inl rfl | exact Or.inr rfl))))
          (pds_cons (pds_asg (pd_b1 call_lenA r1_len (by rfl) T.len (by decide +kernel) (pd_var (pv 6))) (pg1_name (i := 10) (pg_name (i := 10) nd rfl (by first | exact Or.inl rfl | exact Or.inr rfl))))
          (pds_cons (pds_ownLc (i := 11) rfl nd rfl rfl (sw_true rfl rfl rfl (by decide +kernel)) (own := [("state", 9)]) (vs := [9]) (pdi_seq (pd_var (pv 6))) (blkOk_by (own := [("state", 9)]) (N := ["wish", "loose", "deeds", "steps", "good", "sure", "states", "numbers", "number", "state", "out", "rows", "behind", "row"]) (sc := defScope s_kept_part) (by decide +kernel)) rfl (fun _ _ _ _ _ => pg1_name (i := 9) (pg_name (i := 9) nd rfl (by first | exact Or.inl rfl | exact Or.inr rfl))) (fun _ _ _ _ _ => ptn_nil) (fun _ _ _ _ _ => pd_t1 call_tuple_of r1_tuple (by rfl) T.tuple (by decide +kernel) (pd_ofN (pn_lc rfl nd (own := [("behind", 12)]) (vs := [12]) (pdi_seq (pd_ix ix_any rd_ix (pd_var (pv 3)) (pd_var (pv 9)) (fun _ _ => rfl))) (blkOk_by (own := [("behind", 12)]) (N := ["wish", "loose", "deeds", "steps", "good", "sure", "states", "numbers", "number", "state", "out", "rows", "behind", "row"]) (sc := {kind := PySem.ScopeKind.function, names := [ (PySem.Str.ofString ".0", PySem.NameKind.local), (PySem.Str.ofString "state", PySem.NameKind.local), (PySem.Str.ofString "tuple", PySem.NameKind.globalImplicit), (PySem.Str.ofString "numbers", PySem.NameKind.cell), (PySem.Str.ofString "out", PySem.NameKind.cell), (PySem.Str.ofString "steps", PySem.NameKind.cell)], isGenerator := false, isCoroutine := false, more := [] : PySem.Scope }) (by decide +kernel)) rfl (fun _ _ _ _ _ => pg1_name (i := 12) (pg_name (i := 12) nd rfl (by first | exact Or.inl rfl | exact Or.inr rfl))) (fun _ _ _ _ _ => ptn_nil) (fun _ _ _ _ _ => pd_get hu (pd_var (pv 7)) (pd_var (pv 12)) (pd_var (pv 10)) ⟨rfl, rfl, rfl, rfl⟩) s))) s)
          (pds_cons (pds_if (pdt_lend 11 (pdt_truth (pd_b1 (cr_any rfl) r1_any (by rfl) T.any (by decide +kernel) (pd_ofN (pn_lc rfl nd (own := [("row", 13)]) (vs := [13]) (pdi_seq (pd_var (pv 11))) (blkOk_by (own := [("row", 13)]) (N := ["wish", "loose", "deeds", "steps", "good", "sure", "states", "numbers", "number", "state", "out", "rows", "behind", "row"]) (sc := defScope s_kept_part) (by decide +kernel)) rfl (fun _ _ _ _ _ => pg1_name (i := 13) (pg_name (i := 13) nd rfl (by first | exact Or.inl rfl | exact Or.inr rfl))) (fun _ _ _ _ _ => ptn_nil) (fun _ _ _ _ _ => pd_cmp op_in_seq rd_in (pd_var (pv 10)) (pd_var (pv 13)) (by first | exact nomark _ | rfl)) s))))) (pds_one (pds_app (i := 11) (pd_op op_mulX rd_mulX (pd_tup (pdl_cons (pd_var (pv 10)) (pdl_nil))) (pd_var (pv 2))) (pe_bm PySem.F.plainAttrs_list PySem.F.slot_list_append PySem.F.type_list_append mt_append (pv 11) (pa_cons (pd_op op_mulX rd_mulX (pd_tup (pdl_cons (pd_var (pv 10)) (pdl_nil))) (pd_var (pv 2))).pe pa_nil)))) (pds_nil))
          (pds_one (pds_frz1 11 (pds_ret (pd_tup (pdl_cons (pd_var (pv 2)) (pdl_cons (pd_t1 call_tuple_of r1_tuple (by rfl) T.tuple (by decide +kernel) (pd_var (pv 11))) (pdl_cons (pd_tupRg rfl (by rfl) T.tuple (by rfl) T.range (pd_var (pv 10))) (pdl_nil))))))))))))))))
          (prs_tl (pds_asg (pd_call mW_need_wish (G_need_wish.left.mono (by decide)) hgd hr (by rfl) g_need_wish k_need_wish b_need_wish (pda_d (pdl_cons (pd_var (pv 0)) (pdl_nil)))) (pg1_tup (pgn_cons (pg1_name (i := 2) (pg_name (i := 2) nd rfl (by first | exact Or.inl rfl | exact Or.inr rfl))) (pgn_cons (pg1_name (i := 3) (pg_name (i := 3) nd rfl (by first | exact Or.inl rfl | exact Or.inr rfl))) (pgn_cons (pg1_name (i := 4) (pg_name (i := 4) nd rfl (by first | exact Or.inl rfl | exact Or.inr rfl))) (pgn_nil) (pgs_cons (pg1_name (i := 4) (pg_name (i := 4) nd rfl (by first | exact Or.inl rfl | exact Or.inr rfl))).pg (pgn_nil).pg)) (pgs_cons (pg1_name (i := 3) (pg_name (i := 3) nd rfl (by first | exact Or.inl rfl | exact Or.inr rfl))).pg (pgn_cons (pg1_name (i := 4) (pg_name (i := 4) nd rfl (by first | exact Or.inl rfl | exact Or.inr rfl))) (pgn_nil) (pgs_cons (pg1_name (i := 4) (pg_name (i := 4) nd rfl (by first | exact Or.inl rfl | exact Or.inr rfl))).pg (pgn_nil).pg)).pg)) (pgs_cons (pg1_name (i := 2) (pg_name (i := 2) nd rfl (by first | exact Or.inl rfl | exact Or.inr rfl))).pg (pgn_cons (pg1_name (i := 3) (pg_name (i := 3) nd rfl (by first | exact Or.inl rfl | exact Or.inr rfl))) (pgn_cons (pg1_name (i := 4) (pg_name (i := 4) nd rfl (by first | exact Or.inl rfl | exact Or.inr rfl))) (pgn_nil) (pgs_cons (pg1_name (i := 4) (pg_name (i := 4) nd rfl (by first | exact Or.inl rfl | exact Or.inr rfl))).pg (pgn_nil).pg)) (pgs_cons (pg1_name (i := 3) (pg_name (i := 3) nd rfl (by first | exact Or.inl rfl | exact Or.inr rfl))).pg (pgn_cons (pg1_name (i := 4) (pg_name (i := 4) nd rfl (by first | exact Or.inl rfl | exact Or.inr rfl))) (pgn_nil) (pgs_cons (pg1_name (i := 4) (pg_name (i := 4) nd rfl (by first | exact Or.inl rfl | exact Or.inr rfl))).pg (pgn_nil).pg)).pg)).pg)) (pg_tup rfl (pgn_cons (pg1_name (i := 2) (pg_name (i := 2) nd rfl (by first | exact Or.inl rfl | exact Or.inr rfl))) (pgn_cons (pg1_name (i := 3) (pg_name (i := 3) nd rfl (by first | exact Or.inl rfl | exact Or.inr rfl))) (pgn_cons (pg1_name (i := 4) (pg_name (i := 4) nd rfl (by first | exact Or.inl rfl | exact Or.inr rfl))) (pgn_nil) (pgs_cons (pg1_name (i := 4) (pg_name (i := 4) nd rfl (by first | exact Or.inl rfl | exact Or.inr rfl))).pg (pgn_nil).pg)) (pgs_cons (pg1_name (i := 3) (pg_name (i := 3) nd rfl (by first | exact Or.inl rfl | exact Or.inr rfl))).pg (pgn_cons (pg1_name (i := 4) (pg_name (i := 4) nd rfl (by first | exact Or.inl rfl | exact Or.inr rfl))) (pgn_nil) (pgs_cons (pg1_name (i := 4) (pg_name (i := 4) nd rfl (by first | exact Or.inl rfl | exact Or.inr rfl))).pg (pgn_nil).pg)).pg)) (pgs_cons (pg1_name (i := 2) (pg_name (i := 2) nd rfl (by first | exact Or.inl rfl | exact Or.inr rfl))).pg (pgn_cons (pg1_name (i := 3) (pg_name (i := 3) nd rfl (by first | exact Or.inl rfl | exact Or.inr rfl))) (pgn_cons (pg1_name (i := 4) (pg_name (i := 4) nd rfl (by first | exact Or.inl rfl | exact Or.inr rfl))) (pgn_nil) (pgs_cons (pg1_name (i := 4) (pg_name (i := 4) nd rfl (by first | exact Or.inl rfl | exact Or.inr rfl))).pg (pgn_nil).pg)) (pgs_cons (pg1_name (i := 3) (pg_name (i := 3) nd rfl (by first | exact Or.inl rfl | exact Or.inr rfl))).pg (pgn_cons (pg1_name (i := 4) (pg_name (i := 4) nd rfl (by first | exact Or.inl rfl | exact Or.inr rfl))) (pgn_nil) (pgs_cons (pg1_name (i := 4) (pg_name (i := 4) nd rfl (by first | exact Or.inl rfl | exact Or.inr rfl))).pg (pgn_nil).pg)).pg)).pg)).pg))) (prs_hd (pr_asg (px_args (G_sure_states.mono (by decide)) hgd hr (by rfl) g_sure_states k_sure_states b_sure_states (pxl_tl (pd_var (pv 3)) (pxl_tl (pd_var (pv 4)) (pxl_hd (px_call tk (mU_need_loose C_OutOfPlace) (G_need_loose.right.mono (by decide)) hgd hr (by rfl) g_need_loose k_need_loose b_need_loose (pda_d (pdl_cons (pd_var (pv 0)) (pdl_cons (pd_var (pv 1)) (pdl_nil))))) (pdl_nil))))) (pg1_name (i := 5) (pg_name (i := 5) nd rfl (by first | exact Or.inl rfl | exact Or.inr rfl)))) (pds_cons (pds_if (pdt_cmp op_notIn_seq rd_notIn (pd_int) (pd_var (pv 5)) (by first | exact nomark _ | rfl)) (pds_one (pds_ret (pd_non))) (pds_nil))
          (pds_cons (pds_asg (pd_call mW_reached_states (G_reached_states.mono (by decide)) hgd hr (by rfl) g_reached_states k_reached_states b_reached_states (pda_d (pdl_cons (pd_var (pv 3)) (pdl_cons (pd_var (pv 5)) (pdl_nil))))) (pg1_name (i := 6) (pg_name (i := 6) nd rfl (by first | exact Or.inl rfl | exact Or.inr rfl))))
          (pds_cons (pds_asg (pd_dc false rfl hu nd (own := [("number", 8), ("state", 9)]) (vs := [8, 9]) (pdi_enumA (by rfl) T.enumerate (pdl_cons (pd_var (pv 6)) (pdl_nil))) (blkOk_by (own := [("number", 8), ("state", 9)]) (N := ["wish", "loose", "deeds", "steps", "good", "sure", "states", "numbers", "number", "state", "out", "rows", "behind", "row"]) (sc := defScope s_kept_part) (by decide +kernel)) rfl (fun _ _ _ _ _ => pg1_tup (pgn_cons (pg1_name (i := 8) (pg_name (i := 8) nd rfl (by first | exact Or.inl rfl | exact Or.inr rfl))) (pgn_cons (pg1_name (i := 9) (pg_name (i := 9) nd rfl (by first | exact Or.inl rfl | exact Or.inr rfl))) (pgn_nil) (pgs_cons (pg1_name (i := 9) (pg_name (i := 9) nd rfl (by first | exact Or.inl rfl | exact Or.inr rfl))).pg (pgn_nil).pg)) (pgs_cons (pg1_name (i := 8) (pg_name (i := 8) nd rfl (by first | exact Or.inl rfl | exact Or.inr rfl))).pg (pgn_cons (pg1_name (i := 9) (pg_name (i := 9) nd rfl (by first | exact Or.inl rfl | exact Or.inr rfl))) (pgn_nil) (pgs_cons (pg1_name (i := 9) (pg_name (i := 9) nd rfl (by first | exact Or.inl rfl | exact Or.inr rfl))).pg (pgn_nil).pg)).pg)) (pg_tup rfl (pgn_cons (pg1_name (i := 8) (pg_name (i := 8) nd rfl (by first | exact Or.inl rfl | exact Or.inr rfl))) (pgn_cons (pg1_name (i := 9) (pg_name (i := 9) nd rfl (by first | exact Or.inl rfl | exact Or.inr rfl))) (pgn_nil) (pgs_cons (pg1_name (i := 9) (pg_name (i := 9) nd rfl (by first | exact Or.inl rfl | exact Or.inr rfl))).pg (pgn_nil).pg)) (pgs_cons (pg1_name (i := 8) (pg_name (i := 8) nd rfl (by first | exact Or.inl rfl | exact Or.inr rfl))).pg (pgn_cons (pg1_name (i := 9) (pg_name (i := 9) nd rfl (by first | exact Or.inl rfl | exact Or.inr rfl))) (pgn_nil) (pgs_cons (pg1_name (i := 9) (pg_name (i := 9) nd rfl (by first | exact Or.inl rfl | exact Or.inr rfl))).pg (pgn_nil).pg)).pg)).pg)) (fun _ _ _ _ _ => ptn_nil) (fun _ _ _ _ _ => pd_var (pv 9)) (fun _ _ _ _ _ => pd_var (pv 8)) s) (pg1_name (i := 7) (pg_name (i := 7) nd rfl (by first | exact Or.inl rfl | exact Or.inr rfl))))
          (pds_cons (pds_asg (pd_b1 call_lenA r1_len (by rfl) T.len (by decide +kernel) (pd_var (pv 6))) (pg1_name (i := 10) (pg_name (i := 10) nd rfl (by first | exact Or.inl rfl | exact Or.inr rfl))))
          (pds_cons (pds_ownLc (i := 11) rfl nd rfl rfl (sw_true rfl rfl rfl (by decide +kernel)) (own := [("state", 9)]) (vs := [9]) (pdi_seq (pd_var (pv 6))) (blkOk_by (own := [("state", 9)]) (N := ["wish", "loose", "deeds", "steps", "good", "sure", "states", "numbers", "number", "state", "out", "rows", "behind", "row"]) (sc := defScope s_kept_part) (by decide +kernel)) rfl (fun _ _ _ _ _ => pg1_name (i := 9) (pg_name (i := 9) nd rfl (by first | exact Or.inl rfl | exact Or.inr rfl))) (fun _ _ _ _ _ => ptn_nil) (fun _ _ _ _ _ => pd_t1 call_tuple_of r1_tuple (by rfl) T.tuple (by decide +kernel) (pd_ofN (pn_lc rfl nd (own := [("behind", 12)]) (vs := [12]) (pdi_seq (pd_ix ix_any rd_ix (pd_var (pv 3)) (pd_var (pv 9)) (fun _ _ => rfl))) (blkOk_by (own := [("behind", 12)]) (N := ["wish", "loose", "deeds", "steps", "good", "sure", "states", "numbers", "number", "state", "out", "rows", "behind", "row"]) (sc := {kind := PySem.ScopeKind.function, names := [ (PySem.Str.ofString ".0", PySem.NameKind.local), (PySem.Str.ofString "state", PySem.NameKind.local), (PySem.Str.ofString "tuple", PySem.NameKind.globalImplicit), (PySem.Str.ofString "numbers", PySem.NameKind.cell), (PySem.Str.ofString "out", PySem.NameKind.cell), (PySem.Str.ofString "steps", PySem.NameKind.cell)], isGenerator := false, isCoroutine := false, more := [] : PySem.Scope }) (by decide +kernel)) rfl (fun _ _ _ _ _ => pg1_name (i := 12) (pg_name (i := 12) nd rfl (by first | exact Or.inl rfl | exact Or.inr rfl))) (fun _ _ _ _ _ => ptn_nil) (fun _ _ _ _ _ => pd_get hu (pd_var (pv 7)) (pd_var (pv 12)) (pd_var (pv 10)) ⟨rfl, rfl, rfl, rfl⟩) s))) s)
          (pds_cons (pds_if (pdt_lend 11 (pdt_truth (pd_b1 (cr_any rfl) r1_any (by rfl) T.any (by decide +kernel) (pd_ofN (pn_lc rfl nd (own := [("row", 13)]) (vs := [13]) (pdi_seq (pd_var (pv 11))) (blkOk_by (own := [("row", 13)]) (N := ["wish", "loose", "deeds", "steps", "good", "sure", "states", "numbers", "number", "state", "out", "rows", "behind", "row"]) (sc := defScope s_kept_part) (by decide +kernel)) rfl (fun _ _ _ _ _ => pg1_name (i := 13) (pg_name (i := 13) nd rfl (by first | exact Or.inl rfl | exact Or.inr rfl))) (fun _ _ _ _ _ => ptn_nil) (fun _ _ _ _ _ => pd_cmp op_in_seq rd_in (pd_var (pv 10)) (pd_var (pv 13)) (by first | exact nomark _ | rfl)) s))))) (pds_one (pds_app (i := 11) (pd_op op_mulX rd_mulX (pd_tup (pdl_cons (pd_var (pv 10)) (pdl_nil))) (pd_var (pv 2))) (pe_bm PySem.F.plainAttrs_list PySem.F.slot_list_append PySem.F.type_list_append mt_append (pv 11) (pa_cons (pd_op op_mulX rd_mulX (pd_tup (pdl_cons (pd_var (pv 10)) (pdl_nil))) (pd_var (pv 2))).pe pa_nil)))) (pds_nil))
          (pds_one (pds_frz1 11 (pds_ret (pd_tup (pdl_cons (pd_var (pv 2)) (pdl_cons (pd_t1 call_tuple_of r1_tuple (by rfl) T.tuple (by decide +kernel) (pd_var (pv 11))) (pdl_cons (pd_tupRg rfl (by rfl) T.tuple (by rfl) T.range (pd_var (pv 10))) (pdl_nil))))))))))))))))
theorem okx_kept_part (C C' : Addr) : ∀ ρ k, U_kept_part C C' ρ k → fBodyX 14 (u_kept_part C C') ρ k := by
  rintro ⟨sl, n⟩ k ⟨d, l, e1, h⟩
  simp only at e1
  subst e1
  simp [u_kept_part, fBodyX, fxCall, fxOr, fxThen, fxVal]
  simp [and_assoc, Rho.set, dropOwn, ftLend, fLend, lendR, frz, ow, nList, -forall_exists_index, fBody, fsSeq, fsIf, fsRet, fsNext, fsDrop, fsAsg, fsNever, fsFor, fsOwn, fsPar2, fsPar3, fsPar_od, fsPar_do, fsPar_oo, fVar, fC, fUn, fOp, fChain, fTup, fLst, fCall, faD, faSt, flCons, flNil, fSl, foSome, foNone, fAnd, fOr, fNot, fIf, fOfN, fn1, fnLst, fnCat, fgN, fgTup, fgCons, fgNil, fiSeq, fiRange1, fiRange2, fiEnumA, fiZip, ftOr, ftAnd, ftNot, ftB, ftT, ftYes, truD_b, truD_i, truD_l, truD_t, truD_n, gIx_t0, gIx_t1, gIx_t2, gSl_t, gSl_l, gIsT, notDict, isT, isN, tyName, gLen_t, gLen_l, gTuple_l, gCmp, gAdd_ii, gAdd_ll, PD.gSub, gNeg, gMod, seqD, forD, wipeR, gEqA, gNeA, gEq_ii, gNe_ii, gEq_tt, gIn_ints, gIn_intsL, gNotIn_ints, gNotIn_intsL, fM0, fM1, fJoined, fJ, flStar, starD, fCall0, gIsTX, noInst_n, noInst_b, noInst_i, noInst_s, noInst_l, noInst_t, fFld, fMeth, fMake, faNil, fsFld, fLendO, fDisp, fpCons, fpNil, fDict0, fiAny, walkD, fiOver, dKeys, dVals, dPairs, fsOwnD, fsPut, fOwnIx, fPop, fsExt, fDc, compK, gInX, gNotInX, gIxX, fGet]
  rcases h with ⟨h1, p, h2, h3⟩ | ⟨q, T, G, rfl, w, h5, h6, z⟩
  · exact .inl ⟨d, p, rfl, h1, h2, h3⟩
  · exact .inr ⟨q, T, G, rfl, w, _, rfl, rfl, _, _, rfl, _, _, rfl, _, _, rfl, rfl, q, T, G, l, rfl, h5, h6, z⟩
/-- a dict made by a comprehension, ints by ints -/
theorem compI {γ : Type} {g : FG} {ft : FT} {fk fv : FE} {vs : List Nat} {ρ : Rho} {k : List (D × D) → Rho → Prop} (c : γ → D) (kx vx : γ → Int) : ∀ (xs : List γ) (acc : List (Int × Int)),
    (∀ x ∈ xs, ∀ (kt : D → D → Rho → Prop) (kf : Rho → Prop), (∀ ρ3 : Rho, ρ3.n = ρ.n → kt (.int (kx x)) (.int (vx x)) ρ3) → g (c x) (wipeR vs ρ) fun ρ1 => ft ρ1 fun b ρ2 => if b = true then fk ρ2 fun y ρ3 => fv ρ3 fun z ρ4 => kt y z ρ4 else kf ρ2) →
    (acc.map (·.1) ++ xs.map kx).Nodup → (∀ l : List (Int × Int), (acc ≠ [] ∨ xs ≠ [] → l ≠ []) → k (dI (l.map fun p => (p.1, .int p.2))) ρ) → compK false g ft fk fv vs (xs.map c) (dI (acc.map fun p => (p.1, .int p.2))) ρ k
  | [], acc, _, _, q => by
    unfold compK
    exact q acc fun h => h.elim id fun z => absurd rfl z
  | x :: xs, acc, s, hn, q => by
    rw [List.map_cons]
    unfold compK
    refine s x List.mem_cons_self (fun y z ρ4 => ∃ kk, keyN y = some kk ∧ kk.depth ≤ 8 ∧ (if false = true then isTupK y else isFlatK y) = true ∧ compK false g ft fk fv vs (xs.map c) (dPut (dI (acc.map fun p => (p.1, .int p.2))) y kk z) ⟨ρ.sl, ρ4.n⟩ k) (fun ρ2 => compK false g ft fk fv vs (xs.map c) (dI (acc.map fun p => (p.1, .int p.2))) ⟨ρ.sl, ρ2.n⟩ k) (fun ρ3 e3 => ?_)
    have hx : kx x ∉ (acc.map fun p : Int × Int => ((p.1, PyData.int p.2) : Int × D)).map (·.1) := fun z => by
      rw [List.map_map] at z
      rw [List.map_cons] at hn
      exact (List.nodup_append.mp hn).2.2 _ z _ List.mem_cons_self rfl
    refine ⟨.num (kx x), rfl, (by show 0 ≤ 8; decide), rfl, ?_⟩
    rw [dI_put _ _ _ hx, e3]
    have := compI (g := g) (ft := ft) (fk := fk) (fv := fv) (vs := vs) (ρ := ρ) (k := k) c kx vx xs (acc ++ [(kx x, vx x)]) (fun y hy => s y (List.mem_cons_of_mem _ hy)) (by
      rw [List.map_append, List.append_assoc]
      exact hn) fun l hl => q l fun _ => hl (.inl (by simp))
    rw [List.map_append] at this
    exact this
theorem lookI (l : List (Int × Int)) (x : Int) (o : D) (v : Int) (ho : o = .int v) : (dAt (dI (l.map fun p => (p.1, PyData.int p.2))) (.num x)).getD o = .int ((l.lookup x).getD v) := by
  subst ho
  rw [dI_at]
  induction l with
  | nil => rfl
  | cons p l ih =>
    obtain ⟨y, c⟩ := p
    rw [List.map_cons, List.lookup_cons, List.lookup_cons]
    cases h : x == y with
    | true => rfl
    | false => exact ih
theorem kept_8 {n : Nat} {P : Post} {q : Int} {m : Nat} {rows : List D} {s0 s1 s3 s4 s5 s6 s7 s8 s9 s12 s13 : Sl} (hs : m ≤ 6) (h : ∀ d ρ', ρ'.n = n → P.rt d ρ') :
    c_kept_part_8 ⟨[s0, s1, .d (.int q), s3, s4, s5, s6, s7, s8, s9, .d (.int m), .own (.l rows), s12, s13], n⟩ P := by
  unfold c_kept_part_8
  simp [and_assoc, Rho.set, dropOwn, ftLend, fLend, lendR, frz, ow, nList, -forall_exists_index, fBody, fsSeq, fsIf, fsRet, fsNext, fsDrop, fsAsg, fsNever, fsFor, fsOwn, fsPar2, fsPar3, fsPar_od, fsPar_do, fsPar_oo, fVar, fC, fUn, fOp, fChain, fTup, fLst, fCall, faD, faSt, flCons, flNil, fSl, foSome, foNone, fAnd, fOr, fNot, fIf, fOfN, fn1, fnLst, fnCat, fgN, fgTup, fgCons, fgNil, fiSeq, fiRange1, fiRange2, fiEnumA, fiZip, ftOr, ftAnd, ftNot, ftB, ftT, ftYes, truD_b, truD_i, truD_l, truD_t, truD_n, gIx_t0, gIx_t1, gIx_t2, gSl_t, gSl_l, gIsT, notDict, isT, isN, tyName, gLen_t, gLen_l, gTuple_l, gCmp, gAdd_ii, gAdd_ll, PD.gSub, gNeg, gMod, seqD, forD, wipeR, gEqA, gNeA, gEq_ii, gNe_ii, gEq_tt, gIn_ints, gIn_intsL, gNotIn_ints, gNotIn_intsL, fM0, fM1, fJoined, fJ, flStar, starD, fCall0, gIsTX, noInst_n, noInst_b, noInst_i, noInst_s, noInst_l, noInst_t, fFld, fMeth, fMake, faNil, fsFld, fLendO, fDisp, fpCons, fpNil, fDict0, fiAny, walkD, fiOver, dKeys, dVals, dPairs, fsOwnD, fsPut, fOwnIx, fPop, fsExt, fDc, compK, gInX, gNotInX, gIxX, fGet]
  refine ⟨.tuple ((List.range (m : Int).toNat).map fun i : Nat => .int (i : Int)), ?_, h _ _ rfl⟩
  · show (if 0 ≤ (m : Int) ∧ (m : Int) ≤ 1000000 then some (PyData.tuple ((List.range (m : Int).toNat).map fun i : Nat => PyData.int (i : Int))) else none) = _
    rw [if_pos ⟨by omega, by omega⟩]
theorem kept_7 {n : Nat} {P : Post} {q : Int} {m : Nat} {R : List (List Int)} {d0 d1 d3 d4 d5 d6 d7 : D} (hq : 1 ≤ q ∧ q ≤ 4) (hs : m ≤ 6) (hr : R.length ≤ 6) (h : ∀ d ρ', ρ'.n = n → P.rt d ρ') :
    c_kept_part_7 ⟨[.d d0, .d d1, .d (.int q), .d d3, .d d4, .d d5, .d d6, .d d7, .no, .no, .d (.int m), .own (.l (R.map tupI)), .no, .no], n⟩ P := by
  unfold c_kept_part_7
  simp [and_assoc, Rho.set, dropOwn, ftLend, fLend, lendR, frz, ow, nList, -forall_exists_index, fBody, fsSeq, fsIf, fsRet, fsNext, fsDrop, fsAsg, fsNever, fsFor, fsOwn, fsPar2, fsPar3, fsPar_od, fsPar_do, fsPar_oo, fVar, fC, fUn, fOp, fChain, fTup, fLst, fCall, faD, faSt, flCons, flNil, fSl, foSome, foNone, fAnd, fOr, fNot, fIf, fOfN, fn1, fnLst, fnCat, fgN, fgTup, fgCons, fgNil, fiSeq, fiRange1, fiRange2, fiEnumA, fiZip, ftOr, ftAnd, ftNot, ftB, ftT, ftYes, truD_b, truD_i, truD_l, truD_t, truD_n, gIx_t0, gIx_t1, gIx_t2, gSl_t, gSl_l, gIsT, notDict, isT, isN, tyName, gLen_t, gLen_l, gTuple_l, gCmp, gAdd_ii, gAdd_ll, PD.gSub, gNeg, gMod, seqD, forD, wipeR, gEqA, gNeA, gEq_ii, gNe_ii, gEq_tt, gIn_ints, gIn_intsL, gNotIn_ints, gNotIn_intsL, fM0, fM1, fJoined, fJ, flStar, starD, fCall0, gIsTX, noInst_n, noInst_b, noInst_i, noInst_s, noInst_l, noInst_t, fFld, fMeth, fMake, faNil, fsFld, fLendO, fDisp, fpCons, fpNil, fDict0, fiAny, walkD, fiOver, dKeys, dVals, dPairs, fsOwnD, fsPut, fOwnIx, fPop, fsExt, fDc, compK, gInX, gNotInX, gIxX, fGet]
  refine fnComp_i ?_
  simp [and_assoc, Rho.set, dropOwn, ftLend, fLend, lendR, frz, ow, nList, -forall_exists_index, fBody, fsSeq, fsIf, fsRet, fsNext, fsDrop, fsAsg, fsNever, fsFor, fsOwn, fsPar2, fsPar3, fsPar_od, fsPar_do, fsPar_oo, fVar, fC, fUn, fOp, fChain, fTup, fLst, fCall, faD, faSt, flCons, flNil, fSl, foSome, foNone, fAnd, fOr, fNot, fIf, fOfN, fn1, fnLst, fnCat, fgN, fgTup, fgCons, fgNil, fiSeq, fiRange1, fiRange2, fiEnumA, fiZip, ftOr, ftAnd, ftNot, ftB, ftT, ftYes, truD_b, truD_i, truD_l, truD_t, truD_n, gIx_t0, gIx_t1, gIx_t2, gSl_t, gSl_l, gIsT, notDict, isT, isN, tyName, gLen_t, gLen_l, gTuple_l, gCmp, gAdd_ii, gAdd_ll, PD.gSub, gNeg, gMod, seqD, forD, wipeR, gEqA, gNeA, gEq_ii, gNe_ii, gEq_tt, gIn_ints, gIn_intsL, gNotIn_ints, gNotIn_intsL, fM0, fM1, fJoined, fJ, flStar, starD, fCall0, gIsTX, noInst_n, noInst_b, noInst_i, noInst_s, noInst_l, noInst_t, fFld, fMeth, fMake, faNil, fsFld, fLendO, fDisp, fpCons, fpNil, fDict0, fiAny, walkD, fiOver, dKeys, dVals, dPairs, fsOwnD, fsPut, fOwnIx, fPop, fsExt, fDc, compK, gInX, gNotInX, gIxX, fGet]
  refine ⟨by omega, comp_all tupI (fun r => .bool (decide ((m : Int) ∈ r))) R (fun r hr kt h' => ?_) ?_⟩
  · simp [and_assoc, Rho.set, dropOwn, ftLend, fLend, lendR, frz, ow, nList, -forall_exists_index, fBody, fsSeq, fsIf, fsRet, fsNext, fsDrop, fsAsg, fsNever, fsFor, fsOwn, fsPar2, fsPar3, fsPar_od, fsPar_do, fsPar_oo, fVar, fC, fUn, fOp, fChain, fTup, fLst, fCall, faD, faSt, flCons, flNil, fSl, foSome, foNone, fAnd, fOr, fNot, fIf, fOfN, fn1, fnLst, fnCat, fgN, fgTup, fgCons, fgNil, fiSeq, fiRange1, fiRange2, fiEnumA, fiZip, ftOr, ftAnd, ftNot, ftB, ftT, ftYes, truD_b, truD_i, truD_l, truD_t, truD_n, gIx_t0, gIx_t1, gIx_t2, gSl_t, gSl_l, gIsT, notDict, isT, isN, tyName, gLen_t, gLen_l, gTuple_l, gCmp, gAdd_ii, gAdd_ll, PD.gSub, gNeg, gMod, seqD, forD, wipeR, gEqA, gNeA, gEq_ii, gNe_ii, gEq_tt, gIn_ints, gIn_intsL, gNotIn_ints, gNotIn_intsL, fM0, fM1, fJoined, fJ, flStar, starD, fCall0, gIsTX, noInst_n, noInst_b, noInst_i, noInst_s, noInst_l, noInst_t, fFld, fMeth, fMake, faNil, fsFld, fLendO, fDisp, fpCons, fpNil, fDict0, fiAny, walkD, fiOver, dKeys, dVals, dPairs, fsOwnD, fsPut, fOwnIx, fPop, fsExt, fDc, compK, gInX, gNotInX, gIxX, fGet]
    first | exact h' _ rfl | exact ⟨_, gIn_ints r m, h' _ rfl⟩
  · refine ⟨.bool (R.any fun r => decide ((m : Int) ∈ r)), ?_, ?_⟩
    · rw [show R.map (fun r => PyData.bool (decide ((m : Int) ∈ r))) = (R.map fun r => decide ((m : Int) ∈ r)).map .bool by rw [List.map_map]; rfl, gAny_bs, List.any_map]
      rfl
    · cases e : R.any fun r => decide ((m : Int) ∈ r) with
      | false => exact .inl ⟨rfl, kept_8 hs h⟩
      | true =>
        refine .inr ⟨rfl, fsApp_i ?_⟩
        simp [and_assoc, Rho.set, dropOwn, ftLend, fLend, lendR, frz, ow, nList, -forall_exists_index, fBody, fsSeq, fsIf, fsRet, fsNext, fsDrop, fsAsg, fsNever, fsFor, fsOwn, fsPar2, fsPar3, fsPar_od, fsPar_do, fsPar_oo, fVar, fC, fUn, fOp, fChain, fTup, fLst, fCall, faD, faSt, flCons, flNil, fSl, foSome, foNone, fAnd, fOr, fNot, fIf, fOfN, fn1, fnLst, fnCat, fgN, fgTup, fgCons, fgNil, fiSeq, fiRange1, fiRange2, fiEnumA, fiZip, ftOr, ftAnd, ftNot, ftB, ftT, ftYes, truD_b, truD_i, truD_l, truD_t, truD_n, gIx_t0, gIx_t1, gIx_t2, gSl_t, gSl_l, gIsT, notDict, isT, isN, tyName, gLen_t, gLen_l, gTuple_l, gCmp, gAdd_ii, gAdd_ll, PD.gSub, gNeg, gMod, seqD, forD, wipeR, gEqA, gNeA, gEq_ii, gNe_ii, gEq_tt, gIn_ints, gIn_intsL, gNotIn_ints, gNotIn_intsL, fM0, fM1, fJoined, fJ, flStar, starD, fCall0, gIsTX, noInst_n, noInst_b, noInst_i, noInst_s, noInst_l, noInst_t, fFld, fMeth, fMake, faNil, fsFld, fLendO, fDisp, fpCons, fpNil, fDict0, fiAny, walkD, fiOver, dKeys, dVals, dPairs, fsOwnD, fsPut, fOwnIx, fPop, fsExt, fDc, compK, gInX, gNotInX, gIxX, fGet]
        refine ⟨_, gMulX_t hq.1 (by omega), by omega, kept_8 hs h⟩
theorem kept_5 {q : Int} {T : List (List Int)} {G : List Int} (w : WOK q T G) {n : Nat} {P : Post} (S : List Int) (h2 : S.length ≤ 6) (h3 : ∀ x ∈ S, GM.St T x) (pd : List (D × D)) (f : Int → Int) (hne : pd ≠ []) (hfl : (pd.all fun p => isFlatK p.1) = true) (hk : ∀ x, keyOk (.int x) pd = some (.num x)) (hat : ∀ x, (dAt pd (.num x)).getD (.int S.length) = .int (f x)) (h : ∀ d ρ', ρ'.n = n → P.rt d ρ') :
    c_kept_part_5 ⟨[.d (wishD q T G), .d (.tuple []), .d (.int q), .d (tupT T), .d (tupI G), .d (.list (G.map .int)), .d (.list (S.map .int)), .d (.dict pd), .no, .no, .no, .no, .no, .no], n⟩ P := by
  unfold c_kept_part_5
  simp [and_assoc, Rho.set, dropOwn, ftLend, fLend, lendR, frz, ow, nList, -forall_exists_index, fBody, fsSeq, fsIf, fsRet, fsNext, fsDrop, fsAsg, fsNever, fsFor, fsOwn, fsPar2, fsPar3, fsPar_od, fsPar_do, fsPar_oo, fVar, fC, fUn, fOp, fChain, fTup, fLst, fCall, faD, faSt, flCons, flNil, fSl, foSome, foNone, fAnd, fOr, fNot, fIf, fOfN, fn1, fnLst, fnCat, fgN, fgTup, fgCons, fgNil, fiSeq, fiRange1, fiRange2, fiEnumA, fiZip, ftOr, ftAnd, ftNot, ftB, ftT, ftYes, truD_b, truD_i, truD_l, truD_t, truD_n, gIx_t0, gIx_t1, gIx_t2, gSl_t, gSl_l, gIsT, notDict, isT, isN, tyName, gLen_t, gLen_l, gTuple_l, gCmp, gAdd_ii, gAdd_ll, PD.gSub, gNeg, gMod, seqD, forD, wipeR, gEqA, gNeA, gEq_ii, gNe_ii, gEq_tt, gIn_ints, gIn_intsL, gNotIn_ints, gNotIn_intsL, fM0, fM1, fJoined, fJ, flStar, starD, fCall0, gIsTX, noInst_n, noInst_b, noInst_i, noInst_s, noInst_l, noInst_t, fFld, fMeth, fMake, faNil, fsFld, fLendO, fDisp, fpCons, fpNil, fDict0, fiAny, walkD, fiOver, dKeys, dVals, dPairs, fsOwnD, fsPut, fOwnIx, fPop, fsExt, fDc, compK, gInX, gNotInX, gIxX, fGet]
  unfold c_kept_part_6
  simp [and_assoc, Rho.set, dropOwn, ftLend, fLend, lendR, frz, ow, nList, -forall_exists_index, fBody, fsSeq, fsIf, fsRet, fsNext, fsDrop, fsAsg, fsNever, fsFor, fsOwn, fsPar2, fsPar3, fsPar_od, fsPar_do, fsPar_oo, fVar, fC, fUn, fOp, fChain, fTup, fLst, fCall, faD, faSt, flCons, flNil, fSl, foSome, foNone, fAnd, fOr, fNot, fIf, fOfN, fn1, fnLst, fnCat, fgN, fgTup, fgCons, fgNil, fiSeq, fiRange1, fiRange2, fiEnumA, fiZip, ftOr, ftAnd, ftNot, ftB, ftT, ftYes, truD_b, truD_i, truD_l, truD_t, truD_n, gIx_t0, gIx_t1, gIx_t2, gSl_t, gSl_l, gIsT, notDict, isT, isN, tyName, gLen_t, gLen_l, gTuple_l, gCmp, gAdd_ii, gAdd_ll, PD.gSub, gNeg, gMod, seqD, forD, wipeR, gEqA, gNeA, gEq_ii, gNe_ii, gEq_tt, gIn_ints, gIn_intsL, gNotIn_ints, gNotIn_intsL, fM0, fM1, fJoined, fJ, flStar, starD, fCall0, gIsTX, noInst_n, noInst_b, noInst_i, noInst_s, noInst_l, noInst_t, fFld, fMeth, fMake, faNil, fsFld, fLendO, fDisp, fpCons, fpNil, fDict0, fiAny, walkD, fiOver, dKeys, dVals, dPairs, fsOwnD, fsPut, fOwnIx, fPop, fsExt, fDc, compK, gInX, gNotInX, gIxX, fGet]
  refine fnComp_i ?_
  simp [and_assoc, Rho.set, dropOwn, ftLend, fLend, lendR, frz, ow, nList, -forall_exists_index, fBody, fsSeq, fsIf, fsRet, fsNext, fsDrop, fsAsg, fsNever, fsFor, fsOwn, fsPar2, fsPar3, fsPar_od, fsPar_do, fsPar_oo, fVar, fC, fUn, fOp, fChain, fTup, fLst, fCall, faD, faSt, flCons, flNil, fSl, foSome, foNone, fAnd, fOr, fNot, fIf, fOfN, fn1, fnLst, fnCat, fgN, fgTup, fgCons, fgNil, fiSeq, fiRange1, fiRange2, fiEnumA, fiZip, ftOr, ftAnd, ftNot, ftB, ftT, ftYes, truD_b, truD_i, truD_l, truD_t, truD_n, gIx_t0, gIx_t1, gIx_t2, gSl_t, gSl_l, gIsT, notDict, isT, isN, tyName, gLen_t, gLen_l, gTuple_l, gCmp, gAdd_ii, gAdd_ll, PD.gSub, gNeg, gMod, seqD, forD, wipeR, gEqA, gNeA, gEq_ii, gNe_ii, gEq_tt, gIn_ints, gIn_intsL, gNotIn_ints, gNotIn_intsL, fM0, fM1, fJoined, fJ, flStar, starD, fCall0, gIsTX, noInst_n, noInst_b, noInst_i, noInst_s, noInst_l, noInst_t, fFld, fMeth, fMake, faNil, fsFld, fLendO, fDisp, fpCons, fpNil, fDict0, fiAny, walkD, fiOver, dKeys, dVals, dPairs, fsOwnD, fsPut, fOwnIx, fPop, fsExt, fDc, compK, gInX, gNotInX, gIxX, fGet]
  refine ⟨by omega, comp_all PyData.int (fun s => tupI ((T.getD s.toNat []).map f)) S (fun s hs kt h' => ?_) ?_⟩
  · have hst := h3 s hs
    obtain ⟨i, rfl⟩ := Int.eq_ofNat_of_zero_le hst.1
    have hi : i < T.length := by have := hst.2; omega
    have er : T.getD (i : Int).toNat [] = T[i] := by simp [List.getD, hi]
    have hr := w.row T[i] (List.getElem_mem hi)
    have q4 := w.q4
    have ex := ix_T hst
    rw [er] at ex h'
    simp [and_assoc, Rho.set, dropOwn, ftLend, fLend, lendR, frz, ow, nList, -forall_exists_index, fBody, fsSeq, fsIf, fsRet, fsNext, fsDrop, fsAsg, fsNever, fsFor, fsOwn, fsPar2, fsPar3, fsPar_od, fsPar_do, fsPar_oo, fVar, fC, fUn, fOp, fChain, fTup, fLst, fCall, faD, faSt, flCons, flNil, fSl, foSome, foNone, fAnd, fOr, fNot, fIf, fOfN, fn1, fnLst, fnCat, fgN, fgTup, fgCons, fgNil, fiSeq, fiRange1, fiRange2, fiEnumA, fiZip, ftOr, ftAnd, ftNot, ftB, ftT, ftYes, truD_b, truD_i, truD_l, truD_t, truD_n, gIx_t0, gIx_t1, gIx_t2, gSl_t, gSl_l, gIsT, notDict, isT, isN, tyName, gLen_t, gLen_l, gTuple_l, gCmp, gAdd_ii, gAdd_ll, PD.gSub, gNeg, gMod, seqD, forD, wipeR, gEqA, gNeA, gEq_ii, gNe_ii, gEq_tt, gIn_ints, gIn_intsL, gNotIn_ints, gNotIn_intsL, fM0, fM1, fJoined, fJ, flStar, starD, fCall0, gIsTX, noInst_n, noInst_b, noInst_i, noInst_s, noInst_l, noInst_t, fFld, fMeth, fMake, faNil, fsFld, fLendO, fDisp, fpCons, fpNil, fDict0, fiAny, walkD, fiOver, dKeys, dVals, dPairs, fsOwnD, fsPut, fOwnIx, fPop, fsExt, fDc, compK, gInX, gNotInX, gIxX, fGet]
    refine fnComp_i ?_
    simp [and_assoc, Rho.set, dropOwn, ftLend, fLend, lendR, frz, ow, nList, -forall_exists_index, fBody, fsSeq, fsIf, fsRet, fsNext, fsDrop, fsAsg, fsNever, fsFor, fsOwn, fsPar2, fsPar3, fsPar_od, fsPar_do, fsPar_oo, fVar, fC, fUn, fOp, fChain, fTup, fLst, fCall, faD, faSt, flCons, flNil, fSl, foSome, foNone, fAnd, fOr, fNot, fIf, fOfN, fn1, fnLst, fnCat, fgN, fgTup, fgCons, fgNil, fiSeq, fiRange1, fiRange2, fiEnumA, fiZip, ftOr, ftAnd, ftNot, ftB, ftT, ftYes, truD_b, truD_i, truD_l, truD_t, truD_n, gIx_t0, gIx_t1, gIx_t2, gSl_t, gSl_l, gIsT, notDict, isT, isN, tyName, gLen_t, gLen_l, gTuple_l, gCmp, gAdd_ii, gAdd_ll, PD.gSub, gNeg, gMod, seqD, forD, wipeR, gEqA, gNeA, gEq_ii, gNe_ii, gEq_tt, gIn_ints, gIn_intsL, gNotIn_ints, gNotIn_intsL, fM0, fM1, fJoined, fJ, flStar, starD, fCall0, gIsTX, noInst_n, noInst_b, noInst_i, noInst_s, noInst_l, noInst_t, fFld, fMeth, fMake, faNil, fsFld, fLendO, fDisp, fpCons, fpNil, fDict0, fiAny, walkD, fiOver, dKeys, dVals, dPairs, fsOwnD, fsPut, fOwnIx, fPop, fsExt, fDc, compK, gInX, gNotInX, gIxX, fGet]
    refine ⟨tupI T[i], ex, ?_⟩
    simp [and_assoc, Rho.set, dropOwn, ftLend, fLend, lendR, frz, ow, nList, -forall_exists_index, fBody, fsSeq, fsIf, fsRet, fsNext, fsDrop, fsAsg, fsNever, fsFor, fsOwn, fsPar2, fsPar3, fsPar_od, fsPar_do, fsPar_oo, fVar, fC, fUn, fOp, fChain, fTup, fLst, fCall, faD, faSt, flCons, flNil, fSl, foSome, foNone, fAnd, fOr, fNot, fIf, fOfN, fn1, fnLst, fnCat, fgN, fgTup, fgCons, fgNil, fiSeq, fiRange1, fiRange2, fiEnumA, fiZip, ftOr, ftAnd, ftNot, ftB, ftT, ftYes, truD_b, truD_i, truD_l, truD_t, truD_n, gIx_t0, gIx_t1, gIx_t2, gSl_t, gSl_l, gIsT, notDict, isT, isN, tyName, gLen_t, gLen_l, gTuple_l, gCmp, gAdd_ii, gAdd_ll, PD.gSub, gNeg, gMod, seqD, forD, wipeR, gEqA, gNeA, gEq_ii, gNe_ii, gEq_tt, gIn_ints, gIn_intsL, gNotIn_ints, gNotIn_intsL, fM0, fM1, fJoined, fJ, flStar, starD, fCall0, gIsTX, noInst_n, noInst_b, noInst_i, noInst_s, noInst_l, noInst_t, fFld, fMeth, fMake, faNil, fsFld, fLendO, fDisp, fpCons, fpNil, fDict0, fiAny, walkD, fiOver, dKeys, dVals, dPairs, fsOwnD, fsPut, fOwnIx, fPop, fsExt, fDc, compK, gInX, gNotInX, gIxX, fGet]
    refine ⟨by omega, comp_all PyData.int (fun b => .int (f b)) T[i] (fun b hb kt' h'' => ?_) ?_⟩
    · simp [and_assoc, Rho.set, dropOwn, ftLend, fLend, lendR, frz, ow, nList, -forall_exists_index, fBody, fsSeq, fsIf, fsRet, fsNext, fsDrop, fsAsg, fsNever, fsFor, fsOwn, fsPar2, fsPar3, fsPar_od, fsPar_do, fsPar_oo, fVar, fC, fUn, fOp, fChain, fTup, fLst, fCall, faD, faSt, flCons, flNil, fSl, foSome, foNone, fAnd, fOr, fNot, fIf, fOfN, fn1, fnLst, fnCat, fgN, fgTup, fgCons, fgNil, fiSeq, fiRange1, fiRange2, fiEnumA, fiZip, ftOr, ftAnd, ftNot, ftB, ftT, ftYes, truD_b, truD_i, truD_l, truD_t, truD_n, gIx_t0, gIx_t1, gIx_t2, gSl_t, gSl_l, gIsT, notDict, isT, isN, tyName, gLen_t, gLen_l, gTuple_l, gCmp, gAdd_ii, gAdd_ll, PD.gSub, gNeg, gMod, seqD, forD, wipeR, gEqA, gNeA, gEq_ii, gNe_ii, gEq_tt, gIn_ints, gIn_intsL, gNotIn_ints, gNotIn_intsL, fM0, fM1, fJoined, fJ, flStar, starD, fCall0, gIsTX, noInst_n, noInst_b, noInst_i, noInst_s, noInst_l, noInst_t, fFld, fMeth, fMake, faNil, fsFld, fLendO, fDisp, fpCons, fpNil, fDict0, fiAny, walkD, fiOver, dKeys, dVals, dPairs, fsOwnD, fsPut, fOwnIx, fPop, fsExt, fDc, compK, gInX, gNotInX, gIxX, fGet]
      refine ⟨hne, .inr fun a c hm => List.all_eq_true.mp hfl (a, c) hm, .num b, hk b, ?_⟩
      rw [hat]
      exact h'' _ rfl
    · have e2 : tupI (T[i].map f) = .tuple (T[i].map fun b => .int (f b)) := by
        show PyData.tuple ((T[i].map f).map .int) = _
        rw [List.map_map]
        rfl
      rw [← e2]
      exact h' _ rfl
  · have e : S.map (fun s => tupI ((T.getD s.toNat []).map f)) = (S.map fun s => (T.getD s.toNat []).map f).map tupI := by rw [List.map_map]; rfl
    rw [e]
    exact kept_7 ⟨w.q1, w.q4⟩ h2 (by simp; omega) h
theorem kept_4 {q : Int} {T : List (List Int)} {G : List Int} (w : WOK q T G) {n : Nat} {P : Post} (S : List Int) (h1 : S ≠ []) (h2 : S.length ≤ 6) (hn : S.Nodup) (h3 : ∀ x ∈ S, GM.St T x) (h : ∀ d ρ', ρ'.n = n → P.rt d ρ') :
    c_kept_part_4 ⟨[.d (wishD q T G), .d (.tuple []), .d (.int q), .d (tupT T), .d (tupI G), .d (.list (G.map .int)), .d (.list (S.map .int)), .no, .no, .no, .no, .no, .no, .no], n⟩ P := by
  unfold c_kept_part_4
  simp [and_assoc, Rho.set, dropOwn, ftLend, fLend, lendR, frz, ow, nList, -forall_exists_index, fBody, fsSeq, fsIf, fsRet, fsNext, fsDrop, fsAsg, fsNever, fsFor, fsOwn, fsPar2, fsPar3, fsPar_od, fsPar_do, fsPar_oo, fVar, fC, fUn, fOp, fChain, fTup, fLst, fCall, faD, faSt, flCons, flNil, fSl, foSome, foNone, fAnd, fOr, fNot, fIf, fOfN, fn1, fnLst, fnCat, fgN, fgTup, fgCons, fgNil, fiSeq, fiRange1, fiRange2, fiEnumA, fiZip, ftOr, ftAnd, ftNot, ftB, ftT, ftYes, truD_b, truD_i, truD_l, truD_t, truD_n, gIx_t0, gIx_t1, gIx_t2, gSl_t, gSl_l, gIsT, notDict, isT, isN, tyName, gLen_t, gLen_l, gTuple_l, gCmp, gAdd_ii, gAdd_ll, PD.gSub, gNeg, gMod, seqD, forD, wipeR, gEqA, gNeA, gEq_ii, gNe_ii, gEq_tt, gIn_ints, gIn_intsL, gNotIn_ints, gNotIn_intsL, fM0, fM1, fJoined, fJ, flStar, starD, fCall0, gIsTX, noInst_n, noInst_b, noInst_i, noInst_s, noInst_l, noInst_t, fFld, fMeth, fMake, faNil, fsFld, fLendO, fDisp, fpCons, fpNil, fDict0, fiAny, walkD, fiOver, dKeys, dVals, dPairs, fsOwnD, fsPut, fOwnIx, fPop, fsExt, fDc, compK, gInX, gNotInX, gIxX, fGet]
  refine ⟨S.zipIdx.map fun p => PyData.tuple [.int (p.2 : Nat), .int p.1], ?_, by simp; omega, compI (fun p : Int × Nat => PyData.tuple [.int (p.2 : Nat), .int p.1]) (fun p => p.1) (fun p => (p.2 : Int)) S.zipIdx [] (fun p hp kt kf c1 => ?_) ?_ fun l hl => ?_⟩
  · show some (((S.map PyData.int).zipIdx).map fun p => PyData.tuple [.int (p.2 : Nat), p.1]) = _
    rw [List.zipIdx_map, List.map_map]
    rfl
  · simp [and_assoc, Rho.set, dropOwn, ftLend, fLend, lendR, frz, ow, nList, -forall_exists_index, fBody, fsSeq, fsIf, fsRet, fsNext, fsDrop, fsAsg, fsNever, fsFor, fsOwn, fsPar2, fsPar3, fsPar_od, fsPar_do, fsPar_oo, fVar, fC, fUn, fOp, fChain, fTup, fLst, fCall, faD, faSt, flCons, flNil, fSl, foSome, foNone, fAnd, fOr, fNot, fIf, fOfN, fn1, fnLst, fnCat, fgN, fgTup, fgCons, fgNil, fiSeq, fiRange1, fiRange2, fiEnumA, fiZip, ftOr, ftAnd, ftNot, ftB, ftT, ftYes, truD_b, truD_i, truD_l, truD_t, truD_n, gIx_t0, gIx_t1, gIx_t2, gSl_t, gSl_l, gIsT, notDict, isT, isN, tyName, gLen_t, gLen_l, gTuple_l, gCmp, gAdd_ii, gAdd_ll, PD.gSub, gNeg, gMod, seqD, forD, wipeR, gEqA, gNeA, gEq_ii, gNe_ii, gEq_tt, gIn_ints, gIn_intsL, gNotIn_ints, gNotIn_intsL, fM0, fM1, fJoined, fJ, flStar, starD, fCall0, gIsTX, noInst_n, noInst_b, noInst_i, noInst_s, noInst_l, noInst_t, fFld, fMeth, fMake, faNil, fsFld, fLendO, fDisp, fpCons, fpNil, fDict0, fiAny, walkD, fiOver, dKeys, dVals, dPairs, fsOwnD, fsPut, fOwnIx, fPop, fsExt, fDc, compK, gInX, gNotInX, gIxX, fGet]
    exact c1 _ rfl
  · rw [List.map_nil, List.nil_append, List.zipIdx_map_fst]
    exact hn
  · exact kept_5 w S h2 h3 _ (fun x => (l.lookup x).getD S.length) (fun e => hl (.inr fun e => h1 (List.zipIdx_eq_nil_iff.mp e)) (List.map_eq_nil_iff.mp (List.map_eq_nil_iff.mp e))) (dI_flat _) (fun x => dI_key x _) (fun x => lookI l x _ _ rfl) h
theorem ok_kept_part : ∀ ρ k, W_kept_part ρ k → fBody 14 w_kept_part ρ k := by
  rintro ⟨sl, n⟩ k ⟨q, T, G, e, w, z⟩
  simp only at e
  subst e
  have t1 := w.t1
  have t6 := w.t6
  have g6 := w.glen
  simp [w_kept_part]
  simp [and_assoc, Rho.set, dropOwn, ftLend, fLend, lendR, frz, ow, nList, -forall_exists_index, fBody, fsSeq, fsIf, fsRet, fsNext, fsDrop, fsAsg, fsNever, fsFor, fsOwn, fsPar2, fsPar3, fsPar_od, fsPar_do, fsPar_oo, fVar, fC, fUn, fOp, fChain, fTup, fLst, fCall, faD, faSt, flCons, flNil, fSl, foSome, foNone, fAnd, fOr, fNot, fIf, fOfN, fn1, fnLst, fnCat, fgN, fgTup, fgCons, fgNil, fiSeq, fiRange1, fiRange2, fiEnumA, fiZip, ftOr, ftAnd, ftNot, ftB, ftT, ftYes, truD_b, truD_i, truD_l, truD_t, truD_n, gIx_t0, gIx_t1, gIx_t2, gSl_t, gSl_l, gIsT, notDict, isT, isN, tyName, gLen_t, gLen_l, gTuple_l, gCmp, gAdd_ii, gAdd_ll, PD.gSub, gNeg, gMod, seqD, forD, wipeR, gEqA, gNeA, gEq_ii, gNe_ii, gEq_tt, gIn_ints, gIn_intsL, gNotIn_ints, gNotIn_intsL, fM0, fM1, fJoined, fJ, flStar, starD, fCall0, gIsTX, noInst_n, noInst_b, noInst_i, noInst_s, noInst_l, noInst_t, fFld, fMeth, fMake, faNil, fsFld, fLendO, fDisp, fpCons, fpNil, fDict0, fiAny, walkD, fiOver, dKeys, dVals, dPairs, fsOwnD, fsPut, fOwnIx, fPop, fsExt, fDc, compK, gInX, gNotInX, gIxX, fGet]
  refine ⟨q, T, G, rfl, w, _, rfl, rfl, _, _, rfl, _, _, rfl, _, _, rfl, rfl, ?_⟩
  unfold c_kept_part_1
  simp [and_assoc, Rho.set, dropOwn, ftLend, fLend, lendR, frz, ow, nList, -forall_exists_index, fBody, fsSeq, fsIf, fsRet, fsNext, fsDrop, fsAsg, fsNever, fsFor, fsOwn, fsPar2, fsPar3, fsPar_od, fsPar_do, fsPar_oo, fVar, fC, fUn, fOp, fChain, fTup, fLst, fCall, faD, faSt, flCons, flNil, fSl, foSome, foNone, fAnd, fOr, fNot, fIf, fOfN, fn1, fnLst, fnCat, fgN, fgTup, fgCons, fgNil, fiSeq, fiRange1, fiRange2, fiEnumA, fiZip, ftOr, ftAnd, ftNot, ftB, ftT, ftYes, truD_b, truD_i, truD_l, truD_t, truD_n, gIx_t0, gIx_t1, gIx_t2, gSl_t, gSl_l, gIsT, notDict, isT, isN, tyName, gLen_t, gLen_l, gTuple_l, gCmp, gAdd_ii, gAdd_ll, PD.gSub, gNeg, gMod, seqD, forD, wipeR, gEqA, gNeA, gEq_ii, gNe_ii, gEq_tt, gIn_ints, gIn_intsL, gNotIn_ints, gNotIn_intsL, fM0, fM1, fJoined, fJ, flStar, starD, fCall0, gIsTX, noInst_n, noInst_b, noInst_i, noInst_s, noInst_l, noInst_t, fFld, fMeth, fMake, faNil, fsFld, fLendO, fDisp, fpCons, fpNil, fDict0, fiAny, walkD, fiOver, dKeys, dVals, dPairs, fsOwnD, fsPut, fOwnIx, fPop, fsExt, fDc, compK, gInX, gNotInX, gIxX, fGet]
  refine ⟨q, T, G, .tuple [], rfl, ⟨⟨by decide, fun x hx => absurd hx List.not_mem_nil⟩, rfl⟩, q, T, G, rfl, w, ?_⟩
  unfold c_kept_part_2
  simp [and_assoc, Rho.set, dropOwn, ftLend, fLend, lendR, frz, ow, nList, -forall_exists_index, fBody, fsSeq, fsIf, fsRet, fsNext, fsDrop, fsAsg, fsNever, fsFor, fsOwn, fsPar2, fsPar3, fsPar_od, fsPar_do, fsPar_oo, fVar, fC, fUn, fOp, fChain, fTup, fLst, fCall, faD, faSt, flCons, flNil, fSl, foSome, foNone, fAnd, fOr, fNot, fIf, fOfN, fn1, fnLst, fnCat, fgN, fgTup, fgCons, fgNil, fiSeq, fiRange1, fiRange2, fiEnumA, fiZip, ftOr, ftAnd, ftNot, ftB, ftT, ftYes, truD_b, truD_i, truD_l, truD_t, truD_n, gIx_t0, gIx_t1, gIx_t2, gSl_t, gSl_l, gIsT, notDict, isT, isN, tyName, gLen_t, gLen_l, gTuple_l, gCmp, gAdd_ii, gAdd_ll, PD.gSub, gNeg, gMod, seqD, forD, wipeR, gEqA, gNeA, gEq_ii, gNe_ii, gEq_tt, gIn_ints, gIn_intsL, gNotIn_ints, gNotIn_intsL, fM0, fM1, fJoined, fJ, flStar, starD, fCall0, gIsTX, noInst_n, noInst_b, noInst_i, noInst_s, noInst_l, noInst_t, fFld, fMeth, fMake, faNil, fsFld, fLendO, fDisp, fpCons, fpNil, fDict0, fiAny, walkD, fiOver, dKeys, dVals, dPairs, fsOwnD, fsPut, fOwnIx, fPop, fsExt, fDc, compK, gInX, gNotInX, gIxX, fGet]
  refine .inl ⟨w.g0, ?_⟩
  unfold c_kept_part_3
  simp [and_assoc, Rho.set, dropOwn, ftLend, fLend, lendR, frz, ow, nList, -forall_exists_index, fBody, fsSeq, fsIf, fsRet, fsNext, fsDrop, fsAsg, fsNever, fsFor, fsOwn, fsPar2, fsPar3, fsPar_od, fsPar_do, fsPar_oo, fVar, fC, fUn, fOp, fChain, fTup, fLst, fCall, faD, faSt, flCons, flNil, fSl, foSome, foNone, fAnd, fOr, fNot, fIf, fOfN, fn1, fnLst, fnCat, fgN, fgTup, fgCons, fgNil, fiSeq, fiRange1, fiRange2, fiEnumA, fiZip, ftOr, ftAnd, ftNot, ftB, ftT, ftYes, truD_b, truD_i, truD_l, truD_t, truD_n, gIx_t0, gIx_t1, gIx_t2, gSl_t, gSl_l, gIsT, notDict, isT, isN, tyName, gLen_t, gLen_l, gTuple_l, gCmp, gAdd_ii, gAdd_ll, PD.gSub, gNeg, gMod, seqD, forD, wipeR, gEqA, gNeA, gEq_ii, gNe_ii, gEq_tt, gIn_ints, gIn_intsL, gNotIn_ints, gNotIn_intsL, fM0, fM1, fJoined, fJ, flStar, starD, fCall0, gIsTX, noInst_n, noInst_b, noInst_i, noInst_s, noInst_l, noInst_t, fFld, fMeth, fMake, faNil, fsFld, fLendO, fDisp, fpCons, fpNil, fDict0, fiAny, walkD, fiOver, dKeys, dVals, dPairs, fsOwnD, fsPut, fOwnIx, fPop, fsExt, fDc, compK, gInX, gNotInX, gIxX, fGet]
  exact ⟨q, T, G, rfl, w, fun S h1 h2 h4 h3 => kept_4 w S h1 h2 h4 h3 fun d ρ' e => by
    have e : ρ'.n = n := e
    show k _ ⟨_, ρ'.n⟩
    rw [e]
    exact z d⟩
abbrev W_lam0 := W_is_part
abbrev mW_lam0 := mW_is_part
abbrev U_lam0 := U_need_both
abbrev mU_lam0 := mU_need_both
abbrev W_lam1 := W_are_alike
abbrev mW_lam1 := mW_are_alike
abbrev U_lam1 := U_need_both
abbrev mU_lam1 := mU_need_both
abbrev W_lam2 := W_parting
abbrev mW_lam2 := mW_parting
abbrev U_lam2 := U_need_both
abbrev mU_lam2 := mU_need_both
abbrev W_lam3 := W_kept_part
abbrev mW_lam3 := mW_kept_part
abbrev U_lam3 := U_kept_part
abbrev mU_lam3 := mU_kept_part
abbrev W_lam6 := W_need
abbrev mW_lam6 := mW_need
abbrev U_lam6 := U_need_wish
abbrev mU_lam6 := mU_need_wish
abbrev W_lam4 := W_least_hold
abbrev mW_lam4 := mW_least_hold
def U_lam4 (C C' : Addr) : FX := fun ρ k => ∃ d l e, ρ.sl = [.d d, .d l, .d e] ∧ ((okW d ∧ ∃ p, wishErr d = some p ∧ bw C p k ρ) ∨ ∃ q T G, d = wishD q T G ∧ WOK q T G ∧ noInst e = true ∧ (intB e 0 2 = false ∨ intB e 0 2 = true ∧ okD l ∧ ascB l q = false) ∧ k (.ref C') [] ρ)
theorem mU_lam4 (C C' : Addr) (ρ : Rho) (k k' : XC) (hM : ∀ c fl ρ', k c fl ρ' → k' c fl ρ') (z : U_lam4 C C' ρ k) : U_lam4 C C' ρ k' := by
  obtain ⟨d, l, e, e1, ⟨e2, p, e3, e4⟩ | ⟨q, T, G, e2, e3, e4, e5, e6⟩⟩ := z
  · exact ⟨d, l, e, e1, .inl ⟨e2, p, e3, hM _ _ _ e4⟩⟩
  · exact ⟨d, l, e, e1, .inr ⟨q, T, G, e2, e3, e4, e5, hM _ _ _ e6⟩⟩
abbrev W_lam5 := W_least_hold
abbrev mW_lam5 := mW_least_hold
def U_lam5 (C C' : Addr) : FX := fun ρ k => ∃ d l e, ρ.sl = [.d d, .d l, .d e] ∧ ((okW d ∧ ∃ p, wishErr d = some p ∧ bw C p k ρ) ∨ ∃ q T G, d = wishD q T G ∧ WOK q T G ∧ noInst e = true ∧ (intB e 0 3 = false ∨ intB e 0 3 = true ∧ okD l ∧ ascB l q = false) ∧ k (.ref C') [] ρ)
theorem mU_lam5 (C C' : Addr) (ρ : Rho) (k k' : XC) (hM : ∀ c fl ρ', k c fl ρ' → k' c fl ρ') (z : U_lam5 C C' ρ k) : U_lam5 C C' ρ k' := by
  obtain ⟨d, l, e, e1, ⟨e2, p, e3, e4⟩ | ⟨q, T, G, e2, e3, e4, e5, e6⟩⟩ := z
  · exact ⟨d, l, e, e1, .inl ⟨e2, p, e3, hM _ _ _ e4⟩⟩
  · exact ⟨d, l, e, e1, .inr ⟨q, T, G, e2, e3, e4, e5, hM _ _ _ e6⟩⟩
abbrev W_lam7 := W_least_hold
abbrev mW_lam7 := mW_least_hold
def U_lam7 (C C' : Addr) : FX := fun ρ k => ∃ q T G, ρ.sl = [.d (wishD q T G)] ∧ WOK q T G ∧ k (.ref C') [] ρ
theorem mU_lam7 (C C' : Addr) (ρ : Rho) (k k' : XC) (hM : ∀ c fl ρ', k c fl ρ' → k' c fl ρ') (z : U_lam7 C C' ρ k) : U_lam7 C C' ρ k' := by
  obtain ⟨q, T, G, e1, e2, e3⟩ := z
  exact ⟨q, T, G, e1, e2, hM _ _ _ e3⟩
def callsL (a b c : D) : List D := [cloD [59, 100, 0, 0] [a, b], cloD [59, 101, 0, 1] [a, b], cloD [59, 102, 0, 1] [a, b], cloD [59, 103, 0, 1] [a, c], cloD [59, 104, 0, 1] [a, c, b], cloD [59, 105, 0, 1] [a, c, b]]
def W_law_calls : FE := fun ρ k => ∃ a b c, ρ.sl = [.d a, .d b, .d c] ∧ k (.list (callsL a b c)) ρ
theorem mW_law_calls (ρ : Rho) (k k' : KD) (hM : ∀ d ρ', k d ρ' → k' d ρ') (z : W_law_calls ρ k) : W_law_calls ρ k' := by
  obtain ⟨a, b, c, e1, e2⟩ := z
  exact ⟨a, b, c, e1, hM _ _ e2⟩
abbrev s_law_calls : Stmt := top 59
theorem sc_law_calls : FnScope ["want", "one", "two", "found"] ["want", "one", "two"] (defScope s_law_calls) := ⟨rfl, rfl, rfl, by decide +kernel, rfl, by decide +kernel, by decide +kernel⟩
abbrev e_lam0 : Expr := lamE PySem.Challenge.pw_guardkeeps_k09_needs_and_parts_refused [59, 100, 0, 0]
theorem hL_lam0 {P : Program} (pP : P = PySem.Challenge.pw_guardkeeps_k09_needs_and_parts_refused) : lamAt P [59, 100, 0, 0] = some (.Lambda (eArgs e_lam0) (eBody e_lam0) (eScope e_lam0) (ePos e_lam0)) := by subst pP; rfl
theorem lk_lam0 : ∀ y ∈ (eScope e_lam0).names, y.2 = .free → (defScope s_law_calls).names.lookup y.1 = some .cell ∨ (defScope s_law_calls).names.lookup y.1 = some .free := by decide +kernel
theorem js_lam0 : ([0, 1] : List Nat).map (fun j => (["want", "one", "two", "found"] : List Str)[j]?) = (frees (eScope e_lam0)).map some := by decide +kernel
theorem nd_lam0 : (frees (eScope e_lam0)).Nodup := by decide +kernel
abbrev e_lam1 : Expr := lamE PySem.Challenge.pw_guardkeeps_k09_needs_and_parts_refused [59, 101, 0, 1]
theorem hL_lam1 {P : Program} (pP : P = PySem.Challenge.pw_guardkeeps_k09_needs_and_parts_refused) : lamAt P [59, 101, 0, 1] = some (.Lambda (eArgs e_lam1) (eBody e_lam1) (eScope e_lam1) (ePos e_lam1)) := by subst pP; rfl
theorem lk_lam1 : ∀ y ∈ (eScope e_lam1).names, y.2 = .free → (defScope s_law_calls).names.lookup y.1 = some .cell ∨ (defScope s_law_calls).names.lookup y.1 = some .free := by decide +kernel
theorem js_lam1 : ([0, 1] : List Nat).map (fun j => (["want", "one", "two", "found"] : List Str)[j]?) = (frees (eScope e_lam1)).map some := by decide +kernel
theorem nd_lam1 : (frees (eScope e_lam1)).Nodup := by decide +kernel
abbrev e_lam2 : Expr := lamE PySem.Challenge.pw_guardkeeps_k09_needs_and_parts_refused [59, 102, 0, 1]
theorem hL_lam2 {P : Program} (pP : P = PySem.Challenge.pw_guardkeeps_k09_needs_and_parts_refused) : lamAt P [59, 102, 0, 1] = some (.Lambda (eArgs e_lam2) (eBody e_lam2) (eScope e_lam2) (ePos e_lam2)) := by subst pP; rfl
theorem lk_lam2 : ∀ y ∈ (eScope e_lam2).names, y.2 = .free → (defScope s_law_calls).names.lookup y.1 = some .cell ∨ (defScope s_law_calls).names.lookup y.1 = some .free := by decide +kernel
theorem js_lam2 : ([0, 1] : List Nat).map (fun j => (["want", "one", "two", "found"] : List Str)[j]?) = (frees (eScope e_lam2)).map some := by decide +kernel
theorem nd_lam2 : (frees (eScope e_lam2)).Nodup := by decide +kernel
abbrev e_lam3 : Expr := lamE PySem.Challenge.pw_guardkeeps_k09_needs_and_parts_refused [59, 103, 0, 1]
theorem hL_lam3 {P : Program} (pP : P = PySem.Challenge.pw_guardkeeps_k09_needs_and_parts_refused) : lamAt P [59, 103, 0, 1] = some (.Lambda (eArgs e_lam3) (eBody e_lam3) (eScope e_lam3) (ePos e_lam3)) := by subst pP; rfl
theorem lk_lam3 : ∀ y ∈ (eScope e_lam3).names, y.2 = .free → (defScope s_law_calls).names.lookup y.1 = some .cell ∨ (defScope s_law_calls).names.lookup y.1 = some .free := by decide +kernel
theorem js_lam3 : ([0, 2] : List Nat).map (fun j => (["want", "one", "two", "found"] : List Str)[j]?) = (frees (eScope e_lam3)).map some := by decide +kernel
theorem nd_lam3 : (frees (eScope e_lam3)).Nodup := by decide +kernel
abbrev e_lam4 : Expr := lamE PySem.Challenge.pw_guardkeeps_k09_needs_and_parts_refused [59, 104, 0, 1]
theorem hL_lam4 {P : Program} (pP : P = PySem.Challenge.pw_guardkeeps_k09_needs_and_parts_refused) : lamAt P [59, 104, 0, 1] = some (.Lambda (eArgs e_lam4) (eBody e_lam4) (eScope e_lam4) (ePos e_lam4)) := by subst pP; rfl
theorem lk_lam4 : ∀ y ∈ (eScope e_lam4).names, y.2 = .free → (defScope s_law_calls).names.lookup y.1 = some .cell ∨ (defScope s_law_calls).names.lookup y.1 = some .free := by decide +kernel
theorem js_lam4 : ([0, 2, 1] : List Nat).map (fun j => (["want", "one", "two", "found"] : List Str)[j]?) = (frees (eScope e_lam4)).map some := by decide +kernel
theorem nd_lam4 : (frees (eScope e_lam4)).Nodup := by decide +kernel
abbrev e_lam5 : Expr := lamE PySem.Challenge.pw_guardkeeps_k09_needs_and_parts_refused [59, 105, 0, 1]
theorem hL_lam5 {P : Program} (pP : P = PySem.Challenge.pw_guardkeeps_k09_needs_and_parts_refused) : lamAt P [59, 105, 0, 1] = some (.Lambda (eArgs e_lam5) (eBody e_lam5) (eScope e_lam5) (ePos e_lam5)) := by subst pP; rfl
theorem lk_lam5 : ∀ y ∈ (eScope e_lam5).names, y.2 = .free → (defScope s_law_calls).names.lookup y.1 = some .cell ∨ (defScope s_law_calls).names.lookup y.1 = some .free := by decide +kernel
theorem js_lam5 : ([0, 2, 1] : List Nat).map (fun j => (["want", "one", "two", "found"] : List Str)[j]?) = (frees (eScope e_lam5)).map some := by decide +kernel
theorem nd_lam5 : (frees (eScope e_lam5)).Nodup := by decide +kernel
def w_law_calls : FE := fLams 4 [⟨[59, 100, 0, 0], eScope e_lam0, [0, 1]⟩, ⟨[59, 101, 0, 1], eScope e_lam1, [0, 1]⟩, ⟨[59, 102, 0, 1], eScope e_lam2, [0, 1]⟩, ⟨[59, 103, 0, 1], eScope e_lam3, [0, 2]⟩, ⟨[59, 104, 0, 1], eScope e_lam4, [0, 2, 1]⟩, ⟨[59, 105, 0, 1], eScope e_lam5, [0, 2, 1]⟩]
theorem li_law_calls : ∀ l ∈ ([⟨[59, 100, 0, 0], eScope e_lam0, [0, 1]⟩, ⟨[59, 101, 0, 1], eScope e_lam1, [0, 1]⟩, ⟨[59, 102, 0, 1], eScope e_lam2, [0, 1]⟩, ⟨[59, 103, 0, 1], eScope e_lam3, [0, 2]⟩, ⟨[59, 104, 0, 1], eScope e_lam4, [0, 2, 1]⟩, ⟨[59, 105, 0, 1], eScope e_lam5, [0, 2, 1]⟩] : List LamI), l.Ok 59 ["want", "one", "two", "found"] (defScope s_law_calls) := by
  refine List.forall_mem_cons.mpr ⟨⟨rfl, lk_lam0, js_lam0, nd_lam0⟩, List.forall_mem_cons.mpr ⟨⟨rfl, lk_lam1, js_lam1, nd_lam1⟩, List.forall_mem_cons.mpr ⟨⟨rfl, lk_lam2, js_lam2, nd_lam2⟩, List.forall_mem_cons.mpr ⟨⟨rfl, lk_lam3, js_lam3, nd_lam3⟩, List.forall_mem_cons.mpr ⟨⟨rfl, lk_lam4, js_lam4, nd_lam4⟩, List.forall_mem_cons.mpr ⟨⟨rfl, lk_lam5, js_lam5, nd_lam5⟩, fun _ h => nomatch h⟩⟩⟩⟩⟩⟩
theorem raw_law_calls {f : Addr} {fd : FuncData} (pP : P = PySem.Challenge.pw_guardkeeps_k09_needs_and_parts_refused) (F : Fun K "_law_calls" "_law_calls" s_law_calls f fd) (T : Txt mg) (tb : MkTab (MM TT) mg base fd) : FnG P w K mg base (L2.CX P w) (9) f fd ["want", "one", "two"] (spD ⟨K, w, P⟩ (MM TT) 3 w_law_calls) := by
  obtain ⟨cT, PT, ec, TB, hm⟩ := tb
  have nd := sc_law_calls.nd
  refine fnLams (κ := 59) (i := 3) F sc_law_calls li_law_calls (by decide) (by decide +kernel) (by decide) fun X A outer s H E eX => ?_
  subst eX
  refine ⟨_, [(_, ⟨[59, 101, 0, 1], eScope e_lam1, [0, 1]⟩), (_, ⟨[59, 102, 0, 1], eScope e_lam2, [0, 1]⟩), (_, ⟨[59, 103, 0, 1], eScope e_lam3, [0, 2]⟩), (_, ⟨[59, 104, 0, 1], eScope e_lam4, [0, 2, 1]⟩), (_, ⟨[59, 105, 0, 1], eScope e_lam5, [0, 2, 1]⟩)], _, _, _, rfl, rfl, lam_first (pe_lamR (hL_lam0 pP) TB ec hm (by first | rfl | decide +kernel) lk_lam0) (pg_name (i := 3) nd rfl (by first | exact Or.inl rfl | exact Or.inr rfl)), ?_, pv 3⟩
  refine List.forall_mem_cons.mpr ⟨lam_more (pe_lamR (hL_lam1 pP) TB ec hm (by first | rfl | decide +kernel) lk_lam1) (pe_bm PySem.F.plainAttrs_list PySem.F.slot_list_append PySem.F.type_list_append mt_append (pv 3) (pa_cons (pe_lamR (hL_lam1 pP) TB ec hm (by first | rfl | decide +kernel) lk_lam1) pa_nil)), List.forall_mem_cons.mpr ⟨lam_more (pe_lamR (hL_lam2 pP) TB ec hm (by first | rfl | decide +kernel) lk_lam2) (pe_bm PySem.F.plainAttrs_list PySem.F.slot_list_append PySem.F.type_list_append mt_append (pv 3) (pa_cons (pe_lamR (hL_lam2 pP) TB ec hm (by first | rfl | decide +kernel) lk_lam2) pa_nil)), List.forall_mem_cons.mpr ⟨lam_more (pe_lamR (hL_lam3 pP) TB ec hm (by first | rfl | decide +kernel) lk_lam3) (pe_bm PySem.F.plainAttrs_list PySem.F.slot_list_append PySem.F.type_list_append mt_append (pv 3) (pa_cons (pe_lamR (hL_lam3 pP) TB ec hm (by first | rfl | decide +kernel) lk_lam3) pa_nil)), List.forall_mem_cons.mpr ⟨lam_more (pe_lamR (hL_lam4 pP) TB ec hm (by first | rfl | decide +kernel) lk_lam4) (pe_bm PySem.F.plainAttrs_list PySem.F.slot_list_append PySem.F.type_list_append mt_append (pv 3) (pa_cons (pe_lamR (hL_lam4 pP) TB ec hm (by first | rfl | decide +kernel) lk_lam4) pa_nil)), List.forall_mem_cons.mpr ⟨lam_more (pe_lamR (hL_lam5 pP) TB ec hm (by first | rfl | decide +kernel) lk_lam5) (pe_bm PySem.F.plainAttrs_list PySem.F.slot_list_append PySem.F.type_list_append mt_append (pv 3) (pa_cons (pe_lamR (hL_lam5 pP) TB ec hm (by first | rfl | decide +kernel) lk_lam5) pa_nil)), fun _ h => nomatch h⟩⟩⟩⟩⟩
theorem ok_law_calls : ∀ ρ k, W_law_calls ρ k → w_law_calls ρ k := by
  rintro ⟨sl, n⟩ k ⟨a, b, c, e, z⟩
  simp only at e
  subst e
  exact ⟨_, rfl, z⟩
def Reg (C_BadWish : Addr) (C_OutOfPlace : Addr) : List LReg := [⟨[59, 100, 0, 0], 0, 2, W_lam0, (U_lam0 C_BadWish C_OutOfPlace)⟩,
  ⟨[59, 101, 0, 1], 0, 2, W_lam1, (U_lam1 C_BadWish C_OutOfPlace)⟩,
  ⟨[59, 102, 0, 1], 0, 2, W_lam2, (U_lam2 C_BadWish C_OutOfPlace)⟩,
  ⟨[59, 103, 0, 1], 0, 2, W_lam3, (U_lam3 C_BadWish C_OutOfPlace)⟩,
  ⟨[59, 104, 0, 1], 0, 3, W_lam4, (U_lam4 C_BadWish C_OutOfPlace)⟩,
  ⟨[59, 105, 0, 1], 0, 3, W_lam5, (U_lam5 C_BadWish C_OutOfPlace)⟩,
  ⟨[61, 101, 102, 100, 0, 1, 0, 1], 0, 1, W_lam6, (U_lam6 C_BadWish)⟩,
  ⟨[61, 101, 107, 0, 0, 1], 0, 1, W_lam7, (U_lam7 C_BadWish C_OutOfPlace)⟩]
def Out (C1 C2 : Addr) (r : LReg) (ds : List D) (n : Nat) (o : D) : Prop :=
  (o = .none ∧ r.V ⟨ds.map Sl.d, n⟩ fun _ ρ' => ρ'.n = n) ∨ r.U ⟨ds.map Sl.d, n⟩ fun c fl ρ' => ρ'.n = n ∧
    ((c = .ref C1 ∧ ∃ p : Str, fl = [(.str "part", .str p)] ∧ o = .str p) ∨ (c = .ref C2 ∧ o = .str "place"))
def OutOk (C1 C2 : Addr) (y o : D) : Prop := ∃ r ∈ Reg C1 C2, ∃ ds, y = cloD r.path ds ∧ r.nP = 0 ∧ ds.length = r.n ∧ (ds.map Sl.d).all (okC (r.path.headD 0)) = true ∧ ∀ n, Out C1 C2 r ds n o
def W_law_outcome (C1 C2 : Addr) : FE := fun ρ k => ∃ y o, ρ.sl = [.d y] ∧ OutOk C1 C2 y o ∧ k o ρ
theorem mW_law_outcome (C1 C2 : Addr) (ρ : Rho) (k k' : KD) (hM : ∀ d ρ', k d ρ' → k' d ρ') (z : W_law_outcome C1 C2 ρ k) : W_law_outcome C1 C2 ρ k' := by
  obtain ⟨y, o, e1, e2, e3⟩ := z
  exact ⟨y, o, e1, e2, hM _ _ e3⟩
def W_law_told (C1 C2 : Addr) : FE := fun ρ k => ∃ a b c o0 o1 o2 o3 o4 o5, ρ.sl = [.d a, .d b, .d c] ∧ (∀ x ∈ (callsL a b c).zip [o0, o1, o2, o3, o4, o5], OutOk C1 C2 x.1 x.2) ∧ k (.list [o0, o1, o2, o3, o4, o5]) ρ
theorem mW_law_told (C1 C2 : Addr) (ρ : Rho) (k k' : KD) (hM : ∀ d ρ', k d ρ' → k' d ρ') (z : W_law_told C1 C2 ρ k) : W_law_told C1 C2 ρ k' := by
  obtain ⟨a, b, c, o0, o1, o2, o3, o4, o5, e1, e2, e3⟩ := z
  exact ⟨a, b, c, o0, o1, o2, o3, o4, o5, e1, e2, hM _ _ e3⟩
def W_law : FE := fun ρ k => ∃ ns : List Int, ρ.sl = [.d (.list (ns.map .int))] ∧ ns.length ≤ 63 ∧ ∀ n', k (.bool true) ⟨ρ.sl, n'⟩
abbrev s_law_want : Stmt := top 57
theorem sc_law_want : FnScope ["m", "deeds", "states", "many", "size", "rows", "k", "j", "good"] ["m", "deeds", "states"] (defScope s_law_want) := ⟨rfl, rfl, rfl, by decide +kernel, rfl, by decide +kernel, by decide +kernel⟩
theorem raw_law_want {f : Addr} {fd : FuncData} {a_law_next : Addr} {d_law_next : FuncData} (F : Fun K "_law_want" "_law_want" s_law_want f fd) (T : Txt mg) (g_law_next : mg "_law_next" = some (.ref a_law_next)) (G_law_next : FnG P w K mg base (L2.CX P w) 1 a_law_next d_law_next ["m", "total"] (spD ⟨K, w, P⟩ (MM TT) 2 W_law_next)) (b_law_next : Binds K d_law_next ["m", "total"] []) (k_law_next : PySem.W.keepIn K (.ref a_law_next) = true) : FnG P w K mg base (L2.CX P w) (2) f fd ["m", "deeds", "states"] (spD ⟨K, w, P⟩ (MM TT) 3 (fBody 9 w_law_want)) := by
  refine fnD F sc_law_want fun cdv A outer s H E hgd hr => ?_
  have nd := (sc_law_want).nd
  have hu : (A.deeper (envOfC "_law_want" (defScope s_law_want) s.heap.objs.size f cdv)).units + 64 < cLine := hr.units
  exact pds_cons (pds_asg (pd_tup (pdl_cons (pd_op op_addA rd_add (pd_int) (pd_call mW_law_next (G_law_next.mono (by decide)) hgd hr (by rfl) g_law_next k_law_next b_law_next (pda_st (pv 0) (pdl_cons (pd_var (pv 1)) (pdl_nil))))) (pdl_cons (pd_op op_addA rd_add (pd_int) (pd_call mW_law_next (G_law_next.mono (by decide)) hgd hr (by rfl) g_law_next k_law_next b_law_next (pda_st (pv 0) (pdl_cons (pd_var (pv 2)) (pdl_nil))))) (pdl_nil)))) (pg1_tup (pgn_cons (pg1_name (i := 3) (pg_name (i := 3) nd rfl (by first | exact Or.inl rfl | exact Or.inr rfl))) (pgn_cons (pg1_name (i := 4) (pg_name (i := 4) nd rfl (by first | exact Or.inl rfl | exact Or.inr rfl))) (pgn_nil) (pgs_cons (pg1_name (i := 4) (pg_name (i := 4) nd rfl (by first | exact Or.inl rfl | exact Or.inr rfl))).pg (pgn_nil).pg)) (pgs_cons (pg1_name (i := 3) (pg_name (i := 3) nd rfl (by first | exact Or.inl rfl | exact Or.inr rfl))).pg (pgn_cons (pg1_name (i := 4) (pg_name (i := 4) nd rfl (by first | exact Or.inl rfl | exact Or.inr rfl))) (pgn_nil) (pgs_cons (pg1_name (i := 4) (pg_name (i := 4) nd rfl (by first | exact Or.inl rfl | exact Or.inr rfl))).pg (pgn_nil).pg)).pg)) (pg_tup rfl (pgn_cons (pg1_name (i := 3) (pg_name (i := 3) nd rfl (by first | exact Or.inl rfl | exact Or.inr rfl))) (pgn_cons (pg1_name (i := 4) (pg_name (i := 4) nd rfl (by first | exact Or.inl rfl | exact Or.inr rfl))) (pgn_nil) (pgs_cons (pg1_name (i := 4) (pg_name (i := 4) nd rfl (by first | exact Or.inl rfl | exact Or.inr rfl))).pg (pgn_nil).pg)) (pgs_cons (pg1_name (i := 3) (pg_name (i := 3) nd rfl (by first | exact Or.inl rfl | exact Or.inr rfl))).pg (pgn_cons (pg1_name (i := 4) (pg_name (i := 4) nd rfl (by first | exact Or.inl rfl | exact Or.inr rfl))) (pgn_nil) (pgs_cons (pg1_name (i := 4) (pg_name (i := 4) nd rfl (by first | exact Or.inl rfl | exact Or.inr rfl))).pg (pgn_nil).pg)).pg)).pg)))
    (pds_cons (pds_own (i := 5) (pn_lst (pdl_nil)) (pg_name (i := 5) nd rfl (by first | exact Or.inl rfl | exact Or.inr rfl)))
    (pds_cons (pds_for (fs := b_law_want_1) PassesOwn.never rfl (pdi_range1 (by rfl) T.range (pdl_cons (pd_var (pv 4)) (pdl_nil))) (pg1_name (i := 6) (pg_name (i := 6) nd rfl (by first | exact Or.inl rfl | exact Or.inr rfl))) (pds_one (pds_app (i := 5) (pd_t1 call_tuple_of r1_tuple (by rfl) T.tuple (by decide +kernel) (pd_ofN (pn_lc rfl nd (own := [("j", 7)]) (vs := [7]) (pdi_range1 (by rfl) T.range (pdl_cons (pd_var (pv 3)) (pdl_nil))) (blkOk_by (own := [("j", 7)]) (N := ["m", "deeds", "states", "many", "size", "rows", "k", "j", "good"]) (sc := defScope s_law_want) (by decide +kernel)) rfl (fun _ _ _ _ _ => pg1_name (i := 7) (pg_name (i := 7) nd rfl (by first | exact Or.inl rfl | exact Or.inr rfl))) (fun _ _ _ _ _ => ptn_nil) (fun _ _ _ _ _ => pd_call mW_law_next (G_law_next.mono (by decide)) hgd hr (by rfl) g_law_next k_law_next b_law_next (pda_st (pv 0) (pdl_cons (pd_var (pv 4)) (pdl_nil)))) s))) (pe_bm PySem.F.plainAttrs_list PySem.F.slot_list_append PySem.F.type_list_append mt_append (pv 5) (pa_cons (pd_t1 call_tuple_of r1_tuple (by rfl) T.tuple (by decide +kernel) (pd_ofN (pn_lc rfl nd (own := [("j", 7)]) (vs := [7]) (pdi_range1 (by rfl) T.range (pdl_cons (pd_var (pv 3)) (pdl_nil))) (blkOk_by (own := [("j", 7)]) (N := ["m", "deeds", "states", "many", "size", "rows", "k", "j", "good"]) (sc := defScope s_law_want) (by decide +kernel)) rfl (fun _ _ _ _ _ => pg1_name (i := 7) (pg_name (i := 7) nd rfl (by first | exact Or.inl rfl | exact Or.inr rfl))) (fun _ _ _ _ _ => ptn_nil) (fun _ _ _ _ _ => pd_call mW_law_next (G_law_next.mono (by decide)) hgd hr (by rfl) g_law_next k_law_next b_law_next (pda_st (pv 0) (pdl_cons (pd_var (pv 4)) (pdl_nil)))) s))).pe pa_nil)))))
    (pds_cons (pds_setLc (i := 8) rfl nd rfl rfl (sw_true rfl rfl rfl (by decide +kernel)) (own := [("k", 6)]) (vs := [6]) (pdi_range1 (by rfl) T.range (pdl_cons (pd_var (pv 4)) (pdl_nil))) (blkOk_by (own := [("k", 6)]) (N := ["m", "deeds", "states", "many", "size", "rows", "k", "j", "good"]) (sc := defScope s_law_want) (by decide +kernel)) rfl (fun _ _ _ _ _ => pg1_name (i := 6) (pg_name (i := 6) nd rfl (by first | exact Or.inl rfl | exact Or.inr rfl))) (fun _ _ _ _ _ => ptn_one (pdt_cmp (op_eqA hu) rd_eqA (pd_call mW_law_next (G_law_next.mono (by decide)) hgd hr (by rfl) g_law_next k_law_next b_law_next (pda_st (pv 0) (pdl_cons (pd_int) (pdl_nil)))) (pd_int) (by first | exact nomark _ | rfl))) (fun _ _ _ _ _ => pd_var (pv 6)) s)
    (pds_one (pds_frz1 5 (pds_ret (pd_tup (pdl_cons (pd_var (pv 3)) (pdl_cons (pd_t1 call_tuple_of r1_tuple (by rfl) T.tuple (by decide +kernel) (pd_var (pv 5))) (pdl_cons (pd_t1 call_tuple_of r1_tuple (by rfl) T.tuple (by decide +kernel) (pd_ofN (pn_sortset rfl (by rfl) T.sorted (by rfl) T.set (pd_op op_addA rd_add (pd_var (pv 8)) (pd_lst (pdl_cons (pd_int) (pdl_nil))))))) (pdl_nil)))))))))))
abbrev s_law : Stmt := top 61
theorem sc_law : FnScope ["script", "m", "turn", "want", "odds", "odd", "word", "wide"] ["script"] (defScope s_law) := ⟨rfl, rfl, rfl, by decide +kernel, rfl, by decide +kernel, by decide +kernel⟩
def b_law_1 (C_BadWish : Addr) (C_OutOfPlace : Addr) : FS := fsSeq (fsIf (ftOr (ftB (fOp gNeA (fCall 3 (W_law_told C_BadWish C_OutOfPlace) (faD (flCons (fVar 5) (flCons (fC .none) (flCons (fC .none) (flNil)))))) (fOp gMulX (fLst (flCons (fVar 6) (flNil))) (fC (.int 6))))) (ftB (fOp gNeA (fCallL 1 (W_law_outcome C_BadWish C_OutOfPlace) [61, 101, 102, 100, 0, 1, 0, 1] [5] (fhHere (flNil))) (fVar 6)))) (fsRet (fC (.bool false))) (fsNext))
  (fsIf (ftB (fOp gNeA (fSl gSl (fCall 3 (W_law_told C_BadWish C_OutOfPlace) (faD (flCons (fVar 3) (flCons (fVar 5) (flCons (fC .none) (flNil)))))) (foNone) (foSome (fC (.int 3)))) (fOp gMulX (fLst (flCons (fVar 6) (flNil))) (fC (.int 3))))) (fsRet (fC (.bool false))) (fsNext))
def b_law_2 (C_BadWish : Addr) (C_OutOfPlace : Addr) : FS := fsIf (ftB (fOp gNeA (fSl gSl (fCall 3 (W_law_told C_BadWish C_OutOfPlace) (faD (flCons (fVar 3) (flCons (fC (.int 0)) (flCons (fVar 5) (flNil)))))) (foSome (fC (.int 3))) (foNone)) (fOp gMulX (fLst (flCons (fC (.str "place")) (flNil))) (fC (.int 3))))) (fsRet (fC (.bool false))) (fsNext)
def b_law_3 (C_BadWish : Addr) (C_OutOfPlace : Addr) : FS := fsIf (ftB (fOp gNeA (fSl gSl (fCall 3 (W_law_told C_BadWish C_OutOfPlace) (faD (flCons (fVar 3) (flCons (fVar 5) (flCons (fTup (flNil)) (flNil)))))) (foSome (fC (.int 4))) (foNone)) (fOp gMulX (fLst (flCons (fC (.str "place")) (flNil))) (fC (.int 2))))) (fsRet (fC (.bool false))) (fsNext)
def b_law_4 (C_BadWish : Addr) (C_OutOfPlace : Addr) : FS := fsSeq (fsAsg (fCall 3 W_law_want (faSt 1 (flCons (fC (.int 3)) (flCons (fC (.int 4)) (flNil))))) (fgN 3))
  (fsSeq (fsAsg (fLst (flCons (fTup (flCons (fC .none) (flCons (fC (.str "form")) (flNil)))) (flCons (fTup (flCons (fTup (flCons (fC (.int 0)) (flCons (fTup (flNil)) (flCons (fTup (flNil)) (flNil))))) (flCons (fC (.str "deeds")) (flNil)))) (flCons (fTup (flCons (fOp gAdd (fSl gSl (fVar 3) (foNone) (foSome (fC (.int 1)))) (fTup (flCons (fTup (flNil)) (flCons (fTup (flNil)) (flNil))))) (flCons (fC (.str "steps")) (flNil)))) (flCons (fTup (flCons (fOp gAdd (fSl gSl (fVar 3) (foNone) (foSome (fC (.int 2)))) (fTup (flCons (fTup (flNil)) (flNil)))) (flCons (fC (.str "good")) (flNil)))) (flNil)))))) (fgN 4))
  (fsSeq (fsFor (fiSeq (fVar 4)) (fgTup 2 (fgCons (fgN 5) (fgCons (fgN 6) (fgNil)))) (b_law_1 C_BadWish C_OutOfPlace))
  (fsSeq (fsAsg (fTup (flCons (fOp gAdd (fOp gIx (fVar 3) (fC (.int 0))) (fC (.int 1))) (flCons (fTup (flCons (fOp gMulX (fTup (flCons (fC (.int 0)) (flNil))) (fOp gAdd (fOp gIx (fVar 3) (fC (.int 0))) (fC (.int 1)))) (flNil))) (flCons (fTup (flCons (fC (.int 0)) (flNil))) (flNil))))) (fgN 7))
  (fsSeq (fsIf (ftB (fOp gNeA (fSl gSl (fCall 3 (W_law_told C_BadWish C_OutOfPlace) (faD (flCons (fVar 3) (flCons (fVar 7) (flCons (fC .none) (flNil)))))) (foNone) (foSome (fC (.int 3)))) (fOp gMulX (fLst (flCons (fC (.str "place")) (flNil))) (fC (.int 3))))) (fsRet (fC (.bool false))) (fsNext))
  (fsSeq (fsFor (fiSeq (fLst (flCons (fC .none) (flCons (fLst (flNil)) (flCons (fTup (flCons (fOp gIx (fVar 3) (fC (.int 0))) (flNil))) (flCons (fTup (flCons (fC (.int 0)) (flCons (fC (.int 0)) (flNil)))) (flCons (fTup (flCons (fC (.bool true)) (flNil))) (flCons (fTup (flCons (fC (.str "0")) (flNil))) (flCons (fTup (flCons (fUn gNeg (fC (.int 1))) (flNil))) (flCons (fC (.int 0)) (flNil))))))))))) (fgN 5) (b_law_2 C_BadWish C_OutOfPlace))
  (fsSeq (fsFor (fiSeq (fLst (flCons (fC .none) (flCons (fUn gNeg (fC (.int 1))) (flCons (fC (.int 4)) (flCons (fC (.bool true)) (flCons (fC (.str "0")) (flCons (fTup (flCons (fC (.int 0)) (flNil))) (flNil))))))))) (fgN 5) (b_law_3 C_BadWish C_OutOfPlace))
  (fsIf (ftB (fOp gNeA (fCallL 1 (W_law_outcome C_BadWish C_OutOfPlace) [61, 101, 107, 0, 0, 1] [3] (fhHere (flNil))) (fC (.str "place")))) (fsRet (fC (.bool false))) (fsNext))))))))
def w_law (C_BadWish : Addr) (C_OutOfPlace : Addr) : FS := fsBegin 1 1 B_law (flCons (fVar 0) (flNil))
  (fsSeq (fsFor (fiRange1 (flCons (fOp gAdd (fC (.int 1)) (fOp gMin2 (fUn gLen (fVar 0)) (fC (.int 3)))) (flNil))) (fgN 2) (b_law_4 C_BadWish C_OutOfPlace))
  (fsRet (fC (.bool true))))
abbrev e_lam6 : Expr := lamE PySem.Challenge.pw_guardkeeps_k09_needs_and_parts_refused [61, 101, 102, 100, 0, 1, 0, 1]
theorem hL_lam6 {P : Program} (pP : P = PySem.Challenge.pw_guardkeeps_k09_needs_and_parts_refused) : lamAt P [61, 101, 102, 100, 0, 1, 0, 1] = some (.Lambda (eArgs e_lam6) (eBody e_lam6) (eScope e_lam6) (ePos e_lam6)) := by subst pP; rfl
theorem lk_lam6 : ∀ y ∈ (eScope e_lam6).names, y.2 = .free → (defScope s_law).names.lookup y.1 = some .cell ∨ (defScope s_law).names.lookup y.1 = some .free := by decide +kernel
theorem js_lam6 : ([5] : List Nat).map (fun j => (["script", "m", "turn", "want", "odds", "odd", "word", "wide"] : List Str)[j]?) = (frees (eScope e_lam6)).map some := by decide +kernel
theorem nd_lam6 : (frees (eScope e_lam6)).Nodup := by decide +kernel
abbrev e_lam7 : Expr := lamE PySem.Challenge.pw_guardkeeps_k09_needs_and_parts_refused [61, 101, 107, 0, 0, 1]
theorem hL_lam7 {P : Program} (pP : P = PySem.Challenge.pw_guardkeeps_k09_needs_and_parts_refused) : lamAt P [61, 101, 107, 0, 0, 1] = some (.Lambda (eArgs e_lam7) (eBody e_lam7) (eScope e_lam7) (ePos e_lam7)) := by subst pP; rfl
theorem lk_lam7 : ∀ y ∈ (eScope e_lam7).names, y.2 = .free → (defScope s_law).names.lookup y.1 = some .cell ∨ (defScope s_law).names.lookup y.1 = some .free := by decide +kernel
theorem js_lam7 : ([3] : List Nat).map (fun j => (["script", "m", "turn", "want", "odds", "odd", "word", "wide"] : List Str)[j]?) = (frees (eScope e_lam7)).map some := by decide +kernel
theorem nd_lam7 : (frees (eScope e_lam7)).Nodup := by decide +kernel
theorem raw_law {f : Addr} {fd : FuncData} {a_law_begun : Addr} {d_law_begun : FuncData} {a_law_want : Addr} {d_law_want : FuncData} {a_law_outcome : Addr} {d_law_outcome : FuncData} {a_law_told : Addr} {d_law_told : FuncData} {C_BadWish : Addr} {C_OutOfPlace : Addr} (F : Fun K "law" "law" s_law f fd) (T : Txt mg) (pP : P = PySem.Challenge.pw_guardkeeps_k09_needs_and_parts_refused) (tb : MkTab (MM TT) mg base fd) (g_law_begun : mg "_law_begun" = some (.ref a_law_begun)) (g_law_want : mg "_law_want" = some (.ref a_law_want)) (g_law_outcome : mg "_law_outcome" = some (.ref a_law_outcome)) (g_law_told : mg "_law_told" = some (.ref a_law_told)) (G_law_begun : FnG P w K mg base (L2.CX P w) 1 a_law_begun d_law_begun ["script"] (spB ⟨K, w, P⟩ (MM TT) 1 B_law)) (b_law_begun : Binds K d_law_begun ["script"] []) (k_law_begun : PySem.W.keepIn K (.ref a_law_begun) = true) (G_law_want : FnG P w K mg base (L2.CX P w) 2 a_law_want d_law_want ["m", "deeds", "states"] (spD ⟨K, w, P⟩ (MM TT) 3 W_law_want)) (b_law_want : Binds K d_law_want ["m", "deeds", "states"] []) (k_law_want : PySem.W.keepIn K (.ref a_law_want) = true) (G_law_outcome : FnG P w K mg base (L2.CX P w) 10 a_law_outcome d_law_outcome ["call"] (spD ⟨K, w, P⟩ (MM TT) 1 (W_law_outcome C_BadWish C_OutOfPlace))) (b_law_outcome : Binds K d_law_outcome ["call"] []) (k_law_outcome : PySem.W.keepIn K (.ref a_law_outcome) = true) (G_law_told : FnG P w K mg base (L2.CX P w) 11 a_law_told d_law_told ["want", "one", "two"] (spD ⟨K, w, P⟩ (MM TT) 3 (W_law_told C_BadWish C_OutOfPlace))) (b_law_told : Binds K d_law_told ["want", "one", "two"] []) (k_law_told : PySem.W.keepIn K (.ref a_law_told) = true) : FnG P w K mg base (L2.CX P w) (12) f fd ["script"] (spD ⟨K, w, P⟩ (MM TT) 1 (fBody 8 (w_law C_BadWish C_OutOfPlace))) := by
  obtain ⟨cT, PT, ec, TB, hm⟩ := tb
  refine fnDC F sc_law fun A outer s H E hgd hr => ?_
  have nd := (sc_law).nd
  have hu : (A.deeper (envOfC "law" (defScope s_law) s.heap.objs.size f fd.code)).units + 64 < cLine := hr.units
  exact pds_begin (i := 1) (n := 1) (B := B_law) (G_law_begun.mono (by decide)) hgd hr (by rfl) g_law_begun k_law_begun b_law_begun (pdl_cons (pd_var (pv 0)) (pdl_nil)) (pg_name (i := 1) nd rfl (by first | exact Or.inl rfl | exact Or.inr rfl))
    (pds_cons (pds_for (fs := b_law_4 C_BadWish C_OutOfPlace) PassesOwn.never rfl (pdi_range1 (by rfl) T.range (pdl_cons (pd_op op_addA rd_add (pd_int) (pd_b2 (call_min2 rfl) rd_min2 (by rfl) T.min (by decide +kernel) (pd_b1 call_lenA r1_len (by rfl) T.len (by decide +kernel) (pd_var (pv 0))) (pd_int))) (pdl_nil))) (pg1_name (i := 2) (pg_name (i := 2) nd rfl (by first | exact Or.inl rfl | exact Or.inr rfl))) (pds_cons (pds_asg (pd_call mW_law_want (G_law_want.mono (by decide)) hgd hr (by rfl) g_law_want k_law_want b_law_want (pda_st (pv 1) (pdl_cons (pd_int) (pdl_cons (pd_int) (pdl_nil))))) (pg1_name (i := 3) (pg_name (i := 3) nd rfl (by first | exact Or.inl rfl | exact Or.inr rfl))))
    (pds_cons (pds_asg (pd_lst (pdl_cons (pd_tup (pdl_cons (pd_non) (pdl_cons (pd_str) (pdl_nil)))) (pdl_cons (pd_tup (pdl_cons (pd_tup (pdl_cons (pd_int) (pdl_cons (pd_tup (pdl_nil)) (pdl_cons (pd_tup (pdl_nil)) (pdl_nil))))) (pdl_cons (pd_str) (pdl_nil)))) (pdl_cons (pd_tup (pdl_cons (pd_op op_addA rd_add (pd_slice (pd_var (pv 3)) (pdo_none) (pdo_some (pd_int))) (pd_tup (pdl_cons (pd_tup (pdl_nil)) (pdl_cons (pd_tup (pdl_nil)) (pdl_nil))))) (pdl_cons (pd_str) (pdl_nil)))) (pdl_cons (pd_tup (pdl_cons (pd_op op_addA rd_add (pd_slice (pd_var (pv 3)) (pdo_none) (pdo_some (pd_int))) (pd_tup (pdl_cons (pd_tup (pdl_nil)) (pdl_nil)))) (pdl_cons (pd_str) (pdl_nil)))) (pdl_nil)))))) (pg1_name (i := 4) (pg_name (i := 4) nd rfl (by first | exact Or.inl rfl | exact Or.inr rfl))))
    (pds_cons (pds_for (fs := b_law_1 C_BadWish C_OutOfPlace) PassesOwn.never rfl (pdi_seq (pd_var (pv 4))) (pg1_tup (pgn_cons (pg1_name (i := 5) (pg_name (i := 5) nd rfl (by first | exact Or.inl rfl | exact Or.inr rfl))) (pgn_cons (pg1_name (i := 6) (pg_name (i := 6) nd rfl (by first | exact Or.inl rfl | exact Or.inr rfl))) (pgn_nil) (pgs_cons (pg1_name (i := 6) (pg_name (i := 6) nd rfl (by first | exact Or.inl rfl | exact Or.inr rfl))).pg (pgn_nil).pg)) (pgs_cons (pg1_name (i := 5) (pg_name (i := 5) nd rfl (by first | exact Or.inl rfl | exact Or.inr rfl))).pg (pgn_cons (pg1_name (i := 6) (pg_name (i := 6) nd rfl (by first | exact Or.inl rfl | exact Or.inr rfl))) (pgn_nil) (pgs_cons (pg1_name (i := 6) (pg_name (i := 6) nd rfl (by first | exact Or.inl rfl | exact Or.inr rfl))).pg (pgn_nil).pg)).pg)) (pg_tup rfl (pgn_cons (pg1_name (i := 5) (pg_name (i := 5) nd rfl (by first | exact Or.inl rfl | exact Or.inr rfl))) (pgn_cons (pg1_name (i := 6) (pg_name (i := 6) nd rfl (by first | exact Or.inl rfl | exact Or.inr rfl))) (pgn_nil) (pgs_cons (pg1_name (i := 6) (pg_name (i := 6) nd rfl (by first | exact Or.inl rfl | exact Or.inr rfl))).pg (pgn_nil).pg)) (pgs_cons (pg1_name (i := 5) (pg_name (i := 5) nd rfl (by first | exact Or.inl rfl | exact Or.inr rfl))).pg (pgn_cons (pg1_name (i := 6) (pg_name (i := 6) nd rfl (by first | exact Or.inl rfl | exact Or.inr rfl))) (pgn_nil) (pgs_cons (pg1_name (i := 6) (pg_name (i := 6) nd rfl (by first | exact Or.inl rfl | exact Or.inr rfl))).pg (pgn_nil).pg)).pg)).pg)) (pds_cons (pds_if (PDW.pt (pdw_or (pdt_cmp (op_neA hu) rd_neA (pd_call (mW_law_told C_BadWish C_OutOfPlace) (G_law_told.mono (by decide)) hgd hr (by rfl) g_law_told k_law_told b_law_told (pda_d (pdl_cons (pd_var (pv 5)) (pdl_cons (pd_non) (pdl_cons (pd_non) (pdl_nil)))))) (pd_op op_mulX rd_mulX (pd_lst (pdl_cons (pd_var (pv 6)) (pdl_nil))) (pd_int)) (by first | exact nomark _ | rfl)) (pdw_or1 (pdt_cmp (op_neA hu) rd_neA (pd_callL (mW_law_outcome C_BadWish C_OutOfPlace) (G_law_outcome.mono (by decide)) hgd hr (by rfl) g_law_outcome k_law_outcome b_law_outcome (pdh_here (pe_lamR (hL_lam6 pP) TB ec hm (by first | rfl | decide +kernel) lk_lam6) (pdl_nil)) lk_lam6 js_lam6 nd_lam6 (fun _ => rfl)) (pd_var (pv 6)) (by first | exact nomark _ | rfl))))) (pds_one (pds_ret (pd_bl))) (pds_nil))
    (pds_one (pds_if (pdt_cmp (op_neA hu) rd_neA (pd_slice (pd_call (mW_law_told C_BadWish C_OutOfPlace) (G_law_told.mono (by decide)) hgd hr (by rfl) g_law_told k_law_told b_law_told (pda_d (pdl_cons (pd_var (pv 3)) (pdl_cons (pd_var (pv 5)) (pdl_cons (pd_non) (pdl_nil)))))) (pdo_none) (pdo_some (pd_int))) (pd_op op_mulX rd_mulX (pd_lst (pdl_cons (pd_var (pv 6)) (pdl_nil))) (pd_int)) (by first | exact nomark _ | rfl)) (pds_one (pds_ret (pd_bl))) (pds_nil)))))
    (pds_cons (pds_asg (pd_tup (pdl_cons (pd_op op_addA rd_add (pd_ix ix_any rd_ix (pd_var (pv 3)) (pd_int) (fun _ _ => rfl)) (pd_int)) (pdl_cons (pd_tup (pdl_cons (pd_op op_mulX rd_mulX (pd_tup (pdl_cons (pd_int) (pdl_nil))) (pd_op op_addA rd_add (pd_ix ix_any rd_ix (pd_var (pv 3)) (pd_int) (fun _ _ => rfl)) (pd_int))) (pdl_nil))) (pdl_cons (pd_tup (pdl_cons (pd_int) (pdl_nil))) (pdl_nil))))) (pg1_name (i := 7) (pg_name (i := 7) nd rfl (by first | exact Or.inl rfl | exact Or.inr rfl))))
    (pds_cons (pds_if (pdt_cmp (op_neA hu) rd_neA (pd_slice (pd_call (mW_law_told C_BadWish C_OutOfPlace) (G_law_told.mono (by decide)) hgd hr (by rfl) g_law_told k_law_told b_law_told (pda_d (pdl_cons (pd_var (pv 3)) (pdl_cons (pd_var (pv 7)) (pdl_cons (pd_non) (pdl_nil)))))) (pdo_none) (pdo_some (pd_int))) (pd_op op_mulX rd_mulX (pd_lst (pdl_cons (pd_str) (pdl_nil))) (pd_int)) (by first | exact nomark _ | rfl)) (pds_one (pds_ret (pd_bl))) (pds_nil))
    (pds_cons (pds_for (fs := b_law_2 C_BadWish C_OutOfPlace) PassesOwn.never rfl (pdi_seq (pd_lst (pdl_cons (pd_non) (pdl_cons (pd_lst (pdl_nil)) (pdl_cons (pd_tup (pdl_cons (pd_ix ix_any rd_ix (pd_var (pv 3)) (pd_int) (fun _ _ => rfl)) (pdl_nil))) (pdl_cons (pd_tup (pdl_cons (pd_int) (pdl_cons (pd_int) (pdl_nil)))) (pdl_cons (pd_tup (pdl_cons (pd_bl) (pdl_nil))) (pdl_cons (pd_tup (pdl_cons (pd_str) (pdl_nil))) (pdl_cons (pd_tup (pdl_cons (pd_un un_neg r1_neg (pd_int)) (pdl_nil))) (pdl_cons (pd_int) (pdl_nil))))))))))) (pg1_name (i := 5) (pg_name (i := 5) nd rfl (by first | exact Or.inl rfl | exact Or.inr rfl))) (pds_one (pds_if (pdt_cmp (op_neA hu) rd_neA (pd_slice (pd_call (mW_law_told C_BadWish C_OutOfPlace) (G_law_told.mono (by decide)) hgd hr (by rfl) g_law_told k_law_told b_law_told (pda_d (pdl_cons (pd_var (pv 3)) (pdl_cons (pd_int) (pdl_cons (pd_var (pv 5)) (pdl_nil)))))) (pdo_some (pd_int)) (pdo_none)) (pd_op op_mulX rd_mulX (pd_lst (pdl_cons (pd_str) (pdl_nil))) (pd_int)) (by first | exact nomark _ | rfl)) (pds_one (pds_ret (pd_bl))) (pds_nil))))
    (pds_cons (pds_for (fs := b_law_3 C_BadWish C_OutOfPlace) PassesOwn.never rfl (pdi_seq (pd_lst (pdl_cons (pd_non) (pdl_cons (pd_un un_neg r1_neg (pd_int)) (pdl_cons (pd_int) (pdl_cons (pd_bl) (pdl_cons (pd_str) (pdl_cons (pd_tup (pdl_cons (pd_int) (pdl_nil))) (pdl_nil))))))))) (pg1_name (i := 5) (pg_name (i := 5) nd rfl (by first | exact Or.inl rfl | exact Or.inr rfl))) (pds_one (pds_if (pdt_cmp (op_neA hu) rd_neA (pd_slice (pd_call (mW_law_told C_BadWish C_OutOfPlace) (G_law_told.mono (by decide)) hgd hr (by rfl) g_law_told k_law_told b_law_told (pda_d (pdl_cons (pd_var (pv 3)) (pdl_cons (pd_var (pv 5)) (pdl_cons (pd_tup (pdl_nil)) (pdl_nil)))))) (pdo_some (pd_int)) (pdo_none)) (pd_op op_mulX rd_mulX (pd_lst (pdl_cons (pd_str) (pdl_nil))) (pd_int)) (by first | exact nomark _ | rfl)) (pds_one (pds_ret (pd_bl))) (pds_nil))))
    (pds_one (pds_if (pdt_cmp (op_neA hu) rd_neA (pd_callL (mW_law_outcome C_BadWish C_OutOfPlace) (G_law_outcome.mono (by decide)) hgd hr (by rfl) g_law_outcome k_law_outcome b_law_outcome (pdh_here (pe_lamR (hL_lam7 pP) TB ec hm (by first | rfl | decide +kernel) lk_lam7) (pdl_nil)) lk_lam7 js_lam7 nd_lam7 (fun _ => rfl)) (pd_str) (by first | exact nomark _ | rfl)) (pds_one (pds_ret (pd_bl))) (pds_nil)))))))))))
    (pds_one (pds_ret (pd_bl))))
def w_lam0 : FE := fCall 2 W_is_part (faD (flCons (fVar 0) (flCons (fVar 1) (flNil))))
def u_lam0 (C_BadWish C_OutOfPlace : Addr) : FX := fxCall 2 (U_is_part C_BadWish C_OutOfPlace) (faD (flCons (fVar 0) (flCons (fVar 1) (flNil))))
theorem hb_lam0 (q : Str) (cl : List (Str × Addr)) (pm ctv : Value) (c : Addr) (us : List Value) (h : us.length = ([] : List Str).length) : bindArgs (PySem.W.kla_fn "<lambda>" q (eArgs e_lam0) (eBody e_lam0) (eScope e_lam0) cl pm (.ref c) ctv) ⟨us, []⟩ = pure (([] : List Str).zip us) := match us, h with | [], _ => rfl
theorem raw_lam0 {a_is_part : Addr} {d_is_part : FuncData} {C_BadWish : Addr} {C_OutOfPlace : Addr} (pP : P = PySem.Challenge.pw_guardkeeps_k09_needs_and_parts_refused) (T : Txt mg) (g_is_part : mg "is_part" = some (.ref a_is_part)) (G_is_part : FnG P w K mg base (L2.CX P w) 7 a_is_part d_is_part ["wish", "other"] (spX ⟨K, w, P⟩ (MM TT) 2 W_is_part (U_is_part C_BadWish C_OutOfPlace))) (b_is_part : Binds K d_is_part ["wish", "other"] []) (k_is_part : PySem.W.keepIn K (.ref a_is_part) = true) : LamG P w K mg base (8) [59, 100, 0, 0] 0 (spX ⟨K, w, P⟩ (MM TT) 2 (fLam 2 (w_lam0)) (fLamX 2 (u_lam0 C_BadWish C_OutOfPlace))) := by
  refine lamX (N := ["want", "one"]) (ps := []) (hL_lam0 pP) (NdefX.nscope_by (by decide +kernel)) hb_lam0 fun X C A outer s H f E eX hsc hgd hr tk po => ?_
  subst eX
  have nd : (["want", "one"] : List Str).Nodup := by decide +kernel
  have hu : (A.deeper (NdefX.envF C.nf f s.heap.objs.size)).units + 64 < cLine := hr.units
  obtain ⟨q, params, body, scope, pm, ctv, c, oc, cl, os⟩ := C
  simp only at hsc
  subst hsc
  exact ⟨pd_call mW_is_part (G_is_part.left.mono (by decide)) hgd hr (by rfl) g_is_part k_is_part b_is_part (pda_d (pdl_cons (pd_var (pv 0)) (pdl_cons (pd_var (pv 1)) (pdl_nil)))), px_call tk (mU_is_part C_BadWish C_OutOfPlace) (G_is_part.right.mono (by decide)) hgd hr (by rfl) g_is_part k_is_part b_is_part (pda_d (pdl_cons (pd_var (pv 0)) (pdl_cons (pd_var (pv 1)) (pdl_nil))))⟩
def w_lam1 : FE := fCall 2 W_are_alike (faD (flCons (fVar 0) (flCons (fVar 1) (flNil))))
def u_lam1 (C_BadWish C_OutOfPlace : Addr) : FX := fxCall 2 (U_are_alike C_BadWish C_OutOfPlace) (faD (flCons (fVar 0) (flCons (fVar 1) (flNil))))
theorem hb_lam1 (q : Str) (cl : List (Str × Addr)) (pm ctv : Value) (c : Addr) (us : List Value) (h : us.length = ([] : List Str).length) : bindArgs (PySem.W.kla_fn "<lambda>" q (eArgs e_lam1) (eBody e_lam1) (eScope e_lam1) cl pm (.ref c) ctv) ⟨us, []⟩ = pure (([] : List Str).zip us) := match us, h with | [], _ => rfl
theorem raw_lam1 {a_are_alike : Addr} {d_are_alike : FuncData} {C_BadWish : Addr} {C_OutOfPlace : Addr} (pP : P = PySem.Challenge.pw_guardkeeps_k09_needs_and_parts_refused) (T : Txt mg) (g_are_alike : mg "are_alike" = some (.ref a_are_alike)) (G_are_alike : FnG P w K mg base (L2.CX P w) 8 a_are_alike d_are_alike ["wish", "other"] (spX ⟨K, w, P⟩ (MM TT) 2 W_are_alike (U_are_alike C_BadWish C_OutOfPlace))) (b_are_alike : Binds K d_are_alike ["wish", "other"] []) (k_are_alike : PySem.W.keepIn K (.ref a_are_alike) = true) : LamG P w K mg base (9) [59, 101, 0, 1] 0 (spX ⟨K, w, P⟩ (MM TT) 2 (fLam 2 (w_lam1)) (fLamX 2 (u_lam1 C_BadWish C_OutOfPlace))) := by
  refine lamX (N := ["want", "one"]) (ps := []) (hL_lam1 pP) (NdefX.nscope_by (by decide +kernel)) hb_lam1 fun X C A outer s H f E eX hsc hgd hr tk po => ?_
  subst eX
  have nd : (["want", "one"] : List Str).Nodup := by decide +kernel
  have hu : (A.deeper (NdefX.envF C.nf f s.heap.objs.size)).units + 64 < cLine := hr.units
  obtain ⟨q, params, body, scope, pm, ctv, c, oc, cl, os⟩ := C
  simp only at hsc
  subst hsc
  exact ⟨pd_call mW_are_alike (G_are_alike.left.mono (by decide)) hgd hr (by rfl) g_are_alike k_are_alike b_are_alike (pda_d (pdl_cons (pd_var (pv 0)) (pdl_cons (pd_var (pv 1)) (pdl_nil)))), px_call tk (mU_are_alike C_BadWish C_OutOfPlace) (G_are_alike.right.mono (by decide)) hgd hr (by rfl) g_are_alike k_are_alike b_are_alike (pda_d (pdl_cons (pd_var (pv 0)) (pdl_cons (pd_var (pv 1)) (pdl_nil))))⟩
def w_lam2 : FE := fCall 2 W_parting (faD (flCons (fVar 0) (flCons (fVar 1) (flNil))))
def u_lam2 (C_BadWish C_OutOfPlace : Addr) : FX := fxCall 2 (U_parting C_BadWish C_OutOfPlace) (faD (flCons (fVar 0) (flCons (fVar 1) (flNil))))
theorem hb_lam2 (q : Str) (cl : List (Str × Addr)) (pm ctv : Value) (c : Addr) (us : List Value) (h : us.length = ([] : List Str).length) : bindArgs (PySem.W.kla_fn "<lambda>" q (eArgs e_lam2) (eBody e_lam2) (eScope e_lam2) cl pm (.ref c) ctv) ⟨us, []⟩ = pure (([] : List Str).zip us) := match us, h with | [], _ => rfl
theorem raw_lam2 {a_parting : Addr} {d_parting : FuncData} {C_BadWish : Addr} {C_OutOfPlace : Addr} (pP : P = PySem.Challenge.pw_guardkeeps_k09_needs_and_parts_refused) (T : Txt mg) (g_parting : mg "parting" = some (.ref a_parting)) (G_parting : FnG P w K mg base (L2.CX P w) 7 a_parting d_parting ["wish", "other"] (spX ⟨K, w, P⟩ (MM TT) 2 W_parting (U_parting C_BadWish C_OutOfPlace))) (b_parting : Binds K d_parting ["wish", "other"] []) (k_parting : PySem.W.keepIn K (.ref a_parting) = true) : LamG P w K mg base (8) [59, 102, 0, 1] 0 (spX ⟨K, w, P⟩ (MM TT) 2 (fLam 2 (w_lam2)) (fLamX 2 (u_lam2 C_BadWish C_OutOfPlace))) := by
  refine lamX (N := ["want", "one"]) (ps := []) (hL_lam2 pP) (NdefX.nscope_by (by decide +kernel)) hb_lam2 fun X C A outer s H f E eX hsc hgd hr tk po => ?_
  subst eX
  have nd : (["want", "one"] : List Str).Nodup := by decide +kernel
  have hu : (A.deeper (NdefX.envF C.nf f s.heap.objs.size)).units + 64 < cLine := hr.units
  obtain ⟨q, params, body, scope, pm, ctv, c, oc, cl, os⟩ := C
  simp only at hsc
  subst hsc
  exact ⟨pd_call mW_parting (G_parting.left.mono (by decide)) hgd hr (by rfl) g_parting k_parting b_parting (pda_d (pdl_cons (pd_var (pv 0)) (pdl_cons (pd_var (pv 1)) (pdl_nil)))), px_call tk (mU_parting C_BadWish C_OutOfPlace) (G_parting.right.mono (by decide)) hgd hr (by rfl) g_parting k_parting b_parting (pda_d (pdl_cons (pd_var (pv 0)) (pdl_cons (pd_var (pv 1)) (pdl_nil))))⟩
def w_lam3 : FE := fCall 2 W_kept_part (faD (flCons (fVar 0) (flCons (fVar 1) (flNil))))
def u_lam3 (C_BadWish C_OutOfPlace : Addr) : FX := fxCall 2 (U_kept_part C_BadWish C_OutOfPlace) (faD (flCons (fVar 0) (flCons (fVar 1) (flNil))))
theorem hb_lam3 (q : Str) (cl : List (Str × Addr)) (pm ctv : Value) (c : Addr) (us : List Value) (h : us.length = ([] : List Str).length) : bindArgs (PySem.W.kla_fn "<lambda>" q (eArgs e_lam3) (eBody e_lam3) (eScope e_lam3) cl pm (.ref c) ctv) ⟨us, []⟩ = pure (([] : List Str).zip us) := match us, h with | [], _ => rfl
theorem raw_lam3 {a_kept_part : Addr} {d_kept_part : FuncData} {C_BadWish : Addr} {C_OutOfPlace : Addr} (pP : P = PySem.Challenge.pw_guardkeeps_k09_needs_and_parts_refused) (T : Txt mg) (g_kept_part : mg "kept_part" = some (.ref a_kept_part)) (G_kept_part : FnG P w K mg base (L2.CX P w) 6 a_kept_part d_kept_part ["wish", "loose"] (spX ⟨K, w, P⟩ (MM TT) 2 W_kept_part (U_kept_part C_BadWish C_OutOfPlace))) (b_kept_part : Binds K d_kept_part ["wish", "loose"] []) (k_kept_part : PySem.W.keepIn K (.ref a_kept_part) = true) : LamG P w K mg base (7) [59, 103, 0, 1] 0 (spX ⟨K, w, P⟩ (MM TT) 2 (fLam 2 (w_lam3)) (fLamX 2 (u_lam3 C_BadWish C_OutOfPlace))) := by
  refine lamX (N := ["want", "two"]) (ps := []) (hL_lam3 pP) (NdefX.nscope_by (by decide +kernel)) hb_lam3 fun X C A outer s H f E eX hsc hgd hr tk po => ?_
  subst eX
  have nd : (["want", "two"] : List Str).Nodup := by decide +kernel
  have hu : (A.deeper (NdefX.envF C.nf f s.heap.objs.size)).units + 64 < cLine := hr.units
  obtain ⟨q, params, body, scope, pm, ctv, c, oc, cl, os⟩ := C
  simp only at hsc
  subst hsc
  exact ⟨pd_call mW_kept_part (G_kept_part.left.mono (by decide)) hgd hr (by rfl) g_kept_part k_kept_part b_kept_part (pda_d (pdl_cons (pd_var (pv 0)) (pdl_cons (pd_var (pv 1)) (pdl_nil)))), px_call tk (mU_kept_part C_BadWish C_OutOfPlace) (G_kept_part.right.mono (by decide)) hgd hr (by rfl) g_kept_part k_kept_part b_kept_part (pda_d (pdl_cons (pd_var (pv 0)) (pdl_cons (pd_var (pv 1)) (pdl_nil))))⟩
def w_lam4 : FE := fCall 3 W_least_hold (faD (flCons (fVar 0) (flCons (fVar 2) (flCons (fVar 1) (flNil)))))
def u_lam4 (C_BadWish C_OutOfPlace : Addr) : FX := fxCall 3 (U_least_hold C_BadWish C_OutOfPlace) (faD (flCons (fVar 0) (flCons (fVar 2) (flCons (fVar 1) (flNil)))))
theorem hb_lam4 (q : Str) (cl : List (Str × Addr)) (pm ctv : Value) (c : Addr) (us : List Value) (h : us.length = ([] : List Str).length) : bindArgs (PySem.W.kla_fn "<lambda>" q (eArgs e_lam4) (eBody e_lam4) (eScope e_lam4) cl pm (.ref c) ctv) ⟨us, []⟩ = pure (([] : List Str).zip us) := match us, h with | [], _ => rfl
theorem raw_lam4 {a_least_hold : Addr} {d_least_hold : FuncData} {C_BadWish : Addr} {C_OutOfPlace : Addr} (pP : P = PySem.Challenge.pw_guardkeeps_k09_needs_and_parts_refused) (T : Txt mg) (g_least_hold : mg "least_hold" = some (.ref a_least_hold)) (G_least_hold : FnG P w K mg base (L2.CX P w) 6 a_least_hold d_least_hold ["wish", "ahead", "loose"] (spX ⟨K, w, P⟩ (MM TT) 3 W_least_hold (U_least_hold C_BadWish C_OutOfPlace))) (b_least_hold : Binds K d_least_hold ["wish", "ahead", "loose"] []) (k_least_hold : PySem.W.keepIn K (.ref a_least_hold) = true) : LamG P w K mg base (7) [59, 104, 0, 1] 0 (spX ⟨K, w, P⟩ (MM TT) 3 (fLam 3 (w_lam4)) (fLamX 3 (u_lam4 C_BadWish C_OutOfPlace))) := by
  refine lamX (N := ["want", "two", "one"]) (ps := []) (hL_lam4 pP) (NdefX.nscope_by (by decide +kernel)) hb_lam4 fun X C A outer s H f E eX hsc hgd hr tk po => ?_
  subst eX
  have nd : (["want", "two", "one"] : List Str).Nodup := by decide +kernel
  have hu : (A.deeper (NdefX.envF C.nf f s.heap.objs.size)).units + 64 < cLine := hr.units
  obtain ⟨q, params, body, scope, pm, ctv, c, oc, cl, os⟩ := C
  simp only at hsc
  subst hsc
  exact ⟨pd_call mW_least_hold (G_least_hold.left.mono (by decide)) hgd hr (by rfl) g_least_hold k_least_hold b_least_hold (pda_d (pdl_cons (pd_var (pv 0)) (pdl_cons (pd_var (pv 2)) (pdl_cons (pd_var (pv 1)) (pdl_nil))))), px_call tk (mU_least_hold C_BadWish C_OutOfPlace) (G_least_hold.right.mono (by decide)) hgd hr (by rfl) g_least_hold k_least_hold b_least_hold (pda_d (pdl_cons (pd_var (pv 0)) (pdl_cons (pd_var (pv 2)) (pdl_cons (pd_var (pv 1)) (pdl_nil)))))⟩
def w_lam5 : FE := fCall 3 W_least_ahead (faD (flCons (fVar 0) (flCons (fVar 2) (flCons (fVar 1) (flNil)))))
def u_lam5 (C_BadWish C_OutOfPlace : Addr) : FX := fxCall 3 (U_least_ahead C_BadWish C_OutOfPlace) (faD (flCons (fVar 0) (flCons (fVar 2) (flCons (fVar 1) (flNil)))))
theorem hb_lam5 (q : Str) (cl : List (Str × Addr)) (pm ctv : Value) (c : Addr) (us : List Value) (h : us.length = ([] : List Str).length) : bindArgs (PySem.W.kla_fn "<lambda>" q (eArgs e_lam5) (eBody e_lam5) (eScope e_lam5) cl pm (.ref c) ctv) ⟨us, []⟩ = pure (([] : List Str).zip us) := match us, h with | [], _ => rfl
theorem raw_lam5 {a_least_ahead : Addr} {d_least_ahead : FuncData} {C_BadWish : Addr} {C_OutOfPlace : Addr} (pP : P = PySem.Challenge.pw_guardkeeps_k09_needs_and_parts_refused) (T : Txt mg) (g_least_ahead : mg "least_ahead" = some (.ref a_least_ahead)) (G_least_ahead : FnG P w K mg base (L2.CX P w) 6 a_least_ahead d_least_ahead ["wish", "hold", "loose"] (spX ⟨K, w, P⟩ (MM TT) 3 W_least_ahead (U_least_ahead C_BadWish C_OutOfPlace))) (b_least_ahead : Binds K d_least_ahead ["wish", "hold", "loose"] []) (k_least_ahead : PySem.W.keepIn K (.ref a_least_ahead) = true) : LamG P w K mg base (7) [59, 105, 0, 1] 0 (spX ⟨K, w, P⟩ (MM TT) 3 (fLam 3 (w_lam5)) (fLamX 3 (u_lam5 C_BadWish C_OutOfPlace))) := by
  refine lamX (N := ["want", "two", "one"]) (ps := []) (hL_lam5 pP) (NdefX.nscope_by (by decide +kernel)) hb_lam5 fun X C A outer s H f E eX hsc hgd hr tk po => ?_
  subst eX
  have nd : (["want", "two", "one"] : List Str).Nodup := by decide +kernel
  have hu : (A.deeper (NdefX.envF C.nf f s.heap.objs.size)).units + 64 < cLine := hr.units
  obtain ⟨q, params, body, scope, pm, ctv, c, oc, cl, os⟩ := C
  simp only at hsc
  subst hsc
  exact ⟨pd_call mW_least_ahead (G_least_ahead.left.mono (by decide)) hgd hr (by rfl) g_least_ahead k_least_ahead b_least_ahead (pda_d (pdl_cons (pd_var (pv 0)) (pdl_cons (pd_var (pv 2)) (pdl_cons (pd_var (pv 1)) (pdl_nil))))), px_call tk (mU_least_ahead C_BadWish C_OutOfPlace) (G_least_ahead.right.mono (by decide)) hgd hr (by rfl) g_least_ahead k_least_ahead b_least_ahead (pda_d (pdl_cons (pd_var (pv 0)) (pdl_cons (pd_var (pv 2)) (pdl_cons (pd_var (pv 1)) (pdl_nil)))))⟩
def w_lam6 : FE := fCall 1 W_need (faD (flCons (fVar 0) (flNil)))
def u_lam6 (C_BadWish : Addr) : FX := fxCall 1 (U_need C_BadWish) (faD (flCons (fVar 0) (flNil)))
theorem hb_lam6 (q : Str) (cl : List (Str × Addr)) (pm ctv : Value) (c : Addr) (us : List Value) (h : us.length = ([] : List Str).length) : bindArgs (PySem.W.kla_fn "<lambda>" q (eArgs e_lam6) (eBody e_lam6) (eScope e_lam6) cl pm (.ref c) ctv) ⟨us, []⟩ = pure (([] : List Str).zip us) := match us, h with | [], _ => rfl
theorem raw_lam6 {a_need : Addr} {d_need : FuncData} {C_BadWish : Addr} (pP : P = PySem.Challenge.pw_guardkeeps_k09_needs_and_parts_refused) (T : Txt mg) (g_need : mg "need" = some (.ref a_need)) (G_need : FnG P w K mg base (L2.CX P w) 6 a_need d_need ["wish"] (spX ⟨K, w, P⟩ (MM TT) 1 W_need (U_need C_BadWish))) (b_need : Binds K d_need ["wish"] []) (k_need : PySem.W.keepIn K (.ref a_need) = true) : LamG P w K mg base (7) [61, 101, 102, 100, 0, 1, 0, 1] 0 (spX ⟨K, w, P⟩ (MM TT) 1 (fLam 1 (w_lam6)) (fLamX 1 (u_lam6 C_BadWish))) := by
  refine lamX (N := ["odd"]) (ps := []) (hL_lam6 pP) (NdefX.nscope_by (by decide +kernel)) hb_lam6 fun X C A outer s H f E eX hsc hgd hr tk po => ?_
  subst eX
  have nd : (["odd"] : List Str).Nodup := by decide +kernel
  have hu : (A.deeper (NdefX.envF C.nf f s.heap.objs.size)).units + 64 < cLine := hr.units
  obtain ⟨q, params, body, scope, pm, ctv, c, oc, cl, os⟩ := C
  simp only at hsc
  subst hsc
  exact ⟨pd_call mW_need (G_need.left.mono (by decide)) hgd hr (by rfl) g_need k_need b_need (pda_d (pdl_cons (pd_var (pv 0)) (pdl_nil))), px_call tk (mU_need C_BadWish) (G_need.right.mono (by decide)) hgd hr (by rfl) g_need k_need b_need (pda_d (pdl_cons (pd_var (pv 0)) (pdl_nil)))⟩
def w_lam7 : FE := fCall 3 W_least_hold (faD (flCons (fVar 0) (flCons (fC (.int 3)) (flCons (fTup (flNil)) (flNil)))))
def u_lam7 (C_BadWish C_OutOfPlace : Addr) : FX := fxCall 3 (U_least_hold C_BadWish C_OutOfPlace) (faD (flCons (fVar 0) (flCons (fC (.int 3)) (flCons (fTup (flNil)) (flNil)))))
theorem hb_lam7 (q : Str) (cl : List (Str × Addr)) (pm ctv : Value) (c : Addr) (us : List Value) (h : us.length = ([] : List Str).length) : bindArgs (PySem.W.kla_fn "<lambda>" q (eArgs e_lam7) (eBody e_lam7) (eScope e_lam7) cl pm (.ref c) ctv) ⟨us, []⟩ = pure (([] : List Str).zip us) := match us, h with | [], _ => rfl
theorem raw_lam7 {a_least_hold : Addr} {d_least_hold : FuncData} {C_BadWish : Addr} {C_OutOfPlace : Addr} (pP : P = PySem.Challenge.pw_guardkeeps_k09_needs_and_parts_refused) (T : Txt mg) (g_least_hold : mg "least_hold" = some (.ref a_least_hold)) (G_least_hold : FnG P w K mg base (L2.CX P w) 6 a_least_hold d_least_hold ["wish", "ahead", "loose"] (spX ⟨K, w, P⟩ (MM TT) 3 W_least_hold (U_least_hold C_BadWish C_OutOfPlace))) (b_least_hold : Binds K d_least_hold ["wish", "ahead", "loose"] []) (k_least_hold : PySem.W.keepIn K (.ref a_least_hold) = true) : LamG P w K mg base (7) [61, 101, 107, 0, 0, 1] 0 (spX ⟨K, w, P⟩ (MM TT) 1 (fLam 1 (w_lam7)) (fLamX 1 (u_lam7 C_BadWish C_OutOfPlace))) := by
  refine lamX (N := ["want"]) (ps := []) (hL_lam7 pP) (NdefX.nscope_by (by decide +kernel)) hb_lam7 fun X C A outer s H f E eX hsc hgd hr tk po => ?_
  subst eX
  have nd : (["want"] : List Str).Nodup := by decide +kernel
  have hu : (A.deeper (NdefX.envF C.nf f s.heap.objs.size)).units + 64 < cLine := hr.units
  obtain ⟨q, params, body, scope, pm, ctv, c, oc, cl, os⟩ := C
  simp only at hsc
  subst hsc
  exact ⟨pd_call mW_least_hold (G_least_hold.left.mono (by decide)) hgd hr (by rfl) g_least_hold k_least_hold b_least_hold (pda_d (pdl_cons (pd_var (pv 0)) (pdl_cons (pd_int) (pdl_cons (pd_tup (pdl_nil)) (pdl_nil))))), px_call tk (mU_least_hold C_BadWish C_OutOfPlace) (G_least_hold.right.mono (by decide)) hgd hr (by rfl) g_least_hold k_least_hold b_least_hold (pda_d (pdl_cons (pd_var (pv 0)) (pdl_cons (pd_int) (pdl_cons (pd_tup (pdl_nil)) (pdl_nil)))))⟩
theorem ok_lam0 : ∀ ρ k, W_lam0 ρ k → fLam 2 w_lam0 ρ k := fun _ _ h => h.elim
theorem okx_lam0 (C C' : Addr) : ∀ ρ k, U_lam0 C C' ρ k → fLamX 2 (u_lam0 C C') ρ k := by
  rintro ⟨sl, n⟩ k ⟨d, l, e, z⟩
  simp only at e
  subst e
  simp [u_lam0, fLamX, fxCall]
  simp [and_assoc, Rho.set, dropOwn, ftLend, fLend, lendR, frz, ow, nList, -forall_exists_index, fBody, fsSeq, fsIf, fsRet, fsNext, fsDrop, fsAsg, fsNever, fsFor, fsOwn, fsPar2, fsPar3, fsPar_od, fsPar_do, fsPar_oo, fVar, fC, fUn, fOp, fChain, fTup, fLst, fCall, faD, faSt, flCons, flNil, fSl, foSome, foNone, fAnd, fOr, fNot, fIf, fOfN, fn1, fnLst, fnCat, fgN, fgTup, fgCons, fgNil, fiSeq, fiRange1, fiRange2, fiEnumA, fiZip, ftOr, ftAnd, ftNot, ftB, ftT, ftYes, truD_b, truD_i, truD_l, truD_t, truD_n, gIx_t0, gIx_t1, gIx_t2, gSl_t, gSl_l, gIsT, notDict, isT, isN, tyName, gLen_t, gLen_l, gTuple_l, gCmp, gAdd_ii, gAdd_ll, PD.gSub, gNeg, gMod, seqD, forD, wipeR, gEqA, gNeA, gEq_ii, gNe_ii, gEq_tt, gIn_ints, gIn_intsL, gNotIn_ints, gNotIn_intsL, fM0, fM1, fJoined, fJ, flStar, starD, fCall0, gIsTX, noInst_n, noInst_b, noInst_i, noInst_s, noInst_l, noInst_t, fFld, fMeth, fMake, faNil, fsFld, fLendO, fDisp, fpCons, fpNil, fDict0, fiAny, walkD, fiOver, dKeys, dVals, dPairs, fsOwnD, fsPut, fOwnIx, fPop, fsExt, fDc, compK, gInX, gNotInX, gIxX, fGet]
  exact ⟨d, l, rfl, z⟩
theorem ok_lam1 : ∀ ρ k, W_lam1 ρ k → fLam 2 w_lam1 ρ k := fun _ _ h => h.elim
theorem okx_lam1 (C C' : Addr) : ∀ ρ k, U_lam1 C C' ρ k → fLamX 2 (u_lam1 C C') ρ k := by
  rintro ⟨sl, n⟩ k ⟨d, l, e, z⟩
  simp only at e
  subst e
  simp [u_lam1, fLamX, fxCall]
  simp [and_assoc, Rho.set, dropOwn, ftLend, fLend, lendR, frz, ow, nList, -forall_exists_index, fBody, fsSeq, fsIf, fsRet, fsNext, fsDrop, fsAsg, fsNever, fsFor, fsOwn, fsPar2, fsPar3, fsPar_od, fsPar_do, fsPar_oo, fVar, fC, fUn, fOp, fChain, fTup, fLst, fCall, faD, faSt, flCons, flNil, fSl, foSome, foNone, fAnd, fOr, fNot, fIf, fOfN, fn1, fnLst, fnCat, fgN, fgTup, fgCons, fgNil, fiSeq, fiRange1, fiRange2, fiEnumA, fiZip, ftOr, ftAnd, ftNot, ftB, ftT, ftYes, truD_b, truD_i, truD_l, truD_t, truD_n, gIx_t0, gIx_t1, gIx_t2, gSl_t, gSl_l, gIsT, notDict, isT, isN, tyName, gLen_t, gLen_l, gTuple_l, gCmp, gAdd_ii, gAdd_ll, PD.gSub, gNeg, gMod, seqD, forD, wipeR, gEqA, gNeA, gEq_ii, gNe_ii, gEq_tt, gIn_ints, gIn_intsL, gNotIn_ints, gNotIn_intsL, fM0, fM1, fJoined, fJ, flStar, starD, fCall0, gIsTX, noInst_n, noInst_b, noInst_i, noInst_s, noInst_l, noInst_t, fFld, fMeth, fMake, faNil, fsFld, fLendO, fDisp, fpCons, fpNil, fDict0, fiAny, walkD, fiOver, dKeys, dVals, dPairs, fsOwnD, fsPut, fOwnIx, fPop, fsExt, fDc, compK, gInX, gNotInX, gIxX, fGet]
  exact ⟨d, l, rfl, z⟩
theorem ok_lam2 : ∀ ρ k, W_lam2 ρ k → fLam 2 w_lam2 ρ k := fun _ _ h => h.elim
theorem okx_lam2 (C C' : Addr) : ∀ ρ k, U_lam2 C C' ρ k → fLamX 2 (u_lam2 C C') ρ k := by
  rintro ⟨sl, n⟩ k ⟨d, l, e, z⟩
  simp only at e
  subst e
  simp [u_lam2, fLamX, fxCall]
  simp [and_assoc, Rho.set, dropOwn, ftLend, fLend, lendR, frz, ow, nList, -forall_exists_index, fBody, fsSeq, fsIf, fsRet, fsNext, fsDrop, fsAsg, fsNever, fsFor, fsOwn, fsPar2, fsPar3, fsPar_od, fsPar_do, fsPar_oo, fVar, fC, fUn, fOp, fChain, fTup, fLst, fCall, faD, faSt, flCons, flNil, fSl, foSome, foNone, fAnd, fOr, fNot, fIf, fOfN, fn1, fnLst, fnCat, fgN, fgTup, fgCons, fgNil, fiSeq, fiRange1, fiRange2, fiEnumA, fiZip, ftOr, ftAnd, ftNot, ftB, ftT, ftYes, truD_b, truD_i, truD_l, truD_t, truD_n, gIx_t0, gIx_t1, gIx_t2, gSl_t, gSl_l, gIsT, notDict, isT, isN, tyName, gLen_t, gLen_l, gTuple_l, gCmp, gAdd_ii, gAdd_ll, PD.gSub, gNeg, gMod, seqD, forD, wipeR, gEqA, gNeA, gEq_ii, gNe_ii, gEq_tt, gIn_ints, gIn_intsL, gNotIn_ints, gNotIn_intsL, fM0, fM1, fJoined, fJ, flStar, starD, fCall0, gIsTX, noInst_n, noInst_b, noInst_i, noInst_s, noInst_l, noInst_t, fFld, fMeth, fMake, faNil, fsFld, fLendO, fDisp, fpCons, fpNil, fDict0, fiAny, walkD, fiOver, dKeys, dVals, dPairs, fsOwnD, fsPut, fOwnIx, fPop, fsExt, fDc, compK, gInX, gNotInX, gIxX, fGet]
  exact ⟨d, l, rfl, z⟩
theorem ok_lam3 : ∀ ρ k, W_lam3 ρ k → fLam 2 w_lam3 ρ k := by
  rintro ⟨sl, n⟩ k ⟨q, T, G, e, h, z⟩
  simp only at e
  subst e
  simp [w_lam3, fLam]
  simp [and_assoc, Rho.set, dropOwn, ftLend, fLend, lendR, frz, ow, nList, -forall_exists_index, fBody, fsSeq, fsIf, fsRet, fsNext, fsDrop, fsAsg, fsNever, fsFor, fsOwn, fsPar2, fsPar3, fsPar_od, fsPar_do, fsPar_oo, fVar, fC, fUn, fOp, fChain, fTup, fLst, fCall, faD, faSt, flCons, flNil, fSl, foSome, foNone, fAnd, fOr, fNot, fIf, fOfN, fn1, fnLst, fnCat, fgN, fgTup, fgCons, fgNil, fiSeq, fiRange1, fiRange2, fiEnumA, fiZip, ftOr, ftAnd, ftNot, ftB, ftT, ftYes, truD_b, truD_i, truD_l, truD_t, truD_n, gIx_t0, gIx_t1, gIx_t2, gSl_t, gSl_l, gIsT, notDict, isT, isN, tyName, gLen_t, gLen_l, gTuple_l, gCmp, gAdd_ii, gAdd_ll, PD.gSub, gNeg, gMod, seqD, forD, wipeR, gEqA, gNeA, gEq_ii, gNe_ii, gEq_tt, gIn_ints, gIn_intsL, gNotIn_ints, gNotIn_intsL, fM0, fM1, fJoined, fJ, flStar, starD, fCall0, gIsTX, noInst_n, noInst_b, noInst_i, noInst_s, noInst_l, noInst_t, fFld, fMeth, fMake, faNil, fsFld, fLendO, fDisp, fpCons, fpNil, fDict0, fiAny, walkD, fiOver, dKeys, dVals, dPairs, fsOwnD, fsPut, fOwnIx, fPop, fsExt, fDc, compK, gInX, gNotInX, gIxX, fGet]
  exact ⟨q, T, G, rfl, h, z⟩
theorem okx_lam3 (C C' : Addr) : ∀ ρ k, U_lam3 C C' ρ k → fLamX 2 (u_lam3 C C') ρ k := by
  rintro ⟨sl, n⟩ k ⟨d, l, e, z⟩
  simp only at e
  subst e
  simp [u_lam3, fLamX, fxCall]
  simp [and_assoc, Rho.set, dropOwn, ftLend, fLend, lendR, frz, ow, nList, -forall_exists_index, fBody, fsSeq, fsIf, fsRet, fsNext, fsDrop, fsAsg, fsNever, fsFor, fsOwn, fsPar2, fsPar3, fsPar_od, fsPar_do, fsPar_oo, fVar, fC, fUn, fOp, fChain, fTup, fLst, fCall, faD, faSt, flCons, flNil, fSl, foSome, foNone, fAnd, fOr, fNot, fIf, fOfN, fn1, fnLst, fnCat, fgN, fgTup, fgCons, fgNil, fiSeq, fiRange1, fiRange2, fiEnumA, fiZip, ftOr, ftAnd, ftNot, ftB, ftT, ftYes, truD_b, truD_i, truD_l, truD_t, truD_n, gIx_t0, gIx_t1, gIx_t2, gSl_t, gSl_l, gIsT, notDict, isT, isN, tyName, gLen_t, gLen_l, gTuple_l, gCmp, gAdd_ii, gAdd_ll, PD.gSub, gNeg, gMod, seqD, forD, wipeR, gEqA, gNeA, gEq_ii, gNe_ii, gEq_tt, gIn_ints, gIn_intsL, gNotIn_ints, gNotIn_intsL, fM0, fM1, fJoined, fJ, flStar, starD, fCall0, gIsTX, noInst_n, noInst_b, noInst_i, noInst_s, noInst_l, noInst_t, fFld, fMeth, fMake, faNil, fsFld, fLendO, fDisp, fpCons, fpNil, fDict0, fiAny, walkD, fiOver, dKeys, dVals, dPairs, fsOwnD, fsPut, fOwnIx, fPop, fsExt, fDc, compK, gInX, gNotInX, gIxX, fGet]
  exact ⟨d, l, rfl, z⟩
theorem ok_lam4 : ∀ ρ k, W_lam4 ρ k → fLam 3 w_lam4 ρ k := fun _ _ h => h.elim
theorem okx_lam4 (C C' : Addr) : ∀ ρ k, U_lam4 C C' ρ k → fLamX 3 (u_lam4 C C') ρ k := by
  rintro ⟨sl, n⟩ k ⟨d, l, x, e, z⟩
  simp only at e
  subst e
  simp [u_lam4, fLamX, fxCall]
  simp [and_assoc, Rho.set, dropOwn, ftLend, fLend, lendR, frz, ow, nList, -forall_exists_index, fBody, fsSeq, fsIf, fsRet, fsNext, fsDrop, fsAsg, fsNever, fsFor, fsOwn, fsPar2, fsPar3, fsPar_od, fsPar_do, fsPar_oo, fVar, fC, fUn, fOp, fChain, fTup, fLst, fCall, faD, faSt, flCons, flNil, fSl, foSome, foNone, fAnd, fOr, fNot, fIf, fOfN, fn1, fnLst, fnCat, fgN, fgTup, fgCons, fgNil, fiSeq, fiRange1, fiRange2, fiEnumA, fiZip, ftOr, ftAnd, ftNot, ftB, ftT, ftYes, truD_b, truD_i, truD_l, truD_t, truD_n, gIx_t0, gIx_t1, gIx_t2, gSl_t, gSl_l, gIsT, notDict, isT, isN, tyName, gLen_t, gLen_l, gTuple_l, gCmp, gAdd_ii, gAdd_ll, PD.gSub, gNeg, gMod, seqD, forD, wipeR, gEqA, gNeA, gEq_ii, gNe_ii, gEq_tt, gIn_ints, gIn_intsL, gNotIn_ints, gNotIn_intsL, fM0, fM1, fJoined, fJ, flStar, starD, fCall0, gIsTX, noInst_n, noInst_b, noInst_i, noInst_s, noInst_l, noInst_t, fFld, fMeth, fMake, faNil, fsFld, fLendO, fDisp, fpCons, fpNil, fDict0, fiAny, walkD, fiOver, dKeys, dVals, dPairs, fsOwnD, fsPut, fOwnIx, fPop, fsExt, fDc, compK, gInX, gNotInX, gIxX, fGet]
  exact ⟨d, x, l, rfl, z⟩
theorem ok_lam5 : ∀ ρ k, W_lam5 ρ k → fLam 3 w_lam5 ρ k := fun _ _ h => h.elim
theorem okx_lam5 (C C' : Addr) : ∀ ρ k, U_lam5 C C' ρ k → fLamX 3 (u_lam5 C C') ρ k := by
  rintro ⟨sl, n⟩ k ⟨d, l, x, e, z⟩
  simp only at e
  subst e
  simp [u_lam5, fLamX, fxCall]
  simp [and_assoc, Rho.set, dropOwn, ftLend, fLend, lendR, frz, ow, nList, -forall_exists_index, fBody, fsSeq, fsIf, fsRet, fsNext, fsDrop, fsAsg, fsNever, fsFor, fsOwn, fsPar2, fsPar3, fsPar_od, fsPar_do, fsPar_oo, fVar, fC, fUn, fOp, fChain, fTup, fLst, fCall, faD, faSt, flCons, flNil, fSl, foSome, foNone, fAnd, fOr, fNot, fIf, fOfN, fn1, fnLst, fnCat, fgN, fgTup, fgCons, fgNil, fiSeq, fiRange1, fiRange2, fiEnumA, fiZip, ftOr, ftAnd, ftNot, ftB, ftT, ftYes, truD_b, truD_i, truD_l, truD_t, truD_n, gIx_t0, gIx_t1, gIx_t2, gSl_t, gSl_l, gIsT, notDict, isT, isN, tyName, gLen_t, gLen_l, gTuple_l, gCmp, gAdd_ii, gAdd_ll, PD.gSub, gNeg, gMod, seqD, forD, wipeR, gEqA, gNeA, gEq_ii, gNe_ii, gEq_tt, gIn_ints, gIn_intsL, gNotIn_ints, gNotIn_intsL, fM0, fM1, fJoined, fJ, flStar, starD, fCall0, gIsTX, noInst_n, noInst_b, noInst_i, noInst_s, noInst_l, noInst_t, fFld, fMeth, fMake, faNil, fsFld, fLendO, fDisp, fpCons, fpNil, fDict0, fiAny, walkD, fiOver, dKeys, dVals, dPairs, fsOwnD, fsPut, fOwnIx, fPop, fsExt, fDc, compK, gInX, gNotInX, gIxX, fGet]
  exact ⟨d, x, l, rfl, z⟩
theorem ok_lam6 : ∀ ρ k, W_lam6 ρ k → fLam 1 w_lam6 ρ k := fun _ _ h => h.elim
theorem okx_lam6 (C : Addr) : ∀ ρ k, U_lam6 C ρ k → fLamX 1 (u_lam6 C) ρ k := by
  rintro ⟨sl, n⟩ k ⟨d, p, e, z⟩
  simp only at e
  subst e
  simp [u_lam6, fLamX, fxCall]
  simp [and_assoc, Rho.set, dropOwn, ftLend, fLend, lendR, frz, ow, nList, -forall_exists_index, fBody, fsSeq, fsIf, fsRet, fsNext, fsDrop, fsAsg, fsNever, fsFor, fsOwn, fsPar2, fsPar3, fsPar_od, fsPar_do, fsPar_oo, fVar, fC, fUn, fOp, fChain, fTup, fLst, fCall, faD, faSt, flCons, flNil, fSl, foSome, foNone, fAnd, fOr, fNot, fIf, fOfN, fn1, fnLst, fnCat, fgN, fgTup, fgCons, fgNil, fiSeq, fiRange1, fiRange2, fiEnumA, fiZip, ftOr, ftAnd, ftNot, ftB, ftT, ftYes, truD_b, truD_i, truD_l, truD_t, truD_n, gIx_t0, gIx_t1, gIx_t2, gSl_t, gSl_l, gIsT, notDict, isT, isN, tyName, gLen_t, gLen_l, gTuple_l, gCmp, gAdd_ii, gAdd_ll, PD.gSub, gNeg, gMod, seqD, forD, wipeR, gEqA, gNeA, gEq_ii, gNe_ii, gEq_tt, gIn_ints, gIn_intsL, gNotIn_ints, gNotIn_intsL, fM0, fM1, fJoined, fJ, flStar, starD, fCall0, gIsTX, noInst_n, noInst_b, noInst_i, noInst_s, noInst_l, noInst_t, fFld, fMeth, fMake, faNil, fsFld, fLendO, fDisp, fpCons, fpNil, fDict0, fiAny, walkD, fiOver, dKeys, dVals, dPairs, fsOwnD, fsPut, fOwnIx, fPop, fsExt, fDc, compK, gInX, gNotInX, gIxX, fGet]
  exact ⟨d, p, rfl, z⟩
theorem ok_lam7 : ∀ ρ k, W_lam7 ρ k → fLam 1 w_lam7 ρ k := fun _ _ h => h.elim
theorem okx_lam7 (C C' : Addr) : ∀ ρ k, U_lam7 C C' ρ k → fLamX 1 (u_lam7 C C') ρ k := by
  rintro ⟨sl, n⟩ k ⟨q, T, G, e, w, z⟩
  simp only at e
  subst e
  simp [u_lam7, fLamX, fxCall]
  simp [and_assoc, Rho.set, dropOwn, ftLend, fLend, lendR, frz, ow, nList, -forall_exists_index, fBody, fsSeq, fsIf, fsRet, fsNext, fsDrop, fsAsg, fsNever, fsFor, fsOwn, fsPar2, fsPar3, fsPar_od, fsPar_do, fsPar_oo, fVar, fC, fUn, fOp, fChain, fTup, fLst, fCall, faD, faSt, flCons, flNil, fSl, foSome, foNone, fAnd, fOr, fNot, fIf, fOfN, fn1, fnLst, fnCat, fgN, fgTup, fgCons, fgNil, fiSeq, fiRange1, fiRange2, fiEnumA, fiZip, ftOr, ftAnd, ftNot, ftB, ftT, ftYes, truD_b, truD_i, truD_l, truD_t, truD_n, gIx_t0, gIx_t1, gIx_t2, gSl_t, gSl_l, gIsT, notDict, isT, isN, tyName, gLen_t, gLen_l, gTuple_l, gCmp, gAdd_ii, gAdd_ll, PD.gSub, gNeg, gMod, seqD, forD, wipeR, gEqA, gNeA, gEq_ii, gNe_ii, gEq_tt, gIn_ints, gIn_intsL, gNotIn_ints, gNotIn_intsL, fM0, fM1, fJoined, fJ, flStar, starD, fCall0, gIsTX, noInst_n, noInst_b, noInst_i, noInst_s, noInst_l, noInst_t, fFld, fMeth, fMake, faNil, fsFld, fLendO, fDisp, fpCons, fpNil, fDict0, fiAny, walkD, fiOver, dKeys, dVals, dPairs, fsOwnD, fsPut, fOwnIx, fPop, fsExt, fDc, compK, gInX, gNotInX, gIxX, fGet]
  exact ⟨wishD q T G, .int 3, .tuple [], rfl, .inr ⟨q, T, G, rfl, w, rfl, .inl rfl, z⟩⟩
theorem mem0 (C1 C2 : Addr) : (⟨[59, 100, 0, 0], 0, 2, W_lam0, U_lam0 C1 C2⟩ : LReg) ∈ Reg C1 C2 := .head _
theorem mem1 (C1 C2 : Addr) : (⟨[59, 101, 0, 1], 0, 2, W_lam1, U_lam1 C1 C2⟩ : LReg) ∈ Reg C1 C2 := .tail _ (.head _)
theorem mem2 (C1 C2 : Addr) : (⟨[59, 102, 0, 1], 0, 2, W_lam2, U_lam2 C1 C2⟩ : LReg) ∈ Reg C1 C2 := .tail _ (.tail _ (.head _))
theorem mem3 (C1 C2 : Addr) : (⟨[59, 103, 0, 1], 0, 2, W_lam3, U_lam3 C1 C2⟩ : LReg) ∈ Reg C1 C2 := .tail _ (.tail _ (.tail _ (.head _)))
theorem mem4 (C1 C2 : Addr) : (⟨[59, 104, 0, 1], 0, 3, W_lam4, U_lam4 C1 C2⟩ : LReg) ∈ Reg C1 C2 := .tail _ (.tail _ (.tail _ (.tail _ (.head _))))
theorem mem5 (C1 C2 : Addr) : (⟨[59, 105, 0, 1], 0, 3, W_lam5, U_lam5 C1 C2⟩ : LReg) ∈ Reg C1 C2 := .tail _ (.tail _ (.tail _ (.tail _ (.tail _ (.head _)))))
theorem mem6 (C1 C2 : Addr) : (⟨[61, 101, 102, 100, 0, 1, 0, 1], 0, 1, W_lam6, U_lam6 C1⟩ : LReg) ∈ Reg C1 C2 := .tail _ (.tail _ (.tail _ (.tail _ (.tail _ (.tail _ (.head _))))))
theorem mem7 (C1 C2 : Addr) : (⟨[61, 101, 107, 0, 0, 1], 0, 1, W_lam7, U_lam7 C1 C2⟩ : LReg) ∈ Reg C1 C2 := .tail _ (.tail _ (.tail _ (.tail _ (.tail _ (.tail _ (.tail _ (.head _)))))))
abbrev s_law_outcome : Stmt := top 58
theorem sc_law_outcome : FnScope ["call", "found", "e"] ["call"] (defScope s_law_outcome) := ⟨rfl, rfl, rfl, by decide +kernel, rfl, by decide +kernel, by decide +kernel⟩
def w_law_outcome (K : PySem.W.Frag) (C_BadWish : Addr) (C_OutOfPlace : Addr) : FS := fsSeq (fsAsg (fC .none) (fgN 1))
  (fsSeq (fsTry K (fsDrop (fCallV 0 (Reg C_BadWish C_OutOfPlace) faNil)) (fxCallV 0 (Reg C_BadWish C_OutOfPlace) faNil) ((.ref C_BadWish, some 2, fun a cls d => fsAsg (fXf a cls d C_BadWish 2 "part") (fgN 1)) :: (.ref C_OutOfPlace, none, fun a cls d => fsAsg (fC (.str "place")) (fgN 1)) :: []))
  (fsRet (fVar 1)))
theorem raw_law_outcome {f : Addr} {fd : FuncData} {C_BadWish : Addr} {C_OutOfPlace : Addr} (F : Fun K "_law_outcome" "_law_outcome" s_law_outcome f fd) (T : Txt mg) (m_BadWish : mg "BadWish" = some (.ref C_BadWish)) (m_OutOfPlace : mg "OutOfPlace" = some (.ref C_OutOfPlace)) (XT_BadWish : XfC K C_BadWish) (XA_BadWish_part : PySem.W.findIn K (.ref C_BadWish) "part" = some none) (GL : LamsG P w K mg base 9 (MM TT) (Reg C_BadWish C_OutOfPlace)) : FnG P w K mg base (L2.CX P w) (10) f fd ["call"] (spD ⟨K, w, P⟩ (MM TT) 1 (fBody 3 (w_law_outcome K C_BadWish C_OutOfPlace))) := by
  refine fnD F sc_law_outcome fun cdv A outer s H E hgd hr => ?_
  have nd := (sc_law_outcome).nd
  have hu : (A.deeper (envOfC "_law_outcome" (defScope s_law_outcome) s.heap.objs.size f cdv)).units + 64 < cLine := hr.units
  exact pds_cons (pds_asg (pd_non) (pg1_name (i := 1) (pg_name (i := 1) nd rfl (by first | exact Or.inl rfl | exact Or.inr rfl))))
    (pds_cons (pds_try rfl rfl (fun Y W pn xe eY tk po => by subst eY; exact ⟨pds_one (pds_expr (pd_callV0 (GL.mono (by decide)) hgd hr (pv 0))), prs_hd (pr_expr (px_callV0 tk (GL.mono (by decide)) hgd hr (pv 0))) (pds_nil)⟩) (.named (i := 2) ⟨by rfl, by decide, .inl m_BadWish⟩ nd rfl rfl (fun a oe cls d pn hz hf => pds_one (pds_asg (pd_xf XT_BadWish XA_BadWish_part hz hf (pv 2)) (pg1_name (i := 1) (pg_name (i := 1) nd rfl (by first | exact Or.inl rfl | exact Or.inr rfl))))) (.plain ⟨by rfl, by decide, .inl m_OutOfPlace⟩ (fun a oe cls d pn hz hf => pds_one (pds_asg (pd_str) (pg1_name (i := 1) (pg_name (i := 1) nd rfl (by first | exact Or.inl rfl | exact Or.inr rfl))))) (.nil))))
    (pds_one (pds_ret (pd_var (pv 1)))))
theorem regM (C1 C2 : Addr) : ∀ r ∈ Reg C1 C2, r.Mono := by
  refine List.forall_mem_cons.mpr ⟨⟨mW_lam0, mU_lam0 C1 C2⟩, List.forall_mem_cons.mpr ⟨⟨mW_lam1, mU_lam1 C1 C2⟩, List.forall_mem_cons.mpr ⟨⟨mW_lam2, mU_lam2 C1 C2⟩, List.forall_mem_cons.mpr ⟨⟨mW_lam3, mU_lam3 C1 C2⟩, List.forall_mem_cons.mpr ⟨⟨mW_lam4, mU_lam4 C1 C2⟩, List.forall_mem_cons.mpr ⟨⟨mW_lam5, mU_lam5 C1 C2⟩, List.forall_mem_cons.mpr ⟨⟨mW_lam6, mU_lam6 C1⟩, List.forall_mem_cons.mpr ⟨⟨mW_lam7, mU_lam7 C1 C2⟩, fun _ h => nomatch h⟩⟩⟩⟩⟩⟩⟩⟩
theorem ok_law_outcome {K : PySem.W.Frag} {C1 C2 : Addr} (t1 : PySem.W.exmOne K (.ref C1) (.ref C1) = some true) (t2 : PySem.W.exmOne K (.ref C2) (.ref C2) = some true) (t12 : PySem.W.exmOne K (.ref C1) (.ref C2) = some false) (t21 : PySem.W.exmOne K (.ref C2) (.ref C1) = some false) :
    ∀ ρ k, W_law_outcome C1 C2 ρ k → fBody 3 (w_law_outcome K C1 C2) ρ k := by
  rintro ⟨sl, n⟩ k ⟨y, o, e, ⟨r, hr, ds, rfl, h1, h2, h3, h4⟩, z⟩
  simp only at e
  subst e
  have hm := regM _ _ r hr
  have h4 := h4 n
  simp [w_law_outcome, fsTry, fCallV, fxCallV, faNil, ft0]
  simp [and_assoc, Rho.set, dropOwn, ftLend, fLend, lendR, frz, ow, nList, -forall_exists_index, fBody, fsSeq, fsIf, fsRet, fsNext, fsDrop, fsAsg, fsNever, fsFor, fsOwn, fsPar2, fsPar3, fsPar_od, fsPar_do, fsPar_oo, fVar, fC, fUn, fOp, fChain, fTup, fLst, fCall, faD, faSt, flCons, flNil, fSl, foSome, foNone, fAnd, fOr, fNot, fIf, fOfN, fn1, fnLst, fnCat, fgN, fgTup, fgCons, fgNil, fiSeq, fiRange1, fiRange2, fiEnumA, fiZip, ftOr, ftAnd, ftNot, ftB, ftT, ftYes, truD_b, truD_i, truD_l, truD_t, truD_n, gIx_t0, gIx_t1, gIx_t2, gSl_t, gSl_l, gIsT, notDict, isT, isN, tyName, gLen_t, gLen_l, gTuple_l, gCmp, gAdd_ii, gAdd_ll, PD.gSub, gNeg, gMod, seqD, forD, wipeR, gEqA, gNeA, gEq_ii, gNe_ii, gEq_tt, gIn_ints, gIn_intsL, gNotIn_ints, gNotIn_intsL, fM0, fM1, fJoined, fJ, flStar, starD, fCall0, gIsTX, noInst_n, noInst_b, noInst_i, noInst_s, noInst_l, noInst_t, fFld, fMeth, fMake, faNil, fsFld, fLendO, fDisp, fpCons, fpNil, fDict0, fiAny, walkD, fiOver, dKeys, dVals, dPairs, fsOwnD, fsPut, fOwnIx, fPop, fsExt, fDc, compK, gInX, gNotInX, gIxX, fGet]
  rcases h4 with ⟨rfl, hv⟩ | hu
  · refine .inl ⟨⟨r.path, ds, rfl⟩, ds, r, hr, rfl, h1.symm, by simpa using h2, h3, hm.v _ _ _ (fun d ρ' hn => ?_) hv⟩
    have hn : ρ'.n = n := hn
    exact ⟨_, rfl, by rw [hn]; exact z⟩
  · refine .inr ⟨⟨r.path, ds, rfl⟩, ds, r, hr, rfl, h1.symm, by simpa using h2, h3, hm.u _ _ _ (fun c fl ρ' h => ?_) hu⟩
    obtain ⟨hn, h⟩ := h
    have hn : ρ'.n = n := hn
    rcases h with ⟨rfl, p, rfl, rfl⟩ | ⟨rfl, rfl⟩
    · refine ⟨true, t1, fun _ a d => ⟨rfl, _, .str p, rfl, rfl, ?_⟩, fun h => nomatch h⟩
      simp [and_assoc, Rho.set, dropOwn, ftLend, fLend, lendR, frz, ow, nList, -forall_exists_index, fBody, fsSeq, fsIf, fsRet, fsNext, fsDrop, fsAsg, fsNever, fsFor, fsOwn, fsPar2, fsPar3, fsPar_od, fsPar_do, fsPar_oo, fVar, fC, fUn, fOp, fChain, fTup, fLst, fCall, faD, faSt, flCons, flNil, fSl, foSome, foNone, fAnd, fOr, fNot, fIf, fOfN, fn1, fnLst, fnCat, fgN, fgTup, fgCons, fgNil, fiSeq, fiRange1, fiRange2, fiEnumA, fiZip, ftOr, ftAnd, ftNot, ftB, ftT, ftYes, truD_b, truD_i, truD_l, truD_t, truD_n, gIx_t0, gIx_t1, gIx_t2, gSl_t, gSl_l, gIsT, notDict, isT, isN, tyName, gLen_t, gLen_l, gTuple_l, gCmp, gAdd_ii, gAdd_ll, PD.gSub, gNeg, gMod, seqD, forD, wipeR, gEqA, gNeA, gEq_ii, gNe_ii, gEq_tt, gIn_ints, gIn_intsL, gNotIn_ints, gNotIn_intsL, fM0, fM1, fJoined, fJ, flStar, starD, fCall0, gIsTX, noInst_n, noInst_b, noInst_i, noInst_s, noInst_l, noInst_t, fFld, fMeth, fMake, faNil, fsFld, fLendO, fDisp, fpCons, fpNil, fDict0, fiAny, walkD, fiOver, dKeys, dVals, dPairs, fsOwnD, fsPut, fOwnIx, fPop, fsExt, fDc, compK, gInX, gNotInX, gIxX, fGet]
      rw [hn]
      simp [fsUn]
      exact z
    · refine ⟨false, t21, (fun h => nomatch h), fun _ => ⟨true, t2, fun _ a d => ?_, fun h => nomatch h⟩⟩
      simp [and_assoc, Rho.set, dropOwn, ftLend, fLend, lendR, frz, ow, nList, -forall_exists_index, fBody, fsSeq, fsIf, fsRet, fsNext, fsDrop, fsAsg, fsNever, fsFor, fsOwn, fsPar2, fsPar3, fsPar_od, fsPar_do, fsPar_oo, fVar, fC, fUn, fOp, fChain, fTup, fLst, fCall, faD, faSt, flCons, flNil, fSl, foSome, foNone, fAnd, fOr, fNot, fIf, fOfN, fn1, fnLst, fnCat, fgN, fgTup, fgCons, fgNil, fiSeq, fiRange1, fiRange2, fiEnumA, fiZip, ftOr, ftAnd, ftNot, ftB, ftT, ftYes, truD_b, truD_i, truD_l, truD_t, truD_n, gIx_t0, gIx_t1, gIx_t2, gSl_t, gSl_l, gIsT, notDict, isT, isN, tyName, gLen_t, gLen_l, gTuple_l, gCmp, gAdd_ii, gAdd_ll, PD.gSub, gNeg, gMod, seqD, forD, wipeR, gEqA, gNeA, gEq_ii, gNe_ii, gEq_tt, gIn_ints, gIn_intsL, gNotIn_ints, gNotIn_intsL, fM0, fM1, fJoined, fJ, flStar, starD, fCall0, gIsTX, noInst_n, noInst_b, noInst_i, noInst_s, noInst_l, noInst_t, fFld, fMeth, fMake, faNil, fsFld, fLendO, fDisp, fpCons, fpNil, fDict0, fiAny, walkD, fiOver, dKeys, dVals, dPairs, fsOwnD, fsPut, fOwnIx, fPop, fsExt, fDc, compK, gInX, gNotInX, gIxX, fGet]
      rw [hn]
      exact z
abbrev s_law_told : Stmt := top 60
theorem sc_law_told : FnScope ["want", "one", "two", "call"] ["want", "one", "two"] (defScope s_law_told) := ⟨rfl, rfl, rfl, by decide +kernel, rfl, by decide +kernel, by decide +kernel⟩
def w_law_told (C_BadWish : Addr) (C_OutOfPlace : Addr) : FS := fsRet (fOfN (fnComp (fiSeq (fCall 3 W_law_calls (faD (flCons (fVar 0) (flCons (fVar 1) (flCons (fVar 2) (flNil))))))) (fgN 3) (ftYes) (fCall 1 (W_law_outcome C_BadWish C_OutOfPlace) (faD (flCons (fVar 3) (flNil)))) [3]))
theorem raw_law_told {f : Addr} {fd : FuncData} {a_law_outcome : Addr} {d_law_outcome : FuncData} {a_law_calls : Addr} {d_law_calls : FuncData} {C_BadWish : Addr} {C_OutOfPlace : Addr} (F : Fun K "_law_told" "_law_told" s_law_told f fd) (T : Txt mg) (g_law_outcome : mg "_law_outcome" = some (.ref a_law_outcome)) (g_law_calls : mg "_law_calls" = some (.ref a_law_calls)) (G_law_outcome : FnG P w K mg base (L2.CX P w) 10 a_law_outcome d_law_outcome ["call"] (spD ⟨K, w, P⟩ (MM TT) 1 (W_law_outcome C_BadWish C_OutOfPlace))) (b_law_outcome : Binds K d_law_outcome ["call"] []) (k_law_outcome : PySem.W.keepIn K (.ref a_law_outcome) = true) (G_law_calls : FnG P w K mg base (L2.CX P w) 9 a_law_calls d_law_calls ["want", "one", "two"] (spD ⟨K, w, P⟩ (MM TT) 3 W_law_calls)) (b_law_calls : Binds K d_law_calls ["want", "one", "two"] []) (k_law_calls : PySem.W.keepIn K (.ref a_law_calls) = true) : FnG P w K mg base (L2.CX P w) (11) f fd ["want", "one", "two"] (spD ⟨K, w, P⟩ (MM TT) 3 (fBody 4 (w_law_told C_BadWish C_OutOfPlace))) := by
  refine fnD F sc_law_told fun cdv A outer s H E hgd hr => ?_
  have nd := (sc_law_told).nd
  have hu : (A.deeper (envOfC "_law_told" (defScope s_law_told) s.heap.objs.size f cdv)).units + 64 < cLine := hr.units
  exact pds_one (pds_ret (pd_ofN (pn_lc rfl nd (own := [("call", 3)]) (vs := [3]) (pdi_seq (pd_call mW_law_calls (G_law_calls.mono (by decide)) hgd hr (by rfl) g_law_calls k_law_calls b_law_calls (pda_d (pdl_cons (pd_var (pv 0)) (pdl_cons (pd_var (pv 1)) (pdl_cons (pd_var (pv 2)) (pdl_nil))))))) (blkOk_by (own := [("call", 3)]) (N := ["want", "one", "two", "call"]) (sc := defScope s_law_told) (by decide +kernel)) rfl (fun _ _ _ _ _ => pg1_name (i := 3) (pg_name (i := 3) nd rfl (by first | exact Or.inl rfl | exact Or.inr rfl))) (fun _ _ _ _ _ => ptn_nil) (fun _ _ _ _ _ => pd_call (mW_law_outcome C_BadWish C_OutOfPlace) (G_law_outcome.mono (by decide)) hgd hr (by rfl) g_law_outcome k_law_outcome b_law_outcome (pda_d (pdl_cons (pd_var (pv 3)) (pdl_nil)))) s)))
theorem ok_law_told {C1 C2 : Addr} : ∀ ρ k, W_law_told C1 C2 ρ k → fBody 4 (w_law_told C1 C2) ρ k := by
  rintro ⟨sl, n⟩ k ⟨a, b, c, o0, o1, o2, o3, o4, o5, e, h, z⟩
  simp only at e
  subst e
  simp [w_law_told]
  simp [and_assoc, Rho.set, dropOwn, ftLend, fLend, lendR, frz, ow, nList, -forall_exists_index, fBody, fsSeq, fsIf, fsRet, fsNext, fsDrop, fsAsg, fsNever, fsFor, fsOwn, fsPar2, fsPar3, fsPar_od, fsPar_do, fsPar_oo, fVar, fC, fUn, fOp, fChain, fTup, fLst, fCall, faD, faSt, flCons, flNil, fSl, foSome, foNone, fAnd, fOr, fNot, fIf, fOfN, fn1, fnLst, fnCat, fgN, fgTup, fgCons, fgNil, fiSeq, fiRange1, fiRange2, fiEnumA, fiZip, ftOr, ftAnd, ftNot, ftB, ftT, ftYes, truD_b, truD_i, truD_l, truD_t, truD_n, gIx_t0, gIx_t1, gIx_t2, gSl_t, gSl_l, gIsT, notDict, isT, isN, tyName, gLen_t, gLen_l, gTuple_l, gCmp, gAdd_ii, gAdd_ll, PD.gSub, gNeg, gMod, seqD, forD, wipeR, gEqA, gNeA, gEq_ii, gNe_ii, gEq_tt, gIn_ints, gIn_intsL, gNotIn_ints, gNotIn_intsL, fM0, fM1, fJoined, fJ, flStar, starD, fCall0, gIsTX, noInst_n, noInst_b, noInst_i, noInst_s, noInst_l, noInst_t, fFld, fMeth, fMake, faNil, fsFld, fLendO, fDisp, fpCons, fpNil, fDict0, fiAny, walkD, fiOver, dKeys, dVals, dPairs, fsOwnD, fsPut, fOwnIx, fPop, fsExt, fDc, compK, gInX, gNotInX, gIxX, fGet]
  refine fnComp_i ?_
  simp [and_assoc, Rho.set, dropOwn, ftLend, fLend, lendR, frz, ow, nList, -forall_exists_index, fBody, fsSeq, fsIf, fsRet, fsNext, fsDrop, fsAsg, fsNever, fsFor, fsOwn, fsPar2, fsPar3, fsPar_od, fsPar_do, fsPar_oo, fVar, fC, fUn, fOp, fChain, fTup, fLst, fCall, faD, faSt, flCons, flNil, fSl, foSome, foNone, fAnd, fOr, fNot, fIf, fOfN, fn1, fnLst, fnCat, fgN, fgTup, fgCons, fgNil, fiSeq, fiRange1, fiRange2, fiEnumA, fiZip, ftOr, ftAnd, ftNot, ftB, ftT, ftYes, truD_b, truD_i, truD_l, truD_t, truD_n, gIx_t0, gIx_t1, gIx_t2, gSl_t, gSl_l, gIsT, notDict, isT, isN, tyName, gLen_t, gLen_l, gTuple_l, gCmp, gAdd_ii, gAdd_ll, PD.gSub, gNeg, gMod, seqD, forD, wipeR, gEqA, gNeA, gEq_ii, gNe_ii, gEq_tt, gIn_ints, gIn_intsL, gNotIn_ints, gNotIn_intsL, fM0, fM1, fJoined, fJ, flStar, starD, fCall0, gIsTX, noInst_n, noInst_b, noInst_i, noInst_s, noInst_l, noInst_t, fFld, fMeth, fMake, faNil, fsFld, fLendO, fDisp, fpCons, fpNil, fDict0, fiAny, walkD, fiOver, dKeys, dVals, dPairs, fsOwnD, fsPut, fOwnIx, fPop, fsExt, fDc, compK, gInX, gNotInX, gIxX, fGet]
  refine ⟨a, b, c, rfl, _, rfl, by simp [callsL], ?_⟩
  refine comp_all Prod.fst Prod.snd ((callsL a b c).zip [o0, o1, o2, o3, o4, o5]) (fun x hx kt h' => ?_) z
  simp [and_assoc, Rho.set, dropOwn, ftLend, fLend, lendR, frz, ow, nList, -forall_exists_index, fBody, fsSeq, fsIf, fsRet, fsNext, fsDrop, fsAsg, fsNever, fsFor, fsOwn, fsPar2, fsPar3, fsPar_od, fsPar_do, fsPar_oo, fVar, fC, fUn, fOp, fChain, fTup, fLst, fCall, faD, faSt, flCons, flNil, fSl, foSome, foNone, fAnd, fOr, fNot, fIf, fOfN, fn1, fnLst, fnCat, fgN, fgTup, fgCons, fgNil, fiSeq, fiRange1, fiRange2, fiEnumA, fiZip, ftOr, ftAnd, ftNot, ftB, ftT, ftYes, truD_b, truD_i, truD_l, truD_t, truD_n, gIx_t0, gIx_t1, gIx_t2, gSl_t, gSl_l, gIsT, notDict, isT, isN, tyName, gLen_t, gLen_l, gTuple_l, gCmp, gAdd_ii, gAdd_ll, PD.gSub, gNeg, gMod, seqD, forD, wipeR, gEqA, gNeA, gEq_ii, gNe_ii, gEq_tt, gIn_ints, gIn_intsL, gNotIn_ints, gNotIn_intsL, fM0, fM1, fJoined, fJ, flStar, starD, fCall0, gIsTX, noInst_n, noInst_b, noInst_i, noInst_s, noInst_l, noInst_t, fFld, fMeth, fMake, faNil, fsFld, fLendO, fDisp, fpCons, fpNil, fDict0, fiAny, walkD, fiOver, dKeys, dVals, dPairs, fsOwnD, fsPut, fOwnIx, fPop, fsExt, fDc, compK, gInX, gNotInX, gIxX, fGet]
  exact ⟨x.1, x.2, rfl, h x hx, h' _ rfl⟩
theorem noCs_all {κ : Nat} : ∀ {l : List D}, (∀ x ∈ l, noC κ x = true) → noCs κ l = true
  | [], _ => rfl
  | x :: l, h => by
    unfold noCs
    rw [h x List.mem_cons_self, noCs_all fun y hy => h y (List.mem_cons_of_mem _ hy)]
    rfl
theorem noC_tupI {κ : Nat} (ns : List Int) : noC κ (tupI ns) = true := noCs_all fun x hx => by
  obtain ⟨i, _, rfl⟩ := List.mem_map.mp hx
  rfl
theorem noC_tupT {κ : Nat} (T : List (List Int)) : noC κ (tupT T) = true := noCs_all fun x hx => by
  obtain ⟨i, _, rfl⟩ := List.mem_map.mp hx
  exact noC_tupI i
theorem noC_wish {κ : Nat} (q : Int) (T : List (List Int)) (G : List Int) : noC κ (wishD q T G) = true := by
  show (true && (noC κ (tupT T) && (noC κ (tupI G) && true))) = true
  rw [noC_tupT, noC_tupI]
  rfl
abbrev Post1 (C1 C2 : Addr) (n : Nat) (o : D) : XC := fun c fl ρ' => ρ'.n = n ∧ ((c = .ref C1 ∧ ∃ p : Str, fl = [(.str "part", .str p)] ∧ o = .str p) ∨ (c = .ref C2 ∧ o = .str "place"))
theorem all2 {κ : Nat} {a b : D} (ha : noC κ a = true) (hb : noC κ b = true) : (([a, b] : List D).map Sl.d).all (okC κ) = true := by
  show (noC κ a && (noC κ b && true)) = true
  rw [ha, hb]
  rfl
theorem all3 {κ : Nat} {a b c : D} (ha : noC κ a = true) (hb : noC κ b = true) (hc : noC κ c = true) : (([a, b, c] : List D).map Sl.d).all (okC κ) = true := by
  show (noC κ a && (noC κ b && (noC κ c && true))) = true
  rw [ha, hb, hc]
  rfl
theorem tell {C1 C2 : Addr} {a b c o s3 s4 s5 : D} (ha : noC 59 a = true) (hb : noC 59 b = true) (hc : noC 59 c = true) (h : ∀ n, U_need_both C1 C2 ⟨[.d a, .d b], n⟩ (Post1 C1 C2 n o)) (h3 : ∀ n, Out C1 C2 ⟨[59, 103, 0, 1], 0, 2, W_lam3, U_lam3 C1 C2⟩ [a, c] n s3)
    (h4 : ∀ n, U_lam4 C1 C2 ⟨[.d a, .d c, .d b], n⟩ (Post1 C1 C2 n s4)) (h5 : ∀ n, U_lam5 C1 C2 ⟨[.d a, .d c, .d b], n⟩ (Post1 C1 C2 n s5)) :
    ∀ x ∈ (callsL a b c).zip [o, o, o, s3, s4, s5], OutOk C1 C2 x.1 x.2 := by
  refine List.forall_mem_cons.mpr ⟨⟨_, mem0 C1 C2, [a, b], rfl, rfl, rfl, all2 ha hb, fun n => .inr (h n)⟩, List.forall_mem_cons.mpr ⟨⟨_, mem1 C1 C2, [a, b], rfl, rfl, rfl, all2 ha hb, fun n => .inr (h n)⟩, List.forall_mem_cons.mpr ⟨⟨_, mem2 C1 C2, [a, b], rfl, rfl, rfl, all2 ha hb, fun n => .inr (h n)⟩,
    List.forall_mem_cons.mpr ⟨⟨_, mem3 C1 C2, [a, c], rfl, rfl, rfl, all2 ha hc, h3⟩, List.forall_mem_cons.mpr ⟨⟨_, mem4 C1 C2, [a, c, b], rfl, rfl, rfl, all3 ha hc hb, fun n => .inr (h4 n)⟩, List.forall_mem_cons.mpr ⟨⟨_, mem5 C1 C2, [a, c, b], rfl, rfl, rfl, all3 ha hc hb, fun n => .inr (h5 n)⟩, fun _ h => absurd h List.not_mem_nil⟩⟩⟩⟩⟩⟩
/-- a bad wish first -/
theorem tellA {C1 C2 : Addr} {a : D} {p : Str} (ha : noC 59 a = true) (h1 : okW a) (h2 : wishErr a = some p) : ∀ x ∈ (callsL a .none .none).zip [.str p, .str p, .str p, .str p, .str p, .str p], OutOk C1 C2 x.1 x.2 :=
  tell ha rfl rfl (fun n => ⟨a, .none, rfl, .inl ⟨h1, p, h2, rfl, .inl ⟨rfl, p, rfl, rfl⟩⟩⟩) (fun n => .inr ⟨a, .none, rfl, .inl ⟨h1, p, h2, rfl, .inl ⟨rfl, p, rfl, rfl⟩⟩⟩)
    (fun n => ⟨a, .none, .none, rfl, .inl ⟨h1, p, h2, rfl, .inl ⟨rfl, p, rfl, rfl⟩⟩⟩) (fun n => ⟨a, .none, .none, rfl, .inl ⟨h1, p, h2, rfl, .inl ⟨rfl, p, rfl, rfl⟩⟩⟩)
section
variable {C1 C2 : Addr} {q : Int} {T : List (List Int)} {G : List Int}
/-- a good wish first, another thing, nothing good loose -/
theorem tellW (w : WOK q T G) {b c o : D} (hb : noC 59 b = true) (hc : noC 59 c = true) (h : ∀ n, U_need_both C1 C2 ⟨[.d (wishD q T G), .d b], n⟩ (Post1 C1 C2 n o)) (hi : noInst b = true) (h4 : intB b 0 2 = false ∨ intB b 0 2 = true ∧ okD c ∧ ascB c q = false) (h5 : intB b 0 3 = false ∨ intB b 0 3 = true ∧ okD c ∧ ascB c q = false)
    (hk : okD c ∧ ascB c q = false) : ∀ x ∈ (callsL (wishD q T G) b c).zip [o, o, o, .str "place", .str "place", .str "place"], OutOk C1 C2 x.1 x.2 :=
  tell (noC_wish q T G) hb hc h (fun n => .inr ⟨wishD q T G, c, rfl, .inr ⟨q, T, G, rfl, w, hk.1, hk.2, rfl, .inr ⟨rfl, rfl⟩⟩⟩)
    (fun n => ⟨wishD q T G, c, b, rfl, .inr ⟨q, T, G, rfl, w, hi, h4, rfl, .inr ⟨rfl, rfl⟩⟩⟩) (fun n => ⟨wishD q T G, c, b, rfl, .inr ⟨q, T, G, rfl, w, hi, h5, rfl, .inr ⟨rfl, rfl⟩⟩⟩)
/-- nothing loose at all -/
theorem tellE (w : WOK q T G) {b o : D} (hb : noC 59 b = true) (h : ∀ n, U_need_both C1 C2 ⟨[.d (wishD q T G), .d b], n⟩ (Post1 C1 C2 n o)) (hi : noInst b = true) (h4 : intB b 0 2 = false) (h5 : intB b 0 3 = false) :
    ∀ x ∈ (callsL (wishD q T G) b (.tuple [])).zip [o, o, o, .none, .str "place", .str "place"], OutOk C1 C2 x.1 x.2 :=
  tell (noC_wish q T G) hb rfl h (fun n => .inl ⟨rfl, q, T, G, rfl, w, fun d => rfl⟩)
    (fun n => ⟨wishD q T G, .tuple [], b, rfl, .inr ⟨q, T, G, rfl, w, hi, .inl h4, rfl, .inr ⟨rfl, rfl⟩⟩⟩) (fun n => ⟨wishD q T G, .tuple [], b, rfl, .inr ⟨q, T, G, rfl, w, hi, .inl h5, rfl, .inr ⟨rfl, rfl⟩⟩⟩)
theorem two_bad (w : WOK q T G) {b : D} {p : Str} (h1 : okW b) (h2 : wishErr b = some p) (n : Nat) : U_need_both C1 C2 ⟨[.d (wishD q T G), .d b], n⟩ (Post1 C1 C2 n (.str p)) :=
  ⟨wishD q T G, b, rfl, .inr ⟨q, T, G, rfl, w, .inl ⟨h1, p, h2, rfl, .inl ⟨rfl, p, rfl, rfl⟩⟩⟩⟩
theorem two_wide (w : WOK q T G) {q' : Int} {T' : List (List Int)} {G' : List Int} (w' : WOK q' T' G') (h : q ≠ q') (n : Nat) : U_need_both C1 C2 ⟨[.d (wishD q T G), .d (wishD q' T' G')], n⟩ (Post1 C1 C2 n (.str "place")) :=
  ⟨wishD q T G, _, rfl, .inr ⟨q, T, G, rfl, w, .inr ⟨q', T', G', rfl, w', h, rfl, .inr ⟨rfl, rfl⟩⟩⟩⟩
end
theorem loop_2 {C1 C2 : Addr} {q : Int} {T : List (List Int)} {G : List Int} (w : WOK q T G) {s0 s1 s2 s4 s6 s7 : Sl} {n : Nat} {P : Post} : ∀ (l : List D) (a : Sl), (∀ x ∈ l, okD x ∧ ascB x q = false ∧ noC 59 x = true) → (∀ a, P.nx ⟨[s0, s1, s2, .d (wishD q T G), s4, a, s6, s7], n⟩) →
    forD (fgN 5) (b_law_2 C1 C2) l ⟨[s0, s1, s2, .d (wishD q T G), s4, a, s6, s7], n⟩ P := by
  intro l
  induction l with
  | nil => intro a _ h; exact h a
  | cons x l ih =>
    intro a hl h
    obtain ⟨h1, h2, h3⟩ := hl x List.mem_cons_self
    unfold forD
    simp [b_law_2]
    simp [and_assoc, Rho.set, dropOwn, ftLend, fLend, lendR, frz, ow, nList, -forall_exists_index, fBody, fsSeq, fsIf, fsRet, fsNext, fsDrop, fsAsg, fsNever, fsFor, fsOwn, fsPar2, fsPar3, fsPar_od, fsPar_do, fsPar_oo, fVar, fC, fUn, fOp, fChain, fTup, fLst, fCall, faD, faSt, flCons, flNil, fSl, foSome, foNone, fAnd, fOr, fNot, fIf, fOfN, fn1, fnLst, fnCat, fgN, fgTup, fgCons, fgNil, fiSeq, fiRange1, fiRange2, fiEnumA, fiZip, ftOr, ftAnd, ftNot, ftB, ftT, ftYes, truD_b, truD_i, truD_l, truD_t, truD_n, gIx_t0, gIx_t1, gIx_t2, gSl_t, gSl_l, gIsT, notDict, isT, isN, tyName, gLen_t, gLen_l, gTuple_l, gCmp, gAdd_ii, gAdd_ll, PD.gSub, gNeg, gMod, seqD, forD, wipeR, gEqA, gNeA, gEq_ii, gNe_ii, gEq_tt, gIn_ints, gIn_intsL, gNotIn_ints, gNotIn_intsL, fM0, fM1, fJoined, fJ, flStar, starD, fCall0, gIsTX, noInst_n, noInst_b, noInst_i, noInst_s, noInst_l, noInst_t, fFld, fMeth, fMake, faNil, fsFld, fLendO, fDisp, fpCons, fpNil, fDict0, fiAny, walkD, fiOver, dKeys, dVals, dPairs, fsOwnD, fsPut, fOwnIx, fPop, fsExt, fDc, compK, gInX, gNotInX, gIxX, fGet]
    refine ⟨wishD q T G, .int 0, x, _, _, _, _, _, _, rfl, tellW w rfl h3 (two_bad w (b := .int 0) (p := "form") rfl rfl) rfl (.inr ⟨rfl, h1, h2⟩) (.inr ⟨rfl, h1, h2⟩) ⟨h1, h2⟩, ?_⟩
    exact ⟨.list [.str "place", .str "place", .str "place"], rfl, _, rfl, .bool false, gNe_self (d := .list [.str "place", .str "place", .str "place"]) (by decide +kernel) (by decide +kernel), .inl ⟨rfl, ih _ (fun z hz => hl z (List.mem_cons_of_mem _ hz)) h⟩⟩
theorem loop_3 {C1 C2 : Addr} {q : Int} {T : List (List Int)} {G : List Int} (w : WOK q T G) {s0 s1 s2 s4 s6 s7 : Sl} {n : Nat} {P : Post} : ∀ (l : List D) (a : Sl), (∀ x ∈ l, okW x ∧ wishErr x = some "form" ∧ intB x 0 2 = false ∧ intB x 0 3 = false ∧ noC 59 x = true) → (∀ a, P.nx ⟨[s0, s1, s2, .d (wishD q T G), s4, a, s6, s7], n⟩) →
    forD (fgN 5) (b_law_3 C1 C2) l ⟨[s0, s1, s2, .d (wishD q T G), s4, a, s6, s7], n⟩ P := by
  intro l
  induction l with
  | nil => intro a _ h; exact h a
  | cons x l ih =>
    intro a hl h
    obtain ⟨h1, h2, h3, h4, h5⟩ := hl x List.mem_cons_self
    unfold forD
    simp [b_law_3]
    simp [and_assoc, Rho.set, dropOwn, ftLend, fLend, lendR, frz, ow, nList, -forall_exists_index, fBody, fsSeq, fsIf, fsRet, fsNext, fsDrop, fsAsg, fsNever, fsFor, fsOwn, fsPar2, fsPar3, fsPar_od, fsPar_do, fsPar_oo, fVar, fC, fUn, fOp, fChain, fTup, fLst, fCall, faD, faSt, flCons, flNil, fSl, foSome, foNone, fAnd, fOr, fNot, fIf, fOfN, fn1, fnLst, fnCat, fgN, fgTup, fgCons, fgNil, fiSeq, fiRange1, fiRange2, fiEnumA, fiZip, ftOr, ftAnd, ftNot, ftB, ftT, ftYes, truD_b, truD_i, truD_l, truD_t, truD_n, gIx_t0, gIx_t1, gIx_t2, gSl_t, gSl_l, gIsT, notDict, isT, isN, tyName, gLen_t, gLen_l, gTuple_l, gCmp, gAdd_ii, gAdd_ll, PD.gSub, gNeg, gMod, seqD, forD, wipeR, gEqA, gNeA, gEq_ii, gNe_ii, gEq_tt, gIn_ints, gIn_intsL, gNotIn_ints, gNotIn_intsL, fM0, fM1, fJoined, fJ, flStar, starD, fCall0, gIsTX, noInst_n, noInst_b, noInst_i, noInst_s, noInst_l, noInst_t, fFld, fMeth, fMake, faNil, fsFld, fLendO, fDisp, fpCons, fpNil, fDict0, fiAny, walkD, fiOver, dKeys, dVals, dPairs, fsOwnD, fsPut, fOwnIx, fPop, fsExt, fDc, compK, gInX, gNotInX, gIxX, fGet]
    refine ⟨wishD q T G, x, .tuple [], _, _, _, _, _, _, rfl, tellE w h5 (two_bad w h1 h2) (okW_no h1) h3 h4, ?_⟩
    exact ⟨.list [.str "place", .str "place"], rfl, _, rfl, .bool false, gNe_self (d := .list [.str "place", .str "place"]) (by decide +kernel) (by decide +kernel), .inl ⟨rfl, ih _ (fun z hz => hl z (List.mem_cons_of_mem _ hz)) h⟩⟩
abbrev pairD (x : D × Str) : D := .tuple [x.1, .str x.2]
theorem loop_1 {C1 C2 : Addr} {q : Int} {T : List (List Int)} {G : List Int} (w : WOK q T G) {s0 s1 s2 s4 s7 : Sl} {n : Nat} {P : Post} : ∀ (l : List (D × Str)) (a b : Sl), (∀ x ∈ l, okW x.1 ∧ wishErr x.1 = some x.2 ∧ noC 59 x.1 = true ∧ noC 61 x.1 = true ∧ PyData.strOk x.2 = true ∧ intB x.1 0 2 = false ∧ intB x.1 0 3 = false) → (∀ a b, P.nx ⟨[s0, s1, s2, .d (wishD q T G), s4, a, b, s7], n⟩) →
    forD (fgTup 2 (fgCons (fgN 5) (fgCons (fgN 6) (fgNil)))) (b_law_1 C1 C2) (l.map pairD) ⟨[s0, s1, s2, .d (wishD q T G), s4, a, b, s7], n⟩ P := by
  intro l
  induction l with
  | nil => intro a b _ h; exact h a b
  | cons x l ih =>
    intro a b hl h
    obtain ⟨h1, h2, h3, h4, h5, h6, h7⟩ := hl x List.mem_cons_self
    have ht6 : tame (.list [.str x.2, .str x.2, .str x.2, .str x.2, .str x.2, .str x.2]) = true := by simp [tame, tameAll, h5]
    have hd6 : (PyData.list [.str x.2, .str x.2, .str x.2, .str x.2, .str x.2, .str x.2]).depth ≤ 60 := by simp [PyData.depth, PyData.depthAll]
    have ht3 : tame (.list [.str x.2, .str x.2, .str x.2]) = true := by simp [tame, tameAll, h5]
    have hd3 : (PyData.list [.str x.2, .str x.2, .str x.2]).depth ≤ 60 := by simp [PyData.depth, PyData.depthAll]
    rw [List.map_cons]
    unfold forD
    simp [b_law_1]
    simp [and_assoc, Rho.set, dropOwn, ftLend, fLend, lendR, frz, ow, nList, -forall_exists_index, fBody, fsSeq, fsIf, fsRet, fsNext, fsDrop, fsAsg, fsNever, fsFor, fsOwn, fsPar2, fsPar3, fsPar_od, fsPar_do, fsPar_oo, fVar, fC, fUn, fOp, fChain, fTup, fLst, fCall, faD, faSt, flCons, flNil, fSl, foSome, foNone, fAnd, fOr, fNot, fIf, fOfN, fn1, fnLst, fnCat, fgN, fgTup, fgCons, fgNil, fiSeq, fiRange1, fiRange2, fiEnumA, fiZip, ftOr, ftAnd, ftNot, ftB, ftT, ftYes, truD_b, truD_i, truD_l, truD_t, truD_n, gIx_t0, gIx_t1, gIx_t2, gSl_t, gSl_l, gIsT, notDict, isT, isN, tyName, gLen_t, gLen_l, gTuple_l, gCmp, gAdd_ii, gAdd_ll, PD.gSub, gNeg, gMod, seqD, forD, wipeR, gEqA, gNeA, gEq_ii, gNe_ii, gEq_tt, gIn_ints, gIn_intsL, gNotIn_ints, gNotIn_intsL, fM0, fM1, fJoined, fJ, flStar, starD, fCall0, gIsTX, noInst_n, noInst_b, noInst_i, noInst_s, noInst_l, noInst_t, fFld, fMeth, fMake, faNil, fsFld, fLendO, fDisp, fpCons, fpNil, fDict0, fiAny, walkD, fiOver, dKeys, dVals, dPairs, fsOwnD, fsPut, fOwnIx, fPop, fsExt, fDc, compK, gInX, gNotInX, gIxX, fGet]
    refine ⟨x.1, .none, .none, _, _, _, _, _, _, rfl, tellA h3 h1 h2, ?_⟩
    have ok1 : (([x.1] : List D).map Sl.d).all (okC 61) = true := by show (noC 61 x.1 && true) = true; rw [h4]; rfl
    have es : (match (PyData.str x.2 : D), (PyData.str x.2 : D) with
        | .str a, .str b => some (PyData.bool !decide (a = b))
        | x, y => gNe x y) = some (.bool false) := by simp
    refine ⟨_, rfl, .bool false, gNe_self ht6 hd6, .inl ⟨rfl, [x.1], rfl, rfl, cloD [61, 101, 102, 100, 0, 1, 0, 1] [x.1], .str x.2, rfl, ⟨_, mem6 C1 C2, [x.1], rfl, rfl, rfl, ok1, fun n => .inr ⟨x.1, x.2, rfl, h1, h2, rfl, .inl ⟨rfl, x.2, rfl, rfl⟩⟩⟩, rfl, .str x.2, rfl, .bool false, es, .inl ⟨rfl, wishD q T G, rfl, x.1, rfl, wishD q T G, x.1, .none, _, _, _, _, _, _, rfl, tellW w h3 rfl (two_bad w h1 h2) (okW_no h1) (.inl h6) (.inl h7) ⟨rfl, rfl⟩, .list [.str x.2, .str x.2, .str x.2], rfl, .str x.2, rfl, _, rfl, .bool false, gNe_self ht3 hd3, .inl ⟨rfl, ih _ _ (fun z hz => hl z (List.mem_cons_of_mem _ hz)) h⟩⟩⟩⟩
def odds4 (q : Int) (T : List (List Int)) : List (D × Str) := [(.none, "form"), (.tuple [.int 0, .tuple [], .tuple []], "deeds"), (.tuple [.int q, .tuple [], .tuple []], "steps"), (.tuple [.int q, tupT T, .tuple []], "good")]
theorem turn_2 {q : Int} {T : List (List Int)} {G : List Int} {s0 s1 s2 s4 s5 s6 s7 : Sl} {n : Nat} {P : Post} (z : P.nx ⟨[s0, s1, s2, .d (wishD q T G), .d (.list ((odds4 q T).map pairD)), s5, s6, s7], n⟩) :
    fsAsg (fLst (flCons (fTup (flCons (fC .none) (flCons (fC (.str "form")) (flNil)))) (flCons (fTup (flCons (fTup (flCons (fC (.int 0)) (flCons (fTup (flNil)) (flCons (fTup (flNil)) (flNil))))) (flCons (fC (.str "deeds")) (flNil)))) (flCons (fTup (flCons (fOp gAdd (fSl gSl (fVar 3) (foNone) (foSome (fC (.int 1)))) (fTup (flCons (fTup (flNil)) (flCons (fTup (flNil)) (flNil))))) (flCons (fC (.str "steps")) (flNil)))) (flCons (fTup (flCons (fOp gAdd (fSl gSl (fVar 3) (foNone) (foSome (fC (.int 2)))) (fTup (flCons (fTup (flNil)) (flNil)))) (flCons (fC (.str "good")) (flNil)))) (flNil)))))) (fgN 4)
      ⟨[s0, s1, s2, .d (wishD q T G), s4, s5, s6, s7], n⟩ P := by
  simp [and_assoc, Rho.set, dropOwn, ftLend, fLend, lendR, frz, ow, nList, -forall_exists_index, fBody, fsSeq, fsIf, fsRet, fsNext, fsDrop, fsAsg, fsNever, fsFor, fsOwn, fsPar2, fsPar3, fsPar_od, fsPar_do, fsPar_oo, fVar, fC, fUn, fOp, fChain, fTup, fLst, fCall, faD, faSt, flCons, flNil, fSl, foSome, foNone, fAnd, fOr, fNot, fIf, fOfN, fn1, fnLst, fnCat, fgN, fgTup, fgCons, fgNil, fiSeq, fiRange1, fiRange2, fiEnumA, fiZip, ftOr, ftAnd, ftNot, ftB, ftT, ftYes, truD_b, truD_i, truD_l, truD_t, truD_n, gIx_t0, gIx_t1, gIx_t2, gSl_t, gSl_l, gIsT, notDict, isT, isN, tyName, gLen_t, gLen_l, gTuple_l, gCmp, gAdd_ii, gAdd_ll, PD.gSub, gNeg, gMod, seqD, forD, wipeR, gEqA, gNeA, gEq_ii, gNe_ii, gEq_tt, gIn_ints, gIn_intsL, gNotIn_ints, gNotIn_intsL, fM0, fM1, fJoined, fJ, flStar, starD, fCall0, gIsTX, noInst_n, noInst_b, noInst_i, noInst_s, noInst_l, noInst_t, fFld, fMeth, fMake, faNil, fsFld, fLendO, fDisp, fpCons, fpNil, fDict0, fiAny, walkD, fiOver, dKeys, dVals, dPairs, fsOwnD, fsPut, fOwnIx, fPop, fsExt, fDc, compK, gInX, gNotInX, gIxX, fGet]
  refine ⟨.tuple [.int q], rfl, .tuple [.int q, .tuple [], .tuple []], ?_, .tuple [.int q, tupT T], rfl, .tuple [.int q, tupT T, .tuple []], ?_, z⟩
  · show (if ([.int q] : List D).length + ([.tuple [], .tuple []] : List D).length ≤ sizeLine then some (PyData.tuple _) else none) = _
    rw [if_pos (by simp [sizeLine_eq])]
    rfl
  · show (if ([.int q, tupT T] : List D).length + ([.tuple []] : List D).length ≤ sizeLine then some (PyData.tuple _) else none) = _
    rw [if_pos (by simp [sizeLine_eq])]
    rfl
theorem odds4_ok {q : Int} {T : List (List Int)} {G : List Int} (w : WOK q T G) : ∀ x ∈ odds4 q T, okW x.1 ∧ wishErr x.1 = some x.2 ∧ noC 59 x.1 = true ∧ noC 61 x.1 = true ∧ PyData.strOk x.2 = true ∧ intB x.1 0 2 = false ∧ intB x.1 0 3 = false := by
  have f1 : PyData.strOk "form" = true := by decide +kernel
  have f2 : PyData.strOk "deeds" = true := by decide +kernel
  have f3 : PyData.strOk "steps" = true := by decide +kernel
  have f4 : PyData.strOk "good" = true := by decide +kernel
  have o0 : okD (.tuple []) := ⟨by decide, fun x hx => absurd hx List.not_mem_nil⟩
  have o2 : okD2 (.tuple []) := ⟨by decide, fun x hx => absurd hx List.not_mem_nil⟩
  have wq : intB (.int q) 1 4 = true := decide_eq_true ⟨by have := w.q1; omega, w.q1, w.q4⟩
  have nT : ∀ κ, noC κ (.tuple [.int q, tupT T, .tuple []]) = true := fun κ => by show (true && (noC κ (tupT T) && (true && true))) = true; rw [noC_tupT]; rfl
  refine List.forall_mem_cons.mpr ⟨⟨rfl, rfl, rfl, rfl, f1, rfl, rfl⟩, List.forall_mem_cons.mpr ⟨⟨⟨rfl, o2, o0⟩, rfl, rfl, rfl, f2, rfl, rfl⟩, List.forall_mem_cons.mpr ⟨⟨⟨rfl, o2, o0⟩, ?_, rfl, rfl, f3, rfl, rfl⟩, List.forall_mem_cons.mpr ⟨⟨⟨rfl, okD2_T w, o0⟩, ?_, nT 59, nT 61, f4, rfl, rfl⟩, fun _ h => absurd h List.not_mem_nil⟩⟩⟩⟩
  · show wishErr3 (.int q) (.tuple []) (.tuple []) = _
    unfold wishErr3
    rw [if_pos wq]
    rfl
  · show wishErr3 (.int q) (tupT T) (.tuple []) = _
    unfold wishErr3
    have e : stepsB (tupT T) (intOfD (.int q)) = true := stepsB_yes w
    rw [if_pos wq, if_pos e, if_neg fun z => absurd z.2 List.not_mem_nil]
theorem turn_1 {s0 s2 s3 s4 s5 s6 s7 : Sl} {n : Nat} {P : Post} (hn : n + 1000 ≤ 800000000000) (z : ∀ q T G n1, WOK q T G → q ≤ 3 → n1 ≤ n + 100 → P.nx ⟨[s0, .st, s2, .d (wishD q T G), s4, s5, s6, s7], n1⟩) :
    fsAsg (fCall 3 W_law_want (faSt 1 (flCons (fC (.int 3)) (flCons (fC (.int 4)) (flNil))))) (fgN 3) ⟨[s0, .st, s2, s3, s4, s5, s6, s7], n⟩ P := by
  simp [and_assoc, Rho.set, dropOwn, ftLend, fLend, lendR, frz, ow, nList, -forall_exists_index, fBody, fsSeq, fsIf, fsRet, fsNext, fsDrop, fsAsg, fsNever, fsFor, fsOwn, fsPar2, fsPar3, fsPar_od, fsPar_do, fsPar_oo, fVar, fC, fUn, fOp, fChain, fTup, fLst, fCall, faD, faSt, flCons, flNil, fSl, foSome, foNone, fAnd, fOr, fNot, fIf, fOfN, fn1, fnLst, fnCat, fgN, fgTup, fgCons, fgNil, fiSeq, fiRange1, fiRange2, fiEnumA, fiZip, ftOr, ftAnd, ftNot, ftB, ftT, ftYes, truD_b, truD_i, truD_l, truD_t, truD_n, gIx_t0, gIx_t1, gIx_t2, gSl_t, gSl_l, gIsT, notDict, isT, isN, tyName, gLen_t, gLen_l, gTuple_l, gCmp, gAdd_ii, gAdd_ll, PD.gSub, gNeg, gMod, seqD, forD, wipeR, gEqA, gNeA, gEq_ii, gNe_ii, gEq_tt, gIn_ints, gIn_intsL, gNotIn_ints, gNotIn_intsL, fM0, fM1, fJoined, fJ, flStar, starD, fCall0, gIsTX, noInst_n, noInst_b, noInst_i, noInst_s, noInst_l, noInst_t, fFld, fMeth, fMake, faNil, fsFld, fLendO, fDisp, fpCons, fpNil, fDict0, fiAny, walkD, fiOver, dKeys, dVals, dPairs, fsOwnD, fsPut, fOwnIx, fPop, fsExt, fDc, compK, gInX, gNotInX, gIxX, fGet]
  refine ⟨3, 4, rfl, ⟨by decide, by decide, by decide, by decide⟩, by simp; omega, fun q T G n1 ⟨w, q3, t4⟩ hn1 => ?_⟩
  exact z q T G n1 w q3 hn1
theorem wide_ok {q : Int} (h : 1 ≤ q) (h3 : q ≤ 3) : WOK (q + 1) [List.replicate (q.toNat + 1) 0] [0] := by
  refine ⟨by omega, by omega, by simp, by simp, fun r hr => ?_, by decide, fun x hx => ?_, by decide⟩
  · rw [List.mem_singleton.mp hr]
    refine ⟨by rw [List.length_replicate]; omega, fun x hx => ?_⟩
    rw [List.eq_of_mem_replicate hx]
    exact ⟨by decide, by simp⟩
  · rw [List.mem_singleton.mp hx]
    exact ⟨by decide, by simp⟩
/-- all after the two loops' lists -/
theorem turn_4 {q : Int} {T : List (List Int)} {G : List Int} (h : 1 ≤ q) (h3 : q ≤ 3) {s0 s1 s2 s4 s5 s6 s7 : Sl} {n : Nat} {P : Post} (z : P.nx ⟨[s0, s1, s2, .d (wishD q T G), s4, s5, s6, .d (wishD (q + 1) [List.replicate (q.toNat + 1) 0] [0])], n⟩) :
    fsAsg (fTup (flCons (fOp gAdd (fOp gIx (fVar 3) (fC (.int 0))) (fC (.int 1))) (flCons (fTup (flCons (fOp gMulX (fTup (flCons (fC (.int 0)) (flNil))) (fOp gAdd (fOp gIx (fVar 3) (fC (.int 0))) (fC (.int 1)))) (flNil))) (flCons (fTup (flCons (fC (.int 0)) (flNil))) (flNil))))) (fgN 7)
      ⟨[s0, s1, s2, .d (wishD q T G), s4, s5, s6, s7], n⟩ P := by
  have e1 : gMulX (.tuple [.int 0]) (.int (q + 1)) = some (.tuple (List.replicate (q.toNat + 1) (.int 0))) := by
    rw [gMulX_t (by omega) (by omega), show (q + 1).toNat = q.toNat + 1 by omega]
  have ed : wishD (q + 1) [List.replicate (q.toNat + 1) 0] [0] = .tuple [.int (q + 1), .tuple [.tuple (List.replicate (q.toNat + 1) (.int 0))], .tuple [.int 0]] := by
    show PyData.tuple [.int (q + 1), .tuple [.tuple ((List.replicate (q.toNat + 1) (0 : Int)).map .int)], .tuple [.int 0]] = _
    rw [List.map_replicate]
  rw [ed] at z
  simp [and_assoc, Rho.set, dropOwn, ftLend, fLend, lendR, frz, ow, nList, -forall_exists_index, fBody, fsSeq, fsIf, fsRet, fsNext, fsDrop, fsAsg, fsNever, fsFor, fsOwn, fsPar2, fsPar3, fsPar_od, fsPar_do, fsPar_oo, fVar, fC, fUn, fOp, fChain, fTup, fLst, fCall, faD, faSt, flCons, flNil, fSl, foSome, foNone, fAnd, fOr, fNot, fIf, fOfN, fn1, fnLst, fnCat, fgN, fgTup, fgCons, fgNil, fiSeq, fiRange1, fiRange2, fiEnumA, fiZip, ftOr, ftAnd, ftNot, ftB, ftT, ftYes, truD_b, truD_i, truD_l, truD_t, truD_n, gIx_t0, gIx_t1, gIx_t2, gSl_t, gSl_l, gIsT, notDict, isT, isN, tyName, gLen_t, gLen_l, gTuple_l, gCmp, gAdd_ii, gAdd_ll, PD.gSub, gNeg, gMod, seqD, forD, wipeR, gEqA, gNeA, gEq_ii, gNe_ii, gEq_tt, gIn_ints, gIn_intsL, gNotIn_ints, gNotIn_intsL, fM0, fM1, fJoined, fJ, flStar, starD, fCall0, gIsTX, noInst_n, noInst_b, noInst_i, noInst_s, noInst_l, noInst_t, fFld, fMeth, fMake, faNil, fsFld, fLendO, fDisp, fpCons, fpNil, fDict0, fiAny, walkD, fiOver, dKeys, dVals, dPairs, fsOwnD, fsPut, fOwnIx, fPop, fsExt, fDc, compK, gInX, gNotInX, gIxX, fGet]
  exact ⟨_, e1, z⟩
theorem turn_5 {C1 C2 : Addr} {q : Int} {T : List (List Int)} {G : List Int} (w : WOK q T G) {q' : Int} {T' : List (List Int)} {G' : List Int} (w' : WOK q' T' G') (h : q ≠ q') {s0 s1 s2 s4 s5 s6 : Sl} {n : Nat} {P : Post} (z : P.nx ⟨[s0, s1, s2, .d (wishD q T G), s4, s5, s6, .d (wishD q' T' G')], n⟩) :
    fsIf (ftB (fOp gNeA (fSl gSl (fCall 3 (W_law_told C1 C2) (faD (flCons (fVar 3) (flCons (fVar 7) (flCons (fC .none) (flNil)))))) (foNone) (foSome (fC (.int 3)))) (fOp gMulX (fLst (flCons (fC (.str "place")) (flNil))) (fC (.int 3))))) (fsRet (fC (.bool false))) (fsNext)
      ⟨[s0, s1, s2, .d (wishD q T G), s4, s5, s6, .d (wishD q' T' G')], n⟩ P := by
  simp [and_assoc, Rho.set, dropOwn, ftLend, fLend, lendR, frz, ow, nList, -forall_exists_index, fBody, fsSeq, fsIf, fsRet, fsNext, fsDrop, fsAsg, fsNever, fsFor, fsOwn, fsPar2, fsPar3, fsPar_od, fsPar_do, fsPar_oo, fVar, fC, fUn, fOp, fChain, fTup, fLst, fCall, faD, faSt, flCons, flNil, fSl, foSome, foNone, fAnd, fOr, fNot, fIf, fOfN, fn1, fnLst, fnCat, fgN, fgTup, fgCons, fgNil, fiSeq, fiRange1, fiRange2, fiEnumA, fiZip, ftOr, ftAnd, ftNot, ftB, ftT, ftYes, truD_b, truD_i, truD_l, truD_t, truD_n, gIx_t0, gIx_t1, gIx_t2, gSl_t, gSl_l, gIsT, notDict, isT, isN, tyName, gLen_t, gLen_l, gTuple_l, gCmp, gAdd_ii, gAdd_ll, PD.gSub, gNeg, gMod, seqD, forD, wipeR, gEqA, gNeA, gEq_ii, gNe_ii, gEq_tt, gIn_ints, gIn_intsL, gNotIn_ints, gNotIn_intsL, fM0, fM1, fJoined, fJ, flStar, starD, fCall0, gIsTX, noInst_n, noInst_b, noInst_i, noInst_s, noInst_l, noInst_t, fFld, fMeth, fMake, faNil, fsFld, fLendO, fDisp, fpCons, fpNil, fDict0, fiAny, walkD, fiOver, dKeys, dVals, dPairs, fsOwnD, fsPut, fOwnIx, fPop, fsExt, fDc, compK, gInX, gNotInX, gIxX, fGet]
  refine ⟨wishD q T G, wishD q' T' G', .none, _, _, _, _, _, _, rfl, tellW w (noC_wish _ _ _) rfl (two_wide w w' h) rfl (.inl rfl) (.inl rfl) ⟨rfl, rfl⟩, ?_⟩
  exact ⟨.list [.str "place", .str "place", .str "place"], rfl, _, rfl, .bool false, gNe_self (d := .list [.str "place", .str "place", .str "place"]) (by decide +kernel) (by decide +kernel), .inl ⟨rfl, z⟩⟩
def loose8 (q : Int) : List D := [.none, .list [], .tuple [.int q], .tuple [.int 0, .int 0], .tuple [.bool true], .tuple [.str "0"], .tuple [.int (-1)], .int 0]
theorem fi6 {q : Int} {T : List (List Int)} {G : List Int} {s0 s1 s2 s4 s5 s6 s7 : Sl} {n : Nat} (k : List D → Rho → Prop) (z : k (loose8 q) ⟨[s0, s1, s2, .d (wishD q T G), s4, s5, s6, s7], n⟩) :
    fiSeq (fLst (flCons (fC .none) (flCons (fLst (flNil)) (flCons (fTup (flCons (fOp gIx (fVar 3) (fC (.int 0))) (flNil))) (flCons (fTup (flCons (fC (.int 0)) (flCons (fC (.int 0)) (flNil)))) (flCons (fTup (flCons (fC (.bool true)) (flNil))) (flCons (fTup (flCons (fC (.str "0")) (flNil))) (flCons (fTup (flCons (fUn gNeg (fC (.int 1))) (flNil))) (flCons (fC (.int 0)) (flNil))))))))))
      ⟨[s0, s1, s2, .d (wishD q T G), s4, s5, s6, s7], n⟩ k := by
  simp [and_assoc, Rho.set, dropOwn, ftLend, fLend, lendR, frz, ow, nList, -forall_exists_index, fBody, fsSeq, fsIf, fsRet, fsNext, fsDrop, fsAsg, fsNever, fsFor, fsOwn, fsPar2, fsPar3, fsPar_od, fsPar_do, fsPar_oo, fVar, fC, fUn, fOp, fChain, fTup, fLst, fCall, faD, faSt, flCons, flNil, fSl, foSome, foNone, fAnd, fOr, fNot, fIf, fOfN, fn1, fnLst, fnCat, fgN, fgTup, fgCons, fgNil, fiSeq, fiRange1, fiRange2, fiEnumA, fiZip, ftOr, ftAnd, ftNot, ftB, ftT, ftYes, truD_b, truD_i, truD_l, truD_t, truD_n, gIx_t0, gIx_t1, gIx_t2, gSl_t, gSl_l, gIsT, notDict, isT, isN, tyName, gLen_t, gLen_l, gTuple_l, gCmp, gAdd_ii, gAdd_ll, PD.gSub, gNeg, gMod, seqD, forD, wipeR, gEqA, gNeA, gEq_ii, gNe_ii, gEq_tt, gIn_ints, gIn_intsL, gNotIn_ints, gNotIn_intsL, fM0, fM1, fJoined, fJ, flStar, starD, fCall0, gIsTX, noInst_n, noInst_b, noInst_i, noInst_s, noInst_l, noInst_t, fFld, fMeth, fMake, faNil, fsFld, fLendO, fDisp, fpCons, fpNil, fDict0, fiAny, walkD, fiOver, dKeys, dVals, dPairs, fsOwnD, fsPut, fOwnIx, fPop, fsExt, fDc, compK, gInX, gNotInX, gIxX, fGet]
  exact z
theorem loose8_ok {q : Int} (q1 : 1 ≤ q) : ∀ x ∈ loose8 q, okD x ∧ ascB x q = false ∧ noC 59 x = true := by
  have a2 : ∀ {d : D}, numsB d q = false → ascB d q = false := fun {d} h => by unfold ascB; rw [h]; rfl
  have e1 : numsB (.tuple [.int q]) q = false := by
    show (decide (0 ≤ q ∧ 0 ≤ q ∧ q ≤ q - 1) && true) = false
    rw [decide_eq_false (by omega)]
    rfl
  have o1 : ∀ xs : List D, xs.length ≤ 500 → (∀ x ∈ xs, noInst x = true) → okD (.tuple xs) := fun xs h1 h2 => ⟨by omega, h2⟩
  have s1 : ∀ x : D, noInst x = true → ∀ y ∈ ([x] : List D), noInst y = true := fun x h y hy => by rw [List.mem_singleton.mp hy]; exact h
  refine List.forall_mem_cons.mpr ⟨⟨rfl, a2 rfl, rfl⟩, List.forall_mem_cons.mpr ⟨⟨rfl, a2 rfl, rfl⟩, List.forall_mem_cons.mpr ⟨⟨o1 _ (by simp) (s1 _ rfl), a2 e1, rfl⟩, List.forall_mem_cons.mpr ⟨⟨o1 _ (by decide) (List.forall_mem_cons.mpr ⟨rfl, s1 _ rfl⟩), ?_, rfl⟩, List.forall_mem_cons.mpr ⟨⟨o1 _ (by decide) (s1 _ rfl), a2 rfl, rfl⟩, List.forall_mem_cons.mpr ⟨⟨o1 _ (by decide) (s1 _ rfl), a2 rfl, rfl⟩,
    List.forall_mem_cons.mpr ⟨⟨o1 _ (by decide) (s1 _ rfl), a2 rfl, rfl⟩, List.forall_mem_cons.mpr ⟨⟨rfl, a2 rfl, rfl⟩, fun _ h => absurd h List.not_mem_nil⟩⟩⟩⟩⟩⟩⟩⟩
  show (_ && risB [0, 0]) = false
  rw [show risB [0, 0] = false by decide +kernel, Bool.and_false]
def bad6 : List D := [.none, .int (-1), .int 4, .bool true, .str "0", .tuple [.int 0]]
theorem fi7 {s0 s1 s2 s3 s4 s5 s6 s7 : Sl} {n : Nat} (k : List D → Rho → Prop) (z : k bad6 ⟨[s0, s1, s2, s3, s4, s5, s6, s7], n⟩) :
    fiSeq (fLst (flCons (fC .none) (flCons (fUn gNeg (fC (.int 1))) (flCons (fC (.int 4)) (flCons (fC (.bool true)) (flCons (fC (.str "0")) (flCons (fTup (flCons (fC (.int 0)) (flNil))) (flNil)))))))) ⟨[s0, s1, s2, s3, s4, s5, s6, s7], n⟩ k := by
  simp [and_assoc, Rho.set, dropOwn, ftLend, fLend, lendR, frz, ow, nList, -forall_exists_index, fBody, fsSeq, fsIf, fsRet, fsNext, fsDrop, fsAsg, fsNever, fsFor, fsOwn, fsPar2, fsPar3, fsPar_od, fsPar_do, fsPar_oo, fVar, fC, fUn, fOp, fChain, fTup, fLst, fCall, faD, faSt, flCons, flNil, fSl, foSome, foNone, fAnd, fOr, fNot, fIf, fOfN, fn1, fnLst, fnCat, fgN, fgTup, fgCons, fgNil, fiSeq, fiRange1, fiRange2, fiEnumA, fiZip, ftOr, ftAnd, ftNot, ftB, ftT, ftYes, truD_b, truD_i, truD_l, truD_t, truD_n, gIx_t0, gIx_t1, gIx_t2, gSl_t, gSl_l, gIsT, notDict, isT, isN, tyName, gLen_t, gLen_l, gTuple_l, gCmp, gAdd_ii, gAdd_ll, PD.gSub, gNeg, gMod, seqD, forD, wipeR, gEqA, gNeA, gEq_ii, gNe_ii, gEq_tt, gIn_ints, gIn_intsL, gNotIn_ints, gNotIn_intsL, fM0, fM1, fJoined, fJ, flStar, starD, fCall0, gIsTX, noInst_n, noInst_b, noInst_i, noInst_s, noInst_l, noInst_t, fFld, fMeth, fMake, faNil, fsFld, fLendO, fDisp, fpCons, fpNil, fDict0, fiAny, walkD, fiOver, dKeys, dVals, dPairs, fsOwnD, fsPut, fOwnIx, fPop, fsExt, fDc, compK, gInX, gNotInX, gIxX, fGet]
  exact z
theorem bad6_ok : ∀ x ∈ bad6, okW x ∧ wishErr x = some "form" ∧ intB x 0 2 = false ∧ intB x 0 3 = false ∧ noC 59 x = true :=
  List.forall_mem_cons.mpr ⟨⟨rfl, rfl, rfl, rfl, rfl⟩, List.forall_mem_cons.mpr ⟨⟨rfl, rfl, rfl, rfl, rfl⟩, List.forall_mem_cons.mpr ⟨⟨rfl, rfl, rfl, rfl, rfl⟩, List.forall_mem_cons.mpr ⟨⟨rfl, rfl, rfl, rfl, rfl⟩, List.forall_mem_cons.mpr ⟨⟨rfl, rfl, rfl, rfl, rfl⟩, List.forall_mem_cons.mpr ⟨⟨rfl, rfl, rfl, rfl, rfl⟩, fun _ h => absurd h List.not_mem_nil⟩⟩⟩⟩⟩⟩
theorem turn_8 {C1 C2 : Addr} {q : Int} {T : List (List Int)} {G : List Int} (w : WOK q T G) {s0 s1 s2 s4 s5 s6 s7 : Sl} {n : Nat} {P : Post} (z : P.nx ⟨[s0, s1, s2, .d (wishD q T G), s4, s5, s6, s7], n⟩) :
    fsIf (ftB (fOp gNeA (fCallL 1 (W_law_outcome C1 C2) [61, 101, 107, 0, 0, 1] [3] (fhHere (flNil))) (fC (.str "place")))) (fsRet (fC (.bool false))) (fsNext)
      ⟨[s0, s1, s2, .d (wishD q T G), s4, s5, s6, s7], n⟩ P := by
  simp [and_assoc, Rho.set, dropOwn, ftLend, fLend, lendR, frz, ow, nList, -forall_exists_index, fBody, fsSeq, fsIf, fsRet, fsNext, fsDrop, fsAsg, fsNever, fsFor, fsOwn, fsPar2, fsPar3, fsPar_od, fsPar_do, fsPar_oo, fVar, fC, fUn, fOp, fChain, fTup, fLst, fCall, faD, faSt, flCons, flNil, fSl, foSome, foNone, fAnd, fOr, fNot, fIf, fOfN, fn1, fnLst, fnCat, fgN, fgTup, fgCons, fgNil, fiSeq, fiRange1, fiRange2, fiEnumA, fiZip, ftOr, ftAnd, ftNot, ftB, ftT, ftYes, truD_b, truD_i, truD_l, truD_t, truD_n, gIx_t0, gIx_t1, gIx_t2, gSl_t, gSl_l, gIsT, notDict, isT, isN, tyName, gLen_t, gLen_l, gTuple_l, gCmp, gAdd_ii, gAdd_ll, PD.gSub, gNeg, gMod, seqD, forD, wipeR, gEqA, gNeA, gEq_ii, gNe_ii, gEq_tt, gIn_ints, gIn_intsL, gNotIn_ints, gNotIn_intsL, fM0, fM1, fJoined, fJ, flStar, starD, fCall0, gIsTX, noInst_n, noInst_b, noInst_i, noInst_s, noInst_l, noInst_t, fFld, fMeth, fMake, faNil, fsFld, fLendO, fDisp, fpCons, fpNil, fDict0, fiAny, walkD, fiOver, dKeys, dVals, dPairs, fsOwnD, fsPut, fOwnIx, fPop, fsExt, fDc, compK, gInX, gNotInX, gIxX, fGet]
  have ok1 : (([wishD q T G] : List D).map Sl.d).all (okC 61) = true := by show (noC 61 (wishD q T G) && true) = true; rw [noC_wish]; rfl
  have es : (match (PyData.str "place" : D), (PyData.str "place" : D) with
        | .str a, .str b => some (PyData.bool !decide (a = b))
        | x, y => gNe x y) = some (.bool false) := by simp
  exact ⟨[wishD q T G], rfl, rfl, cloD [61, 101, 107, 0, 0, 1] [wishD q T G], .str "place", rfl, ⟨_, mem7 C1 C2, [wishD q T G], rfl, rfl, rfl, ok1, fun n => .inr ⟨q, T, G, rfl, w, rfl, .inr ⟨rfl, rfl⟩⟩⟩, rfl, .bool false, es, .inl ⟨rfl, z⟩⟩
theorem turn_all {C1 C2 : Addr} {s0 s2 s3 s4 s5 s6 s7 : Sl} {n : Nat} {P : Post} (hn : n + 1000 ≤ 800000000000) (z : ∀ n1 s3 s4 s5 s6 s7, n1 ≤ n + 100 → P.nx ⟨[s0, .st, s2, s3, s4, s5, s6, s7], n1⟩) :
    b_law_4 C1 C2 ⟨[s0, .st, s2, s3, s4, s5, s6, s7], n⟩ P := by
  unfold b_law_4
  simp only [fsSeq, fsFor]
  refine turn_1 hn fun q T G n1 w q3 hn1 => ?_
  refine turn_2 ?_
  refine ⟨_, rfl, _, rfl, ?_⟩
  refine loop_1 w (odds4 q T) s5 s6 (odds4_ok w) fun s5 s6 => ?_
  refine turn_4 w.q1 q3 ?_
  refine turn_5 w (wide_ok w.q1 q3) (by omega) ?_
  refine fi6 _ ?_
  refine loop_2 w (loose8 q) s5 (loose8_ok w.q1) fun s5 => ?_
  refine fi7 _ ?_
  refine loop_3 w bad6 s5 bad6_ok fun s5 => ?_
  refine turn_8 w ?_
  exact z _ _ _ _ _ _ hn1
theorem law_turns {C1 C2 : Addr} (s0 : Sl) : ∀ (js : List Nat) (n : Nat) (x2 x3 x4 x5 x6 x7 : Sl) (P : Post), n + js.length * 1000 ≤ 800000000000 → (∀ (n' : Nat) (x2 x3 x4 x5 x6 x7 : Sl), P.nx ⟨[s0, .st, x2, x3, x4, x5, x6, x7], n'⟩) →
    forD (fgN 2) (b_law_4 C1 C2) (js.map fun i : Nat => PyData.int (i : Int)) ⟨[s0, .st, x2, x3, x4, x5, x6, x7], n⟩ P := by
  intro js
  induction js with
  | nil => intro n x2 x3 x4 x5 x6 x7 P _ h; exact h n x2 x3 x4 x5 x6 x7
  | cons j js ih =>
    intro n x2 x3 x4 x5 x6 x7 P hn h
    rw [List.length_cons, Nat.succ_mul] at hn
    rw [List.map_cons]
    unfold forD
    simp [and_assoc, Rho.set, dropOwn, ftLend, fLend, lendR, frz, ow, nList, -forall_exists_index, fBody, fsSeq, fsIf, fsRet, fsNext, fsDrop, fsAsg, fsNever, fsFor, fsOwn, fsPar2, fsPar3, fsPar_od, fsPar_do, fsPar_oo, fVar, fC, fUn, fOp, fChain, fTup, fLst, fCall, faD, faSt, flCons, flNil, fSl, foSome, foNone, fAnd, fOr, fNot, fIf, fOfN, fn1, fnLst, fnCat, fgN, fgTup, fgCons, fgNil, fiSeq, fiRange1, fiRange2, fiEnumA, fiZip, ftOr, ftAnd, ftNot, ftB, ftT, ftYes, truD_b, truD_i, truD_l, truD_t, truD_n, gIx_t0, gIx_t1, gIx_t2, gSl_t, gSl_l, gIsT, notDict, isT, isN, tyName, gLen_t, gLen_l, gTuple_l, gCmp, gAdd_ii, gAdd_ll, PD.gSub, gNeg, gMod, seqD, forD, wipeR, gEqA, gNeA, gEq_ii, gNe_ii, gEq_tt, gIn_ints, gIn_intsL, gNotIn_ints, gNotIn_intsL, fM0, fM1, fJoined, fJ, flStar, starD, fCall0, gIsTX, noInst_n, noInst_b, noInst_i, noInst_s, noInst_l, noInst_t, fFld, fMeth, fMake, faNil, fsFld, fLendO, fDisp, fpCons, fpNil, fDict0, fiAny, walkD, fiOver, dKeys, dVals, dPairs, fsOwnD, fsPut, fOwnIx, fPop, fsExt, fDc, compK, gInX, gNotInX, gIxX, fGet]
    refine turn_all (by omega) fun n1 s3 s4 s5 s6 s7 hn1 => ?_
    exact ih _ _ _ _ _ _ _ P (by omega) h
theorem ok_law {C1 C2 : Addr} : ∀ ρ k, W_law ρ k → fBody 8 (w_law C1 C2) ρ k := by
  rintro ⟨sl, n⟩ k ⟨ns, e, hl, z⟩
  simp only at e z
  subst e
  simp [w_law]
  simp [and_assoc, Rho.set, dropOwn, ftLend, fLend, lendR, frz, ow, nList, -forall_exists_index, fBody, fsSeq, fsIf, fsRet, fsNext, fsDrop, fsAsg, fsNever, fsFor, fsOwn, fsPar2, fsPar3, fsPar_od, fsPar_do, fsPar_oo, fVar, fC, fUn, fOp, fChain, fTup, fLst, fCall, faD, faSt, flCons, flNil, fSl, foSome, foNone, fAnd, fOr, fNot, fIf, fOfN, fn1, fnLst, fnCat, fgN, fgTup, fgCons, fgNil, fiSeq, fiRange1, fiRange2, fiEnumA, fiZip, ftOr, ftAnd, ftNot, ftB, ftT, ftYes, truD_b, truD_i, truD_l, truD_t, truD_n, gIx_t0, gIx_t1, gIx_t2, gSl_t, gSl_l, gIsT, notDict, isT, isN, tyName, gLen_t, gLen_l, gTuple_l, gCmp, gAdd_ii, gAdd_ll, PD.gSub, gNeg, gMod, seqD, forD, wipeR, gEqA, gNeA, gEq_ii, gNe_ii, gEq_tt, gIn_ints, gIn_intsL, gNotIn_ints, gNotIn_intsL, fM0, fM1, fJoined, fJ, flStar, starD, fCall0, gIsTX, noInst_n, noInst_b, noInst_i, noInst_s, noInst_l, noInst_t, fFld, fMeth, fMake, faNil, fsFld, fLendO, fDisp, fpCons, fpNil, fDict0, fiAny, walkD, fiOver, dKeys, dVals, dPairs, fsOwnD, fsPut, fOwnIx, fPop, fsExt, fDc, compK, gInX, gNotInX, gIxX, fGet]
  unfold fsBegin
  simp [and_assoc, Rho.set, dropOwn, ftLend, fLend, lendR, frz, ow, nList, -forall_exists_index, fBody, fsSeq, fsIf, fsRet, fsNext, fsDrop, fsAsg, fsNever, fsFor, fsOwn, fsPar2, fsPar3, fsPar_od, fsPar_do, fsPar_oo, fVar, fC, fUn, fOp, fChain, fTup, fLst, fCall, faD, faSt, flCons, flNil, fSl, foSome, foNone, fAnd, fOr, fNot, fIf, fOfN, fn1, fnLst, fnCat, fgN, fgTup, fgCons, fgNil, fiSeq, fiRange1, fiRange2, fiEnumA, fiZip, ftOr, ftAnd, ftNot, ftB, ftT, ftYes, truD_b, truD_i, truD_l, truD_t, truD_n, gIx_t0, gIx_t1, gIx_t2, gSl_t, gSl_l, gIsT, notDict, isT, isN, tyName, gLen_t, gLen_l, gTuple_l, gCmp, gAdd_ii, gAdd_ll, PD.gSub, gNeg, gMod, seqD, forD, wipeR, gEqA, gNeA, gEq_ii, gNe_ii, gEq_tt, gIn_ints, gIn_intsL, gNotIn_ints, gNotIn_intsL, fM0, fM1, fJoined, fJ, flStar, starD, fCall0, gIsTX, noInst_n, noInst_b, noInst_i, noInst_s, noInst_l, noInst_t, fFld, fMeth, fMake, faNil, fsFld, fLendO, fDisp, fpCons, fpNil, fDict0, fiAny, walkD, fiOver, dKeys, dVals, dPairs, fsOwnD, fsPut, fOwnIx, fPop, fsExt, fDc, compK, gInX, gNotInX, gIxX, fGet]
  refine ⟨?_, ⟨ns, rfl, hl⟩, ?_⟩
  · intro j
    match j with
    | 0 => simp
    | 1 => simp
    | 2 => simp
    | 3 => simp
    | 4 => simp
    | 5 => simp
    | 6 => simp
    | 7 => simp
    | j + 8 => simp
  · obtain ⟨m, hm, hm5⟩ : ∃ m : Nat, gMin2 (PyData.int (ns.length : Int)) (PyData.int 3) = some (.int (m : Int)) ∧ m ≤ 3 := by
      by_cases h : ns.length ≤ 3
      · refine ⟨ns.length, ?_, h⟩
        simp [gMin2]
        omega
      · refine ⟨3, ?_, Nat.le_refl _⟩
        simp [gMin2]
        omega
    refine ⟨_, hm, _, rfl, _, rfl, by omega, by omega, ?_⟩
    rw [show (1 : Int) + (m : Int) = ((1 + m : Nat) : Int) by omega, rangeD_nat]
    refine law_turns _ (List.range (1 + m)) 0 .no .no .no .no .no .no _ (by rw [List.length_range]; omega) fun n' x2 x3 x4 x5 x6 x7 => ?_
    exact z _
abbrev s_BadWish_init : Stmt := inClass (top 9) 0
theorem sc_BadWish_init : FnScope ["self", "part"] ["self", "part"] (defScope s_BadWish_init) := ⟨rfl, rfl, rfl, by decide +kernel, rfl, by decide +kernel, by decide +kernel⟩
theorem fnx_BadWish {C f : Addr} {fd : FuncData} (F : Fun K "__init__" "BadWish.__init__" s_BadWish_init f fd) (T : Txt mg) (Z : OexC K C) (na : PySem.W.findIn K (.ref C) "part" = some none) (vV : PySem.W.findCls K (.type "ValueError") (.type "type") "__init__" = some (.val (.builtin "ValueError.__init__"))) : FnOk P w K mg base (L2.CX P w) 1 f fd ["self", "part"] (spExA C "part") := by
  refine F.okX sc_BadWish_init (fun vs H Q E ⟨a, v, e, _⟩ => by subst e; rfl) fun cdv A outer s H vs Q E hr ⟨a, v, e, ha, q⟩ => ?_
  subst e
  exact ⟨_, pss_cons (ps_expr (pe_veinit (by rfl) T.ValueError vV (pa_cons (pv 0) (pa_cons (pv 1) pa_nil)))) (pss_one (ps_ost (pv 0) (pv 1))), .ref a, rfl, v, rfl, a, C, [v], rfl, by simp, Z, ha, v, rfl, .ref a, rfl, a, C, rfl, Z, na, .inl ⟨ha, fun dx h1 h2 => q dx h1 h2⟩⟩
abbrev s_OutOfPlace_init : Stmt := inClass (top 11) 0
theorem sc_OutOfPlace_init : FnScope ["self", "text"] ["self", "text"] (defScope s_OutOfPlace_init) := ⟨rfl, rfl, rfl, by decide +kernel, rfl, by decide +kernel, by decide +kernel⟩
theorem fnx_OutOfPlace {C f : Addr} {fd : FuncData} (F : Fun K "__init__" "OutOfPlace.__init__" s_OutOfPlace_init f fd) (T : Txt mg) (Z : OexC K C) (vV : PySem.W.findCls K (.type "ValueError") (.type "type") "__init__" = some (.val (.builtin "ValueError.__init__"))) : FnOk P w K mg base (L2.CX P w) 1 f fd ["self", "text"] (spExN C) := by
  refine F.okX sc_OutOfPlace_init (fun vs H Q E ⟨a, v, e, _⟩ => by subst e; rfl) fun cdv A outer s H vs Q E hr ⟨a, v, e, ha, q⟩ => ?_
  subst e
  exact ⟨_, pss_one (ps_expr (pe_veinit (by rfl) T.ValueError vV (pa_cons (pv 0) (pa_cons (pv 1) pa_nil)))), _, rfl, _, rfl, a, C, [v], rfl, by simp, Z, ha, q⟩
theorem never_of {x q : Str} {st : Stmt} {f : Addr} {fd : FuncData} {k n : Nat} {ps : List Str} (_ : Fun K x q st f fd) : FnG P w K mg base (L2.CX P w) k f fd ps (spD ⟨K, w, P⟩ (MM TT) n (fun _ _ => False)) := FnG_never
theorem exm_of {K : PySem.W.Frag} {S R : Addr} {b : Bool} (h1 : PySem.W.subIn K (.ref S) (.type "BaseException") = some true) (h2 : PySem.W.isClsIn K S = true) (h3 : PySem.W.typeIn K (.ref S) = some (.type "type")) (h4 : PySem.W.subIn K (.ref R) (.ref S) = some b) : PySem.W.exmOne K (.ref R) (.ref S) = some b := by
  have e1 : (PySem.W.subIn K (.ref S) (.type "BaseException") == some true) = true := by rw [h1] <;> rfl
  have h2' : (PySem.W.clsIn K S).isSome = true := h2
  have e2 : ((PySem.W.clsIn K S).isSome && PySem.W.typeIn K (.ref S) == some (.type "type")) = true := by rw [h2', h3] <;> rfl
  unfold PySem.W.exmOne PySem.W.kitCls
  rw [if_pos e1]
  simpa [e2] using h4
theorem all_mk {l : PySem.W.OpenLaw} {w : World} {K : PySem.W.Frag} {h : Heap} {mg : Str → Option Value} {fa : Addr} {f_is_count : Addr} {oc_is_count kV_is_count dc_is_count pm_is_count cd_is_count ct_is_count : Value} {od_is_count an_is_count : Option Addr} {sl_is_count : Array (Option Value)} {f_is_integer : Addr} {oc_is_integer kV_is_integer dc_is_integer pm_is_integer cd_is_integer ct_is_integer : Value} {od_is_integer an_is_integer : Option Addr} {sl_is_integer : Array (Option Value)} {f_is_triple : Addr} {oc_is_triple kV_is_triple dc_is_triple pm_is_triple cd_is_triple ct_is_triple : Value} {od_is_triple an_is_triple : Option Addr} {sl_is_triple : Array (Option Value)} {f_are_numbers : Addr} {oc_are_numbers kV_are_numbers dc_are_numbers pm_are_numbers cd_are_numbers ct_are_numbers : Value} {od_are_numbers an_are_numbers : Option Addr} {sl_are_numbers : Array (Option Value)} {f_are_ascending : Addr} {oc_are_ascending kV_are_ascending dc_are_ascending pm_are_ascending cd_are_ascending ct_are_ascending : Value} {od_are_ascending an_are_ascending : Option Addr} {sl_are_ascending : Array (Option Value)} {f_are_rising : Addr} {oc_are_rising kV_are_rising dc_are_rising pm_are_rising cd_are_rising ct_are_rising : Value} {od_are_rising an_are_rising : Option Addr} {sl_are_rising : Array (Option Value)} {f_need_wish : Addr} {oc_need_wish kV_need_wish dc_need_wish pm_need_wish cd_need_wish ct_need_wish : Value} {od_need_wish an_need_wish : Option Addr} {sl_need_wish : Array (Option Value)} {f_reached_states : Addr} {oc_reached_states kV_reached_states dc_reached_states pm_reached_states cd_reached_states ct_reached_states : Value} {od_reached_states an_reached_states : Option Addr} {sl_reached_states : Array (Option Value)} {f_are_steps : Addr} {oc_are_steps kV_are_steps dc_are_steps pm_are_steps cd_are_steps ct_are_steps : Value} {od_are_steps an_are_steps : Option Addr} {sl_are_steps : Array (Option Value)} {f_need_hold : Addr} {oc_need_hold kV_need_hold dc_need_hold pm_need_hold cd_need_hold ct_need_hold : Value} {od_need_hold an_need_hold : Option Addr} {sl_need_hold : Array (Option Value)} {f_need_ahead : Addr} {oc_need_ahead kV_need_ahead dc_need_ahead pm_need_ahead cd_need_ahead ct_need_ahead : Value} {od_need_ahead an_need_ahead : Option Addr} {sl_need_ahead : Array (Option Value)} {f_need_loose : Addr} {oc_need_loose kV_need_loose dc_need_loose pm_need_loose cd_need_loose ct_need_loose : Value} {od_need_loose an_need_loose : Option Addr} {sl_need_loose : Array (Option Value)} {f_least_hold : Addr} {oc_least_hold kV_least_hold dc_least_hold pm_least_hold cd_least_hold ct_least_hold : Value} {od_least_hold an_least_hold : Option Addr} {sl_least_hold : Array (Option Value)} {f_least_ahead : Addr} {oc_least_ahead kV_least_ahead dc_least_ahead pm_least_ahead cd_least_ahead ct_least_ahead : Value} {od_least_ahead an_least_ahead : Option Addr} {sl_least_ahead : Array (Option Value)} {f_need : Addr} {oc_need kV_need dc_need pm_need cd_need ct_need : Value} {od_need an_need : Option Addr} {sl_need : Array (Option Value)} {f_first_kept : Addr} {oc_first_kept kV_first_kept dc_first_kept pm_first_kept cd_first_kept ct_first_kept : Value} {od_first_kept an_first_kept : Option Addr} {sl_first_kept : Array (Option Value)} {f_is_part : Addr} {oc_is_part kV_is_part dc_is_part pm_is_part cd_is_part ct_is_part : Value} {od_is_part an_is_part : Option Addr} {sl_is_part : Array (Option Value)} {f_are_alike : Addr} {oc_are_alike kV_are_alike dc_are_alike pm_are_alike cd_are_alike ct_are_alike : Value} {od_are_alike an_are_alike : Option Addr} {sl_are_alike : Array (Option Value)} {f_parting : Addr} {oc_parting kV_parting dc_parting pm_parting cd_parting ct_parting : Value} {od_parting an_parting : Option Addr} {sl_parting : Array (Option Value)} {f_kept_part : Addr} {oc_kept_part kV_kept_part dc_kept_part pm_kept_part cd_kept_part ct_kept_part : Value} {od_kept_part an_kept_part : Option Addr} {sl_kept_part : Array (Option Value)} {f_need_both : Addr} {oc_need_both kV_need_both dc_need_both pm_need_both cd_need_both ct_need_both : Value} {od_need_both an_need_both : Option Addr} {sl_need_both : Array (Option Value)} {f_both_runs : Addr} {oc_both_runs kV_both_runs dc_both_runs pm_both_runs cd_both_runs ct_both_runs : Value} {od_both_runs an_both_runs : Option Addr} {sl_both_runs : Array (Option Value)} {f_sure_states : Addr} {oc_sure_states kV_sure_states dc_sure_states pm_sure_states cd_sure_states ct_sure_states : Value} {od_sure_states an_sure_states : Option Addr} {sl_sure_states : Array (Option Value)} {f_law_begun : Addr} {oc_law_begun kV_law_begun dc_law_begun pm_law_begun cd_law_begun ct_law_begun : Value} {od_law_begun an_law_begun : Option Addr} {sl_law_begun : Array (Option Value)} {f_law_next : Addr} {oc_law_next kV_law_next dc_law_next pm_law_next cd_law_next ct_law_next : Value} {od_law_next an_law_next : Option Addr} {sl_law_next : Array (Option Value)} {f_law_want : Addr} {oc_law_want kV_law_want dc_law_want pm_law_want cd_law_want ct_law_want : Value} {od_law_want an_law_want : Option Addr} {sl_law_want : Array (Option Value)} {f_law_outcome : Addr} {oc_law_outcome kV_law_outcome dc_law_outcome pm_law_outcome cd_law_outcome ct_law_outcome : Value} {od_law_outcome an_law_outcome : Option Addr} {sl_law_outcome : Array (Option Value)} {f_law_calls : Addr} {oc_law_calls kV_law_calls dc_law_calls pm_law_calls cd_law_calls ct_law_calls : Value} {od_law_calls an_law_calls : Option Addr} {sl_law_calls : Array (Option Value)} {f_law_told : Addr} {oc_law_told kV_law_told dc_law_told pm_law_told cd_law_told ct_law_told : Value} {od_law_told an_law_told : Option Addr} {sl_law_told : Array (Option Value)} {f_law : Addr} {oc_law kV_law dc_law pm_law cd_law ct_law : Value} {od_law an_law : Option Addr} {sl_law : Array (Option Value)} {q_law_calls : Addr} {q_law : Addr} {t_MOST_AHEAD : PySem.Tok} {t_MOST_DEEDS : PySem.Tok} {t_MOST_HELD : PySem.Tok} {t_MOST_STATES : PySem.Tok} {C_BadWish : Addr} {C_OutOfPlace : Addr} {nm_BadWish q_BadWish : Str} {N_BadWish : Addr} {bs_BadWish bm_BadWish : List Value} {sn_BadWish : List Str} {sub_BadWish : List Value} {ab_BadWish : Bool} {col_BadWish : Option Bool} {dd_BadWish : Option Addr} {m0_BadWish m1_BadWish m2_BadWish m3_BadWish m5_BadWish : Option Value} {f_BadWish_init : Addr} {oc_BadWish kV_BadWish dc_BadWish pm_BadWish cd_BadWish ct_BadWish : Value} {od_BadWish an_BadWish : Option Addr} {sl_BadWish : Array (Option Value)} {nm_OutOfPlace q_OutOfPlace : Str} {N_OutOfPlace : Addr} {bs_OutOfPlace bm_OutOfPlace : List Value} {sn_OutOfPlace : List Str} {sub_OutOfPlace : List Value} {ab_OutOfPlace : Bool} {col_OutOfPlace : Option Bool} {dd_OutOfPlace : Option Addr} {m0_OutOfPlace m1_OutOfPlace m2_OutOfPlace m3_OutOfPlace m5_OutOfPlace : Option Value} {f_OutOfPlace_init : Addr} {oc_OutOfPlace kV_OutOfPlace dc_OutOfPlace pm_OutOfPlace cd_OutOfPlace ct_OutOfPlace : Value} {od_OutOfPlace an_OutOfPlace : Option Addr} {sl_OutOfPlace : Array (Option Value)} (X : K.In h) (G : h.Ns mainGlobals mg) (hfa : mg "law" = some (.ref fa)) (pP : l.prog = PySem.Challenge.pw_guardkeeps_k09_needs_and_parts_refused) (HT : ∀ g ∈ (["_law_calls", "law"] : List Str), ∃ c Pt, TabAt mg h g c Pt)
    (a_BadWish : PySem.W.nsIn K mainGlobals "BadWish" = some (some (.ref C_BadWish)))
    (a_OutOfPlace : PySem.W.nsIn K mainGlobals "OutOfPlace" = some (some (.ref C_OutOfPlace)))
    (eC_BadWish : PySem.W.subIn K (.ref C_BadWish) (.type "BaseException") = some true)
    (tC_BadWish : PySem.W.typeIn K (.ref C_BadWish) = some (.type "type"))
    (iC_BadWish : PySem.W.isClsIn K C_BadWish = true)
    (sC_BadWish : PySem.W.subIn K (.ref C_BadWish) (.ref C_BadWish) = some true)
    (sC_BadWish_OutOfPlace : PySem.W.subIn K (.ref C_BadWish) (.ref C_OutOfPlace) = some false)
    (eC_OutOfPlace : PySem.W.subIn K (.ref C_OutOfPlace) (.type "BaseException") = some true)
    (tC_OutOfPlace : PySem.W.typeIn K (.ref C_OutOfPlace) = some (.type "type"))
    (iC_OutOfPlace : PySem.W.isClsIn K C_OutOfPlace = true)
    (sC_OutOfPlace : PySem.W.subIn K (.ref C_OutOfPlace) (.ref C_OutOfPlace) = some true)
    (sC_OutOfPlace_BadWish : PySem.W.subIn K (.ref C_OutOfPlace) (.ref C_BadWish) = some false)
    (xl_BadWish : K.lookup C_BadWish = some (excClassObj nm_BadWish q_BadWish C_BadWish N_BadWish bs_BadWish bm_BadWish true sn_BadWish sub_BadWish ab_BadWish col_BadWish dd_BadWish m0_BadWish m1_BadWish m2_BadWish m3_BadWish m5_BadWish "ValueError.__new__"))
    (rv_BadWish : PySem.HandSPX.refsVE bm_BadWish = true)
    (sa_BadWish : PySem.W.findIn K (.ref C_BadWish) "__setattr__" = some (some (.builtin "object.__setattr__")))
    (kC_BadWish : PySem.W.keepIn K (.ref C_BadWish) = true)
    (a_BadWish_init : PySem.W.findIn K (.ref C_BadWish) "__init__" = some (some (.ref f_BadWish_init)))
    (tI_BadWish : PySem.W.typeIn K (.ref f_BadWish_init) = some (.type "function"))
    (l_BadWish_init : K.lookup f_BadWish_init = some ⟨oc_BadWish, od_BadWish, .func (PySem.W.fnOf "__init__" "BadWish.__init__" (defArgs s_BadWish_init) (defBody s_BadWish_init) (defScope s_BadWish_init) .none kV_BadWish dc_BadWish pm_BadWish an_BadWish cd_BadWish ct_BadWish), sl_BadWish⟩)
    (c_BadWish_init : PySem.W.codeIn K cd_BadWish "BadWish.__init__" = true)
    (k_BadWish_init : PySem.W.keepIn K (.ref f_BadWish_init) = true)
    (nx_BadWish : PySem.W.findIn K (.ref C_BadWish) "part" = some none)
    (xl_OutOfPlace : K.lookup C_OutOfPlace = some (excClassObj nm_OutOfPlace q_OutOfPlace C_OutOfPlace N_OutOfPlace bs_OutOfPlace bm_OutOfPlace true sn_OutOfPlace sub_OutOfPlace ab_OutOfPlace col_OutOfPlace dd_OutOfPlace m0_OutOfPlace m1_OutOfPlace m2_OutOfPlace m3_OutOfPlace m5_OutOfPlace "ValueError.__new__"))
    (rv_OutOfPlace : PySem.HandSPX.refsVE bm_OutOfPlace = true)
    (sa_OutOfPlace : PySem.W.findIn K (.ref C_OutOfPlace) "__setattr__" = some (some (.builtin "object.__setattr__")))
    (kC_OutOfPlace : PySem.W.keepIn K (.ref C_OutOfPlace) = true)
    (a_OutOfPlace_init : PySem.W.findIn K (.ref C_OutOfPlace) "__init__" = some (some (.ref f_OutOfPlace_init)))
    (tI_OutOfPlace : PySem.W.typeIn K (.ref f_OutOfPlace_init) = some (.type "function"))
    (l_OutOfPlace_init : K.lookup f_OutOfPlace_init = some ⟨oc_OutOfPlace, od_OutOfPlace, .func (PySem.W.fnOf "__init__" "OutOfPlace.__init__" (defArgs s_OutOfPlace_init) (defBody s_OutOfPlace_init) (defScope s_OutOfPlace_init) .none kV_OutOfPlace dc_OutOfPlace pm_OutOfPlace an_OutOfPlace cd_OutOfPlace ct_OutOfPlace), sl_OutOfPlace⟩)
    (c_OutOfPlace_init : PySem.W.codeIn K cd_OutOfPlace "OutOfPlace.__init__" = true)
    (k_OutOfPlace_init : PySem.W.keepIn K (.ref f_OutOfPlace_init) = true)
    (vV_ValueError : PySem.W.findCls K (.type "ValueError") (.type "type") "__init__" = some (.val (.builtin "ValueError.__init__")))
    (a_is_count : PySem.W.nsIn K mainGlobals "is_count" = some (some (.ref f_is_count)))
    (l_is_count : K.lookup f_is_count = some ⟨oc_is_count, od_is_count, .func (PySem.W.fnOf "is_count" "is_count" (defArgs s_is_count) (defBody s_is_count) (defScope s_is_count) .none kV_is_count dc_is_count pm_is_count an_is_count cd_is_count ct_is_count), sl_is_count⟩)
    (c_is_count : PySem.W.codeIn K cd_is_count "is_count" = true)
    (k_is_count : PySem.W.keepIn K (.ref f_is_count) = true)
    (a_is_integer : PySem.W.nsIn K mainGlobals "is_integer" = some (some (.ref f_is_integer)))
    (l_is_integer : K.lookup f_is_integer = some ⟨oc_is_integer, od_is_integer, .func (PySem.W.fnOf "is_integer" "is_integer" (defArgs s_is_integer) (defBody s_is_integer) (defScope s_is_integer) .none kV_is_integer dc_is_integer pm_is_integer an_is_integer cd_is_integer ct_is_integer), sl_is_integer⟩)
    (c_is_integer : PySem.W.codeIn K cd_is_integer "is_integer" = true)
    (k_is_integer : PySem.W.keepIn K (.ref f_is_integer) = true)
    (a_is_triple : PySem.W.nsIn K mainGlobals "is_triple" = some (some (.ref f_is_triple)))
    (l_is_triple : K.lookup f_is_triple = some ⟨oc_is_triple, od_is_triple, .func (PySem.W.fnOf "is_triple" "is_triple" (defArgs s_is_triple) (defBody s_is_triple) (defScope s_is_triple) .none kV_is_triple dc_is_triple pm_is_triple an_is_triple cd_is_triple ct_is_triple), sl_is_triple⟩)
    (c_is_triple : PySem.W.codeIn K cd_is_triple "is_triple" = true)
    (k_is_triple : PySem.W.keepIn K (.ref f_is_triple) = true)
    (a_are_numbers : PySem.W.nsIn K mainGlobals "are_numbers" = some (some (.ref f_are_numbers)))
    (l_are_numbers : K.lookup f_are_numbers = some ⟨oc_are_numbers, od_are_numbers, .func (PySem.W.fnOf "are_numbers" "are_numbers" (defArgs s_are_numbers) (defBody s_are_numbers) (defScope s_are_numbers) .none kV_are_numbers dc_are_numbers pm_are_numbers an_are_numbers cd_are_numbers ct_are_numbers), sl_are_numbers⟩)
    (c_are_numbers : PySem.W.codeIn K cd_are_numbers "are_numbers" = true)
    (k_are_numbers : PySem.W.keepIn K (.ref f_are_numbers) = true)
    (a_are_ascending : PySem.W.nsIn K mainGlobals "are_ascending" = some (some (.ref f_are_ascending)))
    (l_are_ascending : K.lookup f_are_ascending = some ⟨oc_are_ascending, od_are_ascending, .func (PySem.W.fnOf "are_ascending" "are_ascending" (defArgs s_are_ascending) (defBody s_are_ascending) (defScope s_are_ascending) .none kV_are_ascending dc_are_ascending pm_are_ascending an_are_ascending cd_are_ascending ct_are_ascending), sl_are_ascending⟩)
    (c_are_ascending : PySem.W.codeIn K cd_are_ascending "are_ascending" = true)
    (k_are_ascending : PySem.W.keepIn K (.ref f_are_ascending) = true)
    (a_are_rising : PySem.W.nsIn K mainGlobals "are_rising" = some (some (.ref f_are_rising)))
    (l_are_rising : K.lookup f_are_rising = some ⟨oc_are_rising, od_are_rising, .func (PySem.W.fnOf "are_rising" "are_rising" (defArgs s_are_rising) (defBody s_are_rising) (defScope s_are_rising) .none kV_are_rising dc_are_rising pm_are_rising an_are_rising cd_are_rising ct_are_rising), sl_are_rising⟩)
    (c_are_rising : PySem.W.codeIn K cd_are_rising "are_rising" = true)
    (k_are_rising : PySem.W.keepIn K (.ref f_are_rising) = true)
    (a_need_wish : PySem.W.nsIn K mainGlobals "need_wish" = some (some (.ref f_need_wish)))
    (l_need_wish : K.lookup f_need_wish = some ⟨oc_need_wish, od_need_wish, .func (PySem.W.fnOf "need_wish" "need_wish" (defArgs s_need_wish) (defBody s_need_wish) (defScope s_need_wish) .none kV_need_wish dc_need_wish pm_need_wish an_need_wish cd_need_wish ct_need_wish), sl_need_wish⟩)
    (c_need_wish : PySem.W.codeIn K cd_need_wish "need_wish" = true)
    (k_need_wish : PySem.W.keepIn K (.ref f_need_wish) = true)
    (a_reached_states : PySem.W.nsIn K mainGlobals "reached_states" = some (some (.ref f_reached_states)))
    (l_reached_states : K.lookup f_reached_states = some ⟨oc_reached_states, od_reached_states, .func (PySem.W.fnOf "reached_states" "reached_states" (defArgs s_reached_states) (defBody s_reached_states) (defScope s_reached_states) .none kV_reached_states dc_reached_states pm_reached_states an_reached_states cd_reached_states ct_reached_states), sl_reached_states⟩)
    (c_reached_states : PySem.W.codeIn K cd_reached_states "reached_states" = true)
    (k_reached_states : PySem.W.keepIn K (.ref f_reached_states) = true)
    (a_are_steps : PySem.W.nsIn K mainGlobals "_are_steps" = some (some (.ref f_are_steps)))
    (l_are_steps : K.lookup f_are_steps = some ⟨oc_are_steps, od_are_steps, .func (PySem.W.fnOf "_are_steps" "_are_steps" (defArgs s_are_steps) (defBody s_are_steps) (defScope s_are_steps) .none kV_are_steps dc_are_steps pm_are_steps an_are_steps cd_are_steps ct_are_steps), sl_are_steps⟩)
    (c_are_steps : PySem.W.codeIn K cd_are_steps "_are_steps" = true)
    (k_are_steps : PySem.W.keepIn K (.ref f_are_steps) = true)
    (a_need_hold : PySem.W.nsIn K mainGlobals "need_hold" = some (some (.ref f_need_hold)))
    (l_need_hold : K.lookup f_need_hold = some ⟨oc_need_hold, od_need_hold, .func (PySem.W.fnOf "need_hold" "need_hold" (defArgs s_need_hold) (defBody s_need_hold) (defScope s_need_hold) .none kV_need_hold dc_need_hold pm_need_hold an_need_hold cd_need_hold ct_need_hold), sl_need_hold⟩)
    (c_need_hold : PySem.W.codeIn K cd_need_hold "need_hold" = true)
    (k_need_hold : PySem.W.keepIn K (.ref f_need_hold) = true)
    (a_need_ahead : PySem.W.nsIn K mainGlobals "need_ahead" = some (some (.ref f_need_ahead)))
    (l_need_ahead : K.lookup f_need_ahead = some ⟨oc_need_ahead, od_need_ahead, .func (PySem.W.fnOf "need_ahead" "need_ahead" (defArgs s_need_ahead) (defBody s_need_ahead) (defScope s_need_ahead) .none kV_need_ahead dc_need_ahead pm_need_ahead an_need_ahead cd_need_ahead ct_need_ahead), sl_need_ahead⟩)
    (c_need_ahead : PySem.W.codeIn K cd_need_ahead "need_ahead" = true)
    (k_need_ahead : PySem.W.keepIn K (.ref f_need_ahead) = true)
    (a_need_loose : PySem.W.nsIn K mainGlobals "need_loose" = some (some (.ref f_need_loose)))
    (l_need_loose : K.lookup f_need_loose = some ⟨oc_need_loose, od_need_loose, .func (PySem.W.fnOf "need_loose" "need_loose" (defArgs s_need_loose) (defBody s_need_loose) (defScope s_need_loose) .none kV_need_loose dc_need_loose pm_need_loose an_need_loose cd_need_loose ct_need_loose), sl_need_loose⟩)
    (c_need_loose : PySem.W.codeIn K cd_need_loose "need_loose" = true)
    (k_need_loose : PySem.W.keepIn K (.ref f_need_loose) = true)
    (a_least_hold : PySem.W.nsIn K mainGlobals "least_hold" = some (some (.ref f_least_hold)))
    (l_least_hold : K.lookup f_least_hold = some ⟨oc_least_hold, od_least_hold, .func (PySem.W.fnOf "least_hold" "least_hold" (defArgs s_least_hold) (defBody s_least_hold) (defScope s_least_hold) .none kV_least_hold dc_least_hold pm_least_hold an_least_hold cd_least_hold ct_least_hold), sl_least_hold⟩)
    (c_least_hold : PySem.W.codeIn K cd_least_hold "least_hold" = true)
    (k_least_hold : PySem.W.keepIn K (.ref f_least_hold) = true)
    (a_least_ahead : PySem.W.nsIn K mainGlobals "least_ahead" = some (some (.ref f_least_ahead)))
    (l_least_ahead : K.lookup f_least_ahead = some ⟨oc_least_ahead, od_least_ahead, .func (PySem.W.fnOf "least_ahead" "least_ahead" (defArgs s_least_ahead) (defBody s_least_ahead) (defScope s_least_ahead) .none kV_least_ahead dc_least_ahead pm_least_ahead an_least_ahead cd_least_ahead ct_least_ahead), sl_least_ahead⟩)
    (c_least_ahead : PySem.W.codeIn K cd_least_ahead "least_ahead" = true)
    (k_least_ahead : PySem.W.keepIn K (.ref f_least_ahead) = true)
    (a_need : PySem.W.nsIn K mainGlobals "need" = some (some (.ref f_need)))
    (l_need : K.lookup f_need = some ⟨oc_need, od_need, .func (PySem.W.fnOf "need" "need" (defArgs s_need) (defBody s_need) (defScope s_need) .none kV_need dc_need pm_need an_need cd_need ct_need), sl_need⟩)
    (c_need : PySem.W.codeIn K cd_need "need" = true)
    (k_need : PySem.W.keepIn K (.ref f_need) = true)
    (a_first_kept : PySem.W.nsIn K mainGlobals "_first_kept" = some (some (.ref f_first_kept)))
    (l_first_kept : K.lookup f_first_kept = some ⟨oc_first_kept, od_first_kept, .func (PySem.W.fnOf "_first_kept" "_first_kept" (defArgs s_first_kept) (defBody s_first_kept) (defScope s_first_kept) .none kV_first_kept dc_first_kept pm_first_kept an_first_kept cd_first_kept ct_first_kept), sl_first_kept⟩)
    (c_first_kept : PySem.W.codeIn K cd_first_kept "_first_kept" = true)
    (k_first_kept : PySem.W.keepIn K (.ref f_first_kept) = true)
    (a_is_part : PySem.W.nsIn K mainGlobals "is_part" = some (some (.ref f_is_part)))
    (l_is_part : K.lookup f_is_part = some ⟨oc_is_part, od_is_part, .func (PySem.W.fnOf "is_part" "is_part" (defArgs s_is_part) (defBody s_is_part) (defScope s_is_part) .none kV_is_part dc_is_part pm_is_part an_is_part cd_is_part ct_is_part), sl_is_part⟩)
    (c_is_part : PySem.W.codeIn K cd_is_part "is_part" = true)
    (k_is_part : PySem.W.keepIn K (.ref f_is_part) = true)
    (a_are_alike : PySem.W.nsIn K mainGlobals "are_alike" = some (some (.ref f_are_alike)))
    (l_are_alike : K.lookup f_are_alike = some ⟨oc_are_alike, od_are_alike, .func (PySem.W.fnOf "are_alike" "are_alike" (defArgs s_are_alike) (defBody s_are_alike) (defScope s_are_alike) .none kV_are_alike dc_are_alike pm_are_alike an_are_alike cd_are_alike ct_are_alike), sl_are_alike⟩)
    (c_are_alike : PySem.W.codeIn K cd_are_alike "are_alike" = true)
    (k_are_alike : PySem.W.keepIn K (.ref f_are_alike) = true)
    (a_parting : PySem.W.nsIn K mainGlobals "parting" = some (some (.ref f_parting)))
    (l_parting : K.lookup f_parting = some ⟨oc_parting, od_parting, .func (PySem.W.fnOf "parting" "parting" (defArgs s_parting) (defBody s_parting) (defScope s_parting) .none kV_parting dc_parting pm_parting an_parting cd_parting ct_parting), sl_parting⟩)
    (c_parting : PySem.W.codeIn K cd_parting "parting" = true)
    (k_parting : PySem.W.keepIn K (.ref f_parting) = true)
    (a_kept_part : PySem.W.nsIn K mainGlobals "kept_part" = some (some (.ref f_kept_part)))
    (l_kept_part : K.lookup f_kept_part = some ⟨oc_kept_part, od_kept_part, .func (PySem.W.fnOf "kept_part" "kept_part" (defArgs s_kept_part) (defBody s_kept_part) (defScope s_kept_part) .none kV_kept_part dc_kept_part pm_kept_part an_kept_part cd_kept_part ct_kept_part), sl_kept_part⟩)
    (c_kept_part : PySem.W.codeIn K cd_kept_part "kept_part" = true)
    (k_kept_part : PySem.W.keepIn K (.ref f_kept_part) = true)
    (a_need_both : PySem.W.nsIn K mainGlobals "_need_both" = some (some (.ref f_need_both)))
    (l_need_both : K.lookup f_need_both = some ⟨oc_need_both, od_need_both, .func (PySem.W.fnOf "_need_both" "_need_both" (defArgs s_need_both) (defBody s_need_both) (defScope s_need_both) .none kV_need_both dc_need_both pm_need_both an_need_both cd_need_both ct_need_both), sl_need_both⟩)
    (c_need_both : PySem.W.codeIn K cd_need_both "_need_both" = true)
    (k_need_both : PySem.W.keepIn K (.ref f_need_both) = true)
    (a_both_runs : PySem.W.nsIn K mainGlobals "_both_runs" = some (some (.ref f_both_runs)))
    (l_both_runs : K.lookup f_both_runs = some ⟨oc_both_runs, od_both_runs, .func (PySem.W.fnOf "_both_runs" "_both_runs" (defArgs s_both_runs) (defBody s_both_runs) (defScope s_both_runs) .none kV_both_runs dc_both_runs pm_both_runs an_both_runs cd_both_runs ct_both_runs), sl_both_runs⟩)
    (c_both_runs : PySem.W.codeIn K cd_both_runs "_both_runs" = true)
    (k_both_runs : PySem.W.keepIn K (.ref f_both_runs) = true)
    (a_sure_states : PySem.W.nsIn K mainGlobals "_sure_states" = some (some (.ref f_sure_states)))
    (l_sure_states : K.lookup f_sure_states = some ⟨oc_sure_states, od_sure_states, .func (PySem.W.fnOf "_sure_states" "_sure_states" (defArgs s_sure_states) (defBody s_sure_states) (defScope s_sure_states) .none kV_sure_states dc_sure_states pm_sure_states an_sure_states cd_sure_states ct_sure_states), sl_sure_states⟩)
    (c_sure_states : PySem.W.codeIn K cd_sure_states "_sure_states" = true)
    (k_sure_states : PySem.W.keepIn K (.ref f_sure_states) = true)
    (a_law_begun : PySem.W.nsIn K mainGlobals "_law_begun" = some (some (.ref f_law_begun)))
    (l_law_begun : K.lookup f_law_begun = some ⟨oc_law_begun, od_law_begun, .func (PySem.W.fnOf "_law_begun" "_law_begun" (defArgs s_law_begun) (defBody s_law_begun) (defScope s_law_begun) .none kV_law_begun dc_law_begun pm_law_begun an_law_begun cd_law_begun ct_law_begun), sl_law_begun⟩)
    (c_law_begun : PySem.W.codeIn K cd_law_begun "_law_begun" = true)
    (k_law_begun : PySem.W.keepIn K (.ref f_law_begun) = true)
    (a_law_next : PySem.W.nsIn K mainGlobals "_law_next" = some (some (.ref f_law_next)))
    (l_law_next : K.lookup f_law_next = some ⟨oc_law_next, od_law_next, .func (PySem.W.fnOf "_law_next" "_law_next" (defArgs s_law_next) (defBody s_law_next) (defScope s_law_next) .none kV_law_next dc_law_next pm_law_next an_law_next cd_law_next ct_law_next), sl_law_next⟩)
    (c_law_next : PySem.W.codeIn K cd_law_next "_law_next" = true)
    (k_law_next : PySem.W.keepIn K (.ref f_law_next) = true)
    (a_law_want : PySem.W.nsIn K mainGlobals "_law_want" = some (some (.ref f_law_want)))
    (l_law_want : K.lookup f_law_want = some ⟨oc_law_want, od_law_want, .func (PySem.W.fnOf "_law_want" "_law_want" (defArgs s_law_want) (defBody s_law_want) (defScope s_law_want) .none kV_law_want dc_law_want pm_law_want an_law_want cd_law_want ct_law_want), sl_law_want⟩)
    (c_law_want : PySem.W.codeIn K cd_law_want "_law_want" = true)
    (k_law_want : PySem.W.keepIn K (.ref f_law_want) = true)
    (a_law_outcome : PySem.W.nsIn K mainGlobals "_law_outcome" = some (some (.ref f_law_outcome)))
    (l_law_outcome : K.lookup f_law_outcome = some ⟨oc_law_outcome, od_law_outcome, .func (PySem.W.fnOf "_law_outcome" "_law_outcome" (defArgs s_law_outcome) (defBody s_law_outcome) (defScope s_law_outcome) .none kV_law_outcome dc_law_outcome pm_law_outcome an_law_outcome cd_law_outcome ct_law_outcome), sl_law_outcome⟩)
    (c_law_outcome : PySem.W.codeIn K cd_law_outcome "_law_outcome" = true)
    (k_law_outcome : PySem.W.keepIn K (.ref f_law_outcome) = true)
    (a_law_calls : PySem.W.nsIn K mainGlobals "_law_calls" = some (some (.ref f_law_calls)))
    (l_law_calls : K.lookup f_law_calls = some ⟨oc_law_calls, od_law_calls, .func (PySem.W.fnOf "_law_calls" "_law_calls" (defArgs s_law_calls) (defBody s_law_calls) (defScope s_law_calls) .none kV_law_calls dc_law_calls pm_law_calls an_law_calls cd_law_calls ct_law_calls), sl_law_calls⟩)
    (c_law_calls : PySem.W.codeIn K cd_law_calls "_law_calls" = true)
    (k_law_calls : PySem.W.keepIn K (.ref f_law_calls) = true)
    (a_law_told : PySem.W.nsIn K mainGlobals "_law_told" = some (some (.ref f_law_told)))
    (l_law_told : K.lookup f_law_told = some ⟨oc_law_told, od_law_told, .func (PySem.W.fnOf "_law_told" "_law_told" (defArgs s_law_told) (defBody s_law_told) (defScope s_law_told) .none kV_law_told dc_law_told pm_law_told an_law_told cd_law_told ct_law_told), sl_law_told⟩)
    (c_law_told : PySem.W.codeIn K cd_law_told "_law_told" = true)
    (k_law_told : PySem.W.keepIn K (.ref f_law_told) = true)
    (a_law : PySem.W.nsIn K mainGlobals "law" = some (some (.ref f_law)))
    (l_law : K.lookup f_law = some ⟨oc_law, od_law, .func (PySem.W.fnOf "law" "law" (defArgs s_law) (defBody s_law) (defScope s_law) .none kV_law dc_law pm_law an_law cd_law ct_law), sl_law⟩)
    (c_law : PySem.W.codeIn K cd_law "law" = true)
    (k_law : PySem.W.keepIn K (.ref f_law) = true)
    (xg_BadWish : PySem.W.findIn K (.ref C_BadWish) "__getattribute__" = some (some (.builtin "BaseException.__getattribute__")))
    (xh_BadWish : PySem.W.findIn K (.ref C_BadWish) "__getattr__" = some none)
    (xd_BadWish : PySem.W.hasDictIn K C_BadWish = true)
    (xa_BadWish_part : PySem.W.findIn K (.ref C_BadWish) "part" = some none)
    (tk_law_calls : tabOf K cd_law_calls = some q_law_calls)
    (tk_law : tabOf K cd_law = some q_law)
    (z_ValueError : PySem.W.nsIn K mainGlobals "ValueError" = some none)
    (z_all : PySem.W.nsIn K mainGlobals "all" = some none)
    (z_any : PySem.W.nsIn K mainGlobals "any" = some none)
    (z_bool : PySem.W.nsIn K mainGlobals "bool" = some none)
    (z_MOST_AHEAD : PySem.W.nsIn K mainGlobals "MOST_AHEAD" = some (some (.int 2 t_MOST_AHEAD)))
    (z_MOST_DEEDS : PySem.W.nsIn K mainGlobals "MOST_DEEDS" = some (some (.int 4 t_MOST_DEEDS)))
    (z_MOST_HELD : PySem.W.nsIn K mainGlobals "MOST_HELD" = some (some (.int 3 t_MOST_HELD)))
    (z_MOST_STATES : PySem.W.nsIn K mainGlobals "MOST_STATES" = some (some (.int 6 t_MOST_STATES)))
    (z_enumerate : PySem.W.nsIn K mainGlobals "enumerate" = some none)
    (z_int : PySem.W.nsIn K mainGlobals "int" = some none)
    (z_isinstance : PySem.W.nsIn K mainGlobals "isinstance" = some none)
    (z_len : PySem.W.nsIn K mainGlobals "len" = some none)
    (z_list : PySem.W.nsIn K mainGlobals "list" = some none)
    (z_min : PySem.W.nsIn K mainGlobals "min" = some none)
    (z_range : PySem.W.nsIn K mainGlobals "range" = some none)
    (z_set : PySem.W.nsIn K mainGlobals "set" = some none)
    (z_sorted : PySem.W.nsIn K mainGlobals "sorted" = some none)
    (z_tuple : PySem.W.nsIn K mainGlobals "tuple" = some none)
    (z_zip : PySem.W.nsIn K mainGlobals "zip" = some none)
    : ∃ (cs : List (Addr × Addr)) (fd : FuncData), (∀ p ∈ cs, PySem.W.CodeHd h p.1 p.2 ∧ h.get? p.2 = some { cls := .none, data := .fields #[] } ∧ K.lookup p.2 = none) ∧ (∀ (s : Shared) (u : Value), BindsTo s fd ⟨[u], []⟩ [("script", u)]) ∧ ∀ base : Heap, K.In base → base.Ns mainGlobals mg → (∀ p ∈ cs, LamX.TabB base mg p.1 p.2) → FnG l.prog w K mg base (L2.CX l.prog w) 12 fa fd ["script"] (spD ⟨K, w, l.prog⟩ (MM (cs.map (·.2))) 1 W_law) := by
  have e := hfa.symm.trans (PySem.W.mg_of X G a_law)
  cases e
  have T : Txt mg := ⟨PySem.W.mg_none_of X G z_ValueError, PySem.W.mg_none_of X G z_all, PySem.W.mg_none_of X G z_any, PySem.W.mg_none_of X G z_bool, ⟨_, PySem.W.mg_of X G z_MOST_AHEAD⟩, ⟨_, PySem.W.mg_of X G z_MOST_DEEDS⟩, ⟨_, PySem.W.mg_of X G z_MOST_HELD⟩, ⟨_, PySem.W.mg_of X G z_MOST_STATES⟩, PySem.W.mg_none_of X G z_enumerate, PySem.W.mg_none_of X G z_int, PySem.W.mg_none_of X G z_isinstance, PySem.W.mg_none_of X G z_len, PySem.W.mg_none_of X G z_list, PySem.W.mg_none_of X G z_min, PySem.W.mg_none_of X G z_range, PySem.W.mg_none_of X G z_set, PySem.W.mg_none_of X G z_sorted, PySem.W.mg_none_of X G z_tuple, PySem.W.mg_none_of X G z_zip⟩
  have F_is_count := fun_mk (st := s_is_count) l_is_count c_is_count k_is_count
  have b_is_count := F_is_count.binds (ps := ["thing"]) fun _ _ _ _ _ _ us hl => match us, hl with | [_], _ => rfl
  have F_is_integer := fun_mk (st := s_is_integer) l_is_integer c_is_integer k_is_integer
  have b_is_integer := F_is_integer.binds (ps := ["thing", "least", "most"]) fun _ _ _ _ _ _ us hl => match us, hl with | [_, _, _], _ => rfl
  have F_is_triple := fun_mk (st := s_is_triple) l_is_triple c_is_triple k_is_triple
  have b_is_triple := F_is_triple.binds (ps := ["thing"]) fun _ _ _ _ _ _ us hl => match us, hl with | [_], _ => rfl
  have F_are_numbers := fun_mk (st := s_are_numbers) l_are_numbers c_are_numbers k_are_numbers
  have b_are_numbers := F_are_numbers.binds (ps := ["thing", "many"]) fun _ _ _ _ _ _ us hl => match us, hl with | [_, _], _ => rfl
  have F_are_ascending := fun_mk (st := s_are_ascending) l_are_ascending c_are_ascending k_are_ascending
  have b_are_ascending := F_are_ascending.binds (ps := ["thing", "many"]) fun _ _ _ _ _ _ us hl => match us, hl with | [_, _], _ => rfl
  have F_are_rising := fun_mk (st := s_are_rising) l_are_rising c_are_rising k_are_rising
  have b_are_rising := F_are_rising.binds (ps := ["things"]) fun _ _ _ _ _ _ us hl => match us, hl with | [_], _ => rfl
  have F_need_wish := fun_mk (st := s_need_wish) l_need_wish c_need_wish k_need_wish
  have b_need_wish := F_need_wish.binds (ps := ["thing"]) fun _ _ _ _ _ _ us hl => match us, hl with | [_], _ => rfl
  have F_reached_states := fun_mk (st := s_reached_states) l_reached_states c_reached_states k_reached_states
  have b_reached_states := F_reached_states.binds (ps := ["steps", "states"]) fun _ _ _ _ _ _ us hl => match us, hl with | [_, _], _ => rfl
  have F_are_steps := fun_mk (st := s_are_steps) l_are_steps c_are_steps k_are_steps
  have b_are_steps := F_are_steps.binds (ps := ["thing", "deeds"]) fun _ _ _ _ _ _ us hl => match us, hl with | [_, _], _ => rfl
  have F_need_hold := fun_mk (st := s_need_hold) l_need_hold c_need_hold k_need_hold
  have b_need_hold := F_need_hold.binds (ps := ["thing"]) fun _ _ _ _ _ _ us hl => match us, hl with | [_], _ => rfl
  have F_need_ahead := fun_mk (st := s_need_ahead) l_need_ahead c_need_ahead k_need_ahead
  have b_need_ahead := F_need_ahead.binds (ps := ["thing"]) fun _ _ _ _ _ _ us hl => match us, hl with | [_], _ => rfl
  have F_need_loose := fun_mk (st := s_need_loose) l_need_loose c_need_loose k_need_loose
  have b_need_loose := F_need_loose.binds (ps := ["wish", "thing"]) fun _ _ _ _ _ _ us hl => match us, hl with | [_, _], _ => rfl
  have F_least_hold := fun_mk (st := s_least_hold) l_least_hold c_least_hold k_least_hold
  have b_least_hold := F_least_hold.binds (ps := ["wish", "ahead", "loose"]) fun _ _ _ _ _ _ us hl => match us, hl with | [_, _, _], _ => rfl
  have F_least_ahead := fun_mk (st := s_least_ahead) l_least_ahead c_least_ahead k_least_ahead
  have b_least_ahead := F_least_ahead.binds (ps := ["wish", "hold", "loose"]) fun _ _ _ _ _ _ us hl => match us, hl with | [_, _, _], _ => rfl
  have F_need := fun_mk (st := s_need) l_need c_need k_need
  have b_need := F_need.binds (ps := ["wish"]) fun _ _ _ _ _ _ us hl => match us, hl with | [_], _ => rfl
  have F_first_kept := fun_mk (st := s_first_kept) l_first_kept c_first_kept k_first_kept
  have b_first_kept := F_first_kept.binds (ps := ["wish", "kinds"]) fun _ _ _ _ _ _ us hl => match us, hl with | [_, _], _ => rfl
  have F_is_part := fun_mk (st := s_is_part) l_is_part c_is_part k_is_part
  have b_is_part := F_is_part.binds (ps := ["wish", "other"]) fun _ _ _ _ _ _ us hl => match us, hl with | [_, _], _ => rfl
  have F_are_alike := fun_mk (st := s_are_alike) l_are_alike c_are_alike k_are_alike
  have b_are_alike := F_are_alike.binds (ps := ["wish", "other"]) fun _ _ _ _ _ _ us hl => match us, hl with | [_, _], _ => rfl
  have F_parting := fun_mk (st := s_parting) l_parting c_parting k_parting
  have b_parting := F_parting.binds (ps := ["wish", "other"]) fun _ _ _ _ _ _ us hl => match us, hl with | [_, _], _ => rfl
  have F_kept_part := fun_mk (st := s_kept_part) l_kept_part c_kept_part k_kept_part
  have b_kept_part := F_kept_part.binds (ps := ["wish", "loose"]) fun _ _ _ _ _ _ us hl => match us, hl with | [_, _], _ => rfl
  have F_need_both := fun_mk (st := s_need_both) l_need_both c_need_both k_need_both
  have b_need_both := F_need_both.binds (ps := ["wish", "other"]) fun _ _ _ _ _ _ us hl => match us, hl with | [_, _], _ => rfl
  have F_both_runs := fun_mk (st := s_both_runs) l_both_runs c_both_runs k_both_runs
  have b_both_runs := F_both_runs.binds (ps := ["wish", "other"]) fun _ _ _ _ _ _ us hl => match us, hl with | [_, _], _ => rfl
  have F_sure_states := fun_mk (st := s_sure_states) l_sure_states c_sure_states k_sure_states
  have b_sure_states := F_sure_states.binds (ps := ["steps", "good", "loose"]) fun _ _ _ _ _ _ us hl => match us, hl with | [_, _, _], _ => rfl
  have F_law_begun := fun_mk (st := s_law_begun) l_law_begun c_law_begun k_law_begun
  have b_law_begun := F_law_begun.binds (ps := ["script"]) fun _ _ _ _ _ _ us hl => match us, hl with | [_], _ => rfl
  have F_law_next := fun_mk (st := s_law_next) l_law_next c_law_next k_law_next
  have b_law_next := F_law_next.binds (ps := ["m", "total"]) fun _ _ _ _ _ _ us hl => match us, hl with | [_, _], _ => rfl
  have F_law_want := fun_mk (st := s_law_want) l_law_want c_law_want k_law_want
  have b_law_want := F_law_want.binds (ps := ["m", "deeds", "states"]) fun _ _ _ _ _ _ us hl => match us, hl with | [_, _, _], _ => rfl
  have F_law_outcome := fun_mk (st := s_law_outcome) l_law_outcome c_law_outcome k_law_outcome
  have b_law_outcome := F_law_outcome.binds (ps := ["call"]) fun _ _ _ _ _ _ us hl => match us, hl with | [_], _ => rfl
  have F_law_calls := fun_mk (st := s_law_calls) l_law_calls c_law_calls k_law_calls
  have b_law_calls := F_law_calls.binds (ps := ["want", "one", "two"]) fun _ _ _ _ _ _ us hl => match us, hl with | [_, _, _], _ => rfl
  have F_law_told := fun_mk (st := s_law_told) l_law_told c_law_told k_law_told
  have b_law_told := F_law_told.binds (ps := ["want", "one", "two"]) fun _ _ _ _ _ _ us hl => match us, hl with | [_, _, _], _ => rfl
  have F_law := fun_mk (st := s_law) l_law c_law k_law
  have b_law := F_law.binds (ps := ["script"]) fun _ _ _ _ _ _ us hl => match us, hl with | [_], _ => rfl
  have F_BadWish_init := fun_mk (st := s_BadWish_init) l_BadWish_init c_BadWish_init k_BadWish_init
  have B_BadWish := F_BadWish_init.binds (ps := ["self", "part"]) fun _ _ _ _ _ _ us hl => match us, hl with | [_, _], _ => rfl
  have O_BadWish : OexC K C_BadWish := ⟨⟨_, _, _, _, _, _, _, _, _, _, _, _, _, _, _, xl_BadWish, rv_BadWish⟩, sa_BadWish, eC_BadWish, tC_BadWish, kC_BadWish⟩
  have F_OutOfPlace_init := fun_mk (st := s_OutOfPlace_init) l_OutOfPlace_init c_OutOfPlace_init k_OutOfPlace_init
  have B_OutOfPlace := F_OutOfPlace_init.binds (ps := ["self", "text"]) fun _ _ _ _ _ _ us hl => match us, hl with | [_, _], _ => rfl
  have O_OutOfPlace : OexC K C_OutOfPlace := ⟨⟨_, _, _, _, _, _, _, _, _, _, _, _, _, _, _, xl_OutOfPlace, rv_OutOfPlace⟩, sa_OutOfPlace, eC_OutOfPlace, tC_OutOfPlace, kC_OutOfPlace⟩
  obtain ⟨cT_law_calls, PT_law_calls, ta_law_calls⟩ := HT "_law_calls" (by decide)
  have tm_law_calls := tab_mk X (PySem.W.mg_of X G a_law_calls) l_law_calls rfl tk_law_calls ta_law_calls
  obtain ⟨cT_law, PT_law, ta_law⟩ := HT "law" (by decide)
  have tm_law := tab_mk X (PySem.W.mg_of X G a_law) l_law rfl tk_law ta_law
  refine ⟨[(cT_law_calls, PT_law_calls), (cT_law, PT_law)], PySem.W.fnOf "law" "law" (defArgs s_law) (defBody s_law) (defScope s_law) .none kV_law dc_law pm_law an_law cd_law ct_law, ?_, fun s v => .of_eq rfl, fun base _ _ hTB => ?_⟩
  · exact List.forall_mem_cons.mpr ⟨tm_law_calls.2, List.forall_mem_cons.mpr ⟨tm_law.2, fun _ h => nomatch h⟩⟩
  simp only [List.map_cons, List.map_nil]
  have tb_law_calls : MkTab (MM [PT_law_calls, PT_law]) mg base _ := ⟨cT_law_calls, PT_law_calls, tm_law_calls.1, hTB (cT_law_calls, PT_law_calls) (by simp), by show PT_law_calls ∈ [PT_law_calls, PT_law]; simp⟩
  have tb_law : MkTab (MM [PT_law_calls, PT_law]) mg base _ := ⟨cT_law, PT_law, tm_law.1, hTB (cT_law, PT_law) (by simp), by show PT_law ∈ [PT_law_calls, PT_law]; simp⟩
  have te_BadWish := exm_of eC_BadWish iC_BadWish tC_BadWish sC_BadWish
  have te_OutOfPlace := exm_of eC_OutOfPlace iC_OutOfPlace tC_OutOfPlace sC_OutOfPlace
  have te_BadWish_OutOfPlace := exm_of eC_OutOfPlace iC_OutOfPlace tC_OutOfPlace sC_BadWish_OutOfPlace
  have te_OutOfPlace_BadWish := exm_of eC_BadWish iC_BadWish tC_BadWish sC_OutOfPlace_BadWish
  have N_BadWish := fnx_BadWish (P := l.prog) (w := w) (base := base) F_BadWish_init T O_BadWish nx_BadWish vV_ValueError
  have N_OutOfPlace := fnx_OutOfPlace (P := l.prog) (w := w) (base := base) F_OutOfPlace_init T O_OutOfPlace vV_ValueError
  have G_is_count : FnG l.prog w K mg base (L2.CX l.prog w) 1 f_is_count _ ["thing"] (spD ⟨K, w, l.prog⟩ (MM [PT_law_calls, PT_law]) 1 W_is_count) := (raw_is_count (P := l.prog) (w := w) (base := base) (F := F_is_count) (T := T) ).imp (spD_imp (by first | exact ok_is_count | exact ok_is_count _ | exact ok_is_count te_BadWish te_OutOfPlace te_BadWish_OutOfPlace te_OutOfPlace_BadWish))
  have G_is_triple : FnG l.prog w K mg base (L2.CX l.prog w) 1 f_is_triple _ ["thing"] (spD ⟨K, w, l.prog⟩ (MM [PT_law_calls, PT_law]) 1 W_is_triple) := (raw_is_triple (P := l.prog) (w := w) (base := base) (F := F_is_triple) (T := T) ).imp (spD_imp (by first | exact ok_is_triple | exact ok_is_triple _ | exact ok_is_triple te_BadWish te_OutOfPlace te_BadWish_OutOfPlace te_OutOfPlace_BadWish))
  have G_are_rising : FnG l.prog w K mg base (L2.CX l.prog w) 1 f_are_rising _ ["things"] (spD ⟨K, w, l.prog⟩ (MM [PT_law_calls, PT_law]) 1 W_are_rising) := (raw_are_rising (P := l.prog) (w := w) (base := base) (F := F_are_rising) (T := T) ).imp (spD_imp (by first | exact ok_are_rising | exact ok_are_rising _ | exact ok_are_rising te_BadWish te_OutOfPlace te_BadWish_OutOfPlace te_OutOfPlace_BadWish))
  have G_reached_states : FnG l.prog w K mg base (L2.CX l.prog w) 1 f_reached_states _ ["steps", "states"] (spD ⟨K, w, l.prog⟩ (MM [PT_law_calls, PT_law]) 2 W_reached_states) := (raw_reached_states (P := l.prog) (w := w) (base := base) (F := F_reached_states) (T := T) ).imp (spD_imp (by first | exact ok_reached_states | exact ok_reached_states _ | exact ok_reached_states te_BadWish te_OutOfPlace te_BadWish_OutOfPlace te_OutOfPlace_BadWish))
  have G_first_kept : FnG l.prog w K mg base (L2.CX l.prog w) 1 f_first_kept _ ["wish", "kinds"] (spD ⟨K, w, l.prog⟩ (MM [PT_law_calls, PT_law]) 2 W_first_kept) := never_of F_first_kept
  have G_both_runs : FnG l.prog w K mg base (L2.CX l.prog w) 1 f_both_runs _ ["wish", "other"] (spD ⟨K, w, l.prog⟩ (MM [PT_law_calls, PT_law]) 2 W_both_runs) := never_of F_both_runs
  have G_sure_states : FnG l.prog w K mg base (L2.CX l.prog w) 1 f_sure_states _ ["steps", "good", "loose"] (spD ⟨K, w, l.prog⟩ (MM [PT_law_calls, PT_law]) 3 W_sure_states) := (raw_sure_states (P := l.prog) (w := w) (base := base) (F := F_sure_states) (T := T) ).imp (spD_imp (by first | exact ok_sure_states | exact ok_sure_states _ | exact ok_sure_states te_BadWish te_OutOfPlace te_BadWish_OutOfPlace te_OutOfPlace_BadWish))
  have G_law_begun := ok_law_begun (P := l.prog) (w := w) (base := base) (TT := [PT_law_calls, PT_law]) F_law_begun T
  have G_law_next := ok_law_next (P := l.prog) (w := w) (base := base) (TT := [PT_law_calls, PT_law]) F_law_next T
  have G_is_integer : FnG l.prog w K mg base (L2.CX l.prog w) 2 f_is_integer _ ["thing", "least", "most"] (spD ⟨K, w, l.prog⟩ (MM [PT_law_calls, PT_law]) 3 W_is_integer) := (raw_is_integer (P := l.prog) (w := w) (base := base) (F := F_is_integer) (T := T) (g_is_count := PySem.W.mg_of X G a_is_count) (G_is_count := G_is_count) (b_is_count := b_is_count) (k_is_count := k_is_count)).imp (spD_imp (by first | exact ok_is_integer | exact ok_is_integer _ | exact ok_is_integer te_BadWish te_OutOfPlace te_BadWish_OutOfPlace te_OutOfPlace_BadWish))
  have G_law_want : FnG l.prog w K mg base (L2.CX l.prog w) 2 f_law_want _ ["m", "deeds", "states"] (spD ⟨K, w, l.prog⟩ (MM [PT_law_calls, PT_law]) 3 W_law_want) := (raw_law_want (P := l.prog) (w := w) (base := base) (F := F_law_want) (T := T) (g_law_next := PySem.W.mg_of X G a_law_next) (G_law_next := G_law_next) (b_law_next := b_law_next) (k_law_next := k_law_next)).imp (spD_imp (by first | exact ok_law_want | exact ok_law_want _ | exact ok_law_want te_BadWish te_OutOfPlace te_BadWish_OutOfPlace te_OutOfPlace_BadWish))
  have G_are_numbers : FnG l.prog w K mg base (L2.CX l.prog w) 3 f_are_numbers _ ["thing", "many"] (spD ⟨K, w, l.prog⟩ (MM [PT_law_calls, PT_law]) 2 W_are_numbers) := (raw_are_numbers (P := l.prog) (w := w) (base := base) (F := F_are_numbers) (T := T) (g_is_integer := PySem.W.mg_of X G a_is_integer) (G_is_integer := G_is_integer) (b_is_integer := b_is_integer) (k_is_integer := k_is_integer)).imp (spD_imp (by first | exact ok_are_numbers | exact ok_are_numbers _ | exact ok_are_numbers te_BadWish te_OutOfPlace te_BadWish_OutOfPlace te_OutOfPlace_BadWish))
  have G_need_hold : FnG l.prog w K mg base (L2.CX l.prog w) 3 f_need_hold _ ["thing"] (spX ⟨K, w, l.prog⟩ (MM [PT_law_calls, PT_law]) 1 W_need_hold (U_need_hold C_OutOfPlace)) := (raw_need_hold (P := l.prog) (w := w) (base := base) (F := F_need_hold) (T := T) (g_is_integer := PySem.W.mg_of X G a_is_integer) (m_OutOfPlace := PySem.W.mg_of X G a_OutOfPlace) (G_is_integer := G_is_integer) (b_is_integer := b_is_integer) (k_is_integer := k_is_integer) (Z_OutOfPlace := ⟨O_OutOfPlace, a_OutOfPlace_init, tI_OutOfPlace⟩) (N_OutOfPlace := N_OutOfPlace) (B_OutOfPlace := B_OutOfPlace)).imp (spX_imp (by first | exact ok_need_hold | exact ok_need_hold _ | exact ok_need_hold te_BadWish te_OutOfPlace te_BadWish_OutOfPlace te_OutOfPlace_BadWish) (okx_need_hold C_OutOfPlace))
  have G_need_ahead : FnG l.prog w K mg base (L2.CX l.prog w) 3 f_need_ahead _ ["thing"] (spX ⟨K, w, l.prog⟩ (MM [PT_law_calls, PT_law]) 1 W_need_ahead (U_need_ahead C_OutOfPlace)) := (raw_need_ahead (P := l.prog) (w := w) (base := base) (F := F_need_ahead) (T := T) (g_is_integer := PySem.W.mg_of X G a_is_integer) (m_OutOfPlace := PySem.W.mg_of X G a_OutOfPlace) (G_is_integer := G_is_integer) (b_is_integer := b_is_integer) (k_is_integer := k_is_integer) (Z_OutOfPlace := ⟨O_OutOfPlace, a_OutOfPlace_init, tI_OutOfPlace⟩) (N_OutOfPlace := N_OutOfPlace) (B_OutOfPlace := B_OutOfPlace)).imp (spX_imp (by first | exact ok_need_ahead | exact ok_need_ahead _ | exact ok_need_ahead te_BadWish te_OutOfPlace te_BadWish_OutOfPlace te_OutOfPlace_BadWish) (okx_need_ahead C_OutOfPlace))
  have G_are_ascending : FnG l.prog w K mg base (L2.CX l.prog w) 4 f_are_ascending _ ["thing", "many"] (spD ⟨K, w, l.prog⟩ (MM [PT_law_calls, PT_law]) 2 W_are_ascending) := (raw_are_ascending (P := l.prog) (w := w) (base := base) (F := F_are_ascending) (T := T) (g_are_numbers := PySem.W.mg_of X G a_are_numbers) (g_are_rising := PySem.W.mg_of X G a_are_rising) (G_are_numbers := G_are_numbers) (b_are_numbers := b_are_numbers) (k_are_numbers := k_are_numbers) (G_are_rising := G_are_rising) (b_are_rising := b_are_rising) (k_are_rising := k_are_rising)).imp (spD_imp (by first | exact ok_are_ascending | exact ok_are_ascending _ | exact ok_are_ascending te_BadWish te_OutOfPlace te_BadWish_OutOfPlace te_OutOfPlace_BadWish))
  have G_are_steps : FnG l.prog w K mg base (L2.CX l.prog w) 4 f_are_steps _ ["thing", "deeds"] (spD ⟨K, w, l.prog⟩ (MM [PT_law_calls, PT_law]) 2 W_are_steps) := (raw_are_steps (P := l.prog) (w := w) (base := base) (F := F_are_steps) (T := T) (g_are_numbers := PySem.W.mg_of X G a_are_numbers) (G_are_numbers := G_are_numbers) (b_are_numbers := b_are_numbers) (k_are_numbers := k_are_numbers)).imp (spD_imp (by first | exact ok_are_steps | exact ok_are_steps _ | exact ok_are_steps te_BadWish te_OutOfPlace te_BadWish_OutOfPlace te_OutOfPlace_BadWish))
  have G_need_wish : FnG l.prog w K mg base (L2.CX l.prog w) 5 f_need_wish _ ["thing"] (spX ⟨K, w, l.prog⟩ (MM [PT_law_calls, PT_law]) 1 W_need_wish (U_need_wish C_BadWish)) := (raw_need_wish (P := l.prog) (w := w) (base := base) (F := F_need_wish) (T := T) (g_is_integer := PySem.W.mg_of X G a_is_integer) (g_is_triple := PySem.W.mg_of X G a_is_triple) (g_are_ascending := PySem.W.mg_of X G a_are_ascending) (g_are_steps := PySem.W.mg_of X G a_are_steps) (m_BadWish := PySem.W.mg_of X G a_BadWish) (G_is_integer := G_is_integer) (b_is_integer := b_is_integer) (k_is_integer := k_is_integer) (G_is_triple := G_is_triple) (b_is_triple := b_is_triple) (k_is_triple := k_is_triple) (G_are_ascending := G_are_ascending) (b_are_ascending := b_are_ascending) (k_are_ascending := k_are_ascending) (G_are_steps := G_are_steps) (b_are_steps := b_are_steps) (k_are_steps := k_are_steps) (Z_BadWish := ⟨O_BadWish, a_BadWish_init, tI_BadWish⟩) (N_BadWish := N_BadWish) (B_BadWish := B_BadWish)).imp (spX_imp (by first | exact ok_need_wish | exact ok_need_wish _ | exact ok_need_wish te_BadWish te_OutOfPlace te_BadWish_OutOfPlace te_OutOfPlace_BadWish) (okx_need_wish C_BadWish))
  have G_need_loose : FnG l.prog w K mg base (L2.CX l.prog w) 5 f_need_loose _ ["wish", "thing"] (spX ⟨K, w, l.prog⟩ (MM [PT_law_calls, PT_law]) 2 W_need_loose (U_need_loose C_OutOfPlace)) := (raw_need_loose (P := l.prog) (w := w) (base := base) (F := F_need_loose) (T := T) (g_are_ascending := PySem.W.mg_of X G a_are_ascending) (m_OutOfPlace := PySem.W.mg_of X G a_OutOfPlace) (G_are_ascending := G_are_ascending) (b_are_ascending := b_are_ascending) (k_are_ascending := k_are_ascending) (Z_OutOfPlace := ⟨O_OutOfPlace, a_OutOfPlace_init, tI_OutOfPlace⟩) (N_OutOfPlace := N_OutOfPlace) (B_OutOfPlace := B_OutOfPlace)).imp (spX_imp (by first | exact ok_need_loose | exact ok_need_loose _ | exact ok_need_loose te_BadWish te_OutOfPlace te_BadWish_OutOfPlace te_OutOfPlace_BadWish) (okx_need_loose C_OutOfPlace))
  have G_least_hold : FnG l.prog w K mg base (L2.CX l.prog w) 6 f_least_hold _ ["wish", "ahead", "loose"] (spX ⟨K, w, l.prog⟩ (MM [PT_law_calls, PT_law]) 3 W_least_hold (U_least_hold C_BadWish C_OutOfPlace)) := (raw_least_hold (P := l.prog) (w := w) (base := base) (F := F_least_hold) (T := T) (g_need_wish := PySem.W.mg_of X G a_need_wish) (g_need_ahead := PySem.W.mg_of X G a_need_ahead) (g_need_loose := PySem.W.mg_of X G a_need_loose) (G_need_wish := G_need_wish) (b_need_wish := b_need_wish) (k_need_wish := k_need_wish) (G_need_ahead := G_need_ahead) (b_need_ahead := b_need_ahead) (k_need_ahead := k_need_ahead) (G_need_loose := G_need_loose) (b_need_loose := b_need_loose) (k_need_loose := k_need_loose)).imp (spX_imp (by first | exact ok_least_hold | exact ok_least_hold _ | exact ok_least_hold te_BadWish te_OutOfPlace te_BadWish_OutOfPlace te_OutOfPlace_BadWish) (okx_least_hold C_BadWish C_OutOfPlace))
  have G_least_ahead : FnG l.prog w K mg base (L2.CX l.prog w) 6 f_least_ahead _ ["wish", "hold", "loose"] (spX ⟨K, w, l.prog⟩ (MM [PT_law_calls, PT_law]) 3 W_least_ahead (U_least_ahead C_BadWish C_OutOfPlace)) := (raw_least_ahead (P := l.prog) (w := w) (base := base) (F := F_least_ahead) (T := T) (g_need_wish := PySem.W.mg_of X G a_need_wish) (g_need_hold := PySem.W.mg_of X G a_need_hold) (g_need_loose := PySem.W.mg_of X G a_need_loose) (G_need_wish := G_need_wish) (b_need_wish := b_need_wish) (k_need_wish := k_need_wish) (G_need_hold := G_need_hold) (b_need_hold := b_need_hold) (k_need_hold := k_need_hold) (G_need_loose := G_need_loose) (b_need_loose := b_need_loose) (k_need_loose := k_need_loose)).imp (spX_imp (by first | exact ok_least_ahead | exact ok_least_ahead _ | exact ok_least_ahead te_BadWish te_OutOfPlace te_BadWish_OutOfPlace te_OutOfPlace_BadWish) (okx_least_ahead C_BadWish C_OutOfPlace))
  have G_need : FnG l.prog w K mg base (L2.CX l.prog w) 6 f_need _ ["wish"] (spX ⟨K, w, l.prog⟩ (MM [PT_law_calls, PT_law]) 1 W_need (U_need C_BadWish)) := (raw_need (P := l.prog) (w := w) (base := base) (F := F_need) (T := T) (g_need_wish := PySem.W.mg_of X G a_need_wish) (G_need_wish := G_need_wish) (b_need_wish := b_need_wish) (k_need_wish := k_need_wish)).imp (spX_imp (by first | exact ok_need | exact ok_need _ | exact ok_need te_BadWish te_OutOfPlace te_BadWish_OutOfPlace te_OutOfPlace_BadWish) (okx_need C_BadWish))
  have G_kept_part : FnG l.prog w K mg base (L2.CX l.prog w) 6 f_kept_part _ ["wish", "loose"] (spX ⟨K, w, l.prog⟩ (MM [PT_law_calls, PT_law]) 2 W_kept_part (U_kept_part C_BadWish C_OutOfPlace)) := (raw_kept_part (P := l.prog) (w := w) (base := base) (F := F_kept_part) (T := T) (g_need_wish := PySem.W.mg_of X G a_need_wish) (g_reached_states := PySem.W.mg_of X G a_reached_states) (g_need_loose := PySem.W.mg_of X G a_need_loose) (g_sure_states := PySem.W.mg_of X G a_sure_states) (G_need_wish := G_need_wish) (b_need_wish := b_need_wish) (k_need_wish := k_need_wish) (G_reached_states := G_reached_states) (b_reached_states := b_reached_states) (k_reached_states := k_reached_states) (G_need_loose := G_need_loose) (b_need_loose := b_need_loose) (k_need_loose := k_need_loose) (G_sure_states := G_sure_states) (b_sure_states := b_sure_states) (k_sure_states := k_sure_states)).imp (spX_imp (by first | exact ok_kept_part | exact ok_kept_part _ | exact ok_kept_part te_BadWish te_OutOfPlace te_BadWish_OutOfPlace te_OutOfPlace_BadWish) (okx_kept_part C_BadWish C_OutOfPlace))
  have G_need_both : FnG l.prog w K mg base (L2.CX l.prog w) 6 f_need_both _ ["wish", "other"] (spX ⟨K, w, l.prog⟩ (MM [PT_law_calls, PT_law]) 2 W_need_both (U_need_both C_BadWish C_OutOfPlace)) := (raw_need_both (P := l.prog) (w := w) (base := base) (F := F_need_both) (T := T) (g_need_wish := PySem.W.mg_of X G a_need_wish) (m_OutOfPlace := PySem.W.mg_of X G a_OutOfPlace) (G_need_wish := G_need_wish) (b_need_wish := b_need_wish) (k_need_wish := k_need_wish) (Z_OutOfPlace := ⟨O_OutOfPlace, a_OutOfPlace_init, tI_OutOfPlace⟩) (N_OutOfPlace := N_OutOfPlace) (B_OutOfPlace := B_OutOfPlace)).imp (spX_imp (by first | exact ok_need_both | exact ok_need_both _ | exact ok_need_both te_BadWish te_OutOfPlace te_BadWish_OutOfPlace te_OutOfPlace_BadWish) (okx_need_both C_BadWish C_OutOfPlace))
  have G_is_part : FnG l.prog w K mg base (L2.CX l.prog w) 7 f_is_part _ ["wish", "other"] (spX ⟨K, w, l.prog⟩ (MM [PT_law_calls, PT_law]) 2 W_is_part (U_is_part C_BadWish C_OutOfPlace)) := (raw_is_part (P := l.prog) (w := w) (base := base) (F := F_is_part) (T := T) (g_need_both := PySem.W.mg_of X G a_need_both) (G_need_both := G_need_both) (b_need_both := b_need_both) (k_need_both := k_need_both)).imp (spX_imp (by first | exact ok_is_part | exact ok_is_part _ | exact ok_is_part te_BadWish te_OutOfPlace te_BadWish_OutOfPlace te_OutOfPlace_BadWish) (okx_is_part C_BadWish C_OutOfPlace))
  have G_parting : FnG l.prog w K mg base (L2.CX l.prog w) 7 f_parting _ ["wish", "other"] (spX ⟨K, w, l.prog⟩ (MM [PT_law_calls, PT_law]) 2 W_parting (U_parting C_BadWish C_OutOfPlace)) := (raw_parting (P := l.prog) (w := w) (base := base) (F := F_parting) (T := T) (g_need_both := PySem.W.mg_of X G a_need_both) (G_need_both := G_need_both) (b_need_both := b_need_both) (k_need_both := k_need_both)).imp (spX_imp (by first | exact ok_parting | exact ok_parting _ | exact ok_parting te_BadWish te_OutOfPlace te_BadWish_OutOfPlace te_OutOfPlace_BadWish) (okx_parting C_BadWish C_OutOfPlace))
  have G_are_alike : FnG l.prog w K mg base (L2.CX l.prog w) 8 f_are_alike _ ["wish", "other"] (spX ⟨K, w, l.prog⟩ (MM [PT_law_calls, PT_law]) 2 W_are_alike (U_are_alike C_BadWish C_OutOfPlace)) := (raw_are_alike (P := l.prog) (w := w) (base := base) (F := F_are_alike) (T := T) (g_parting := PySem.W.mg_of X G a_parting) (G_parting := G_parting) (b_parting := b_parting) (k_parting := k_parting)).imp (spX_imp (by first | exact ok_are_alike | exact ok_are_alike _ | exact ok_are_alike te_BadWish te_OutOfPlace te_BadWish_OutOfPlace te_OutOfPlace_BadWish) (okx_are_alike C_BadWish C_OutOfPlace))
  have G_law_calls : FnG l.prog w K mg base (L2.CX l.prog w) 9 f_law_calls _ ["want", "one", "two"] (spD ⟨K, w, l.prog⟩ (MM [PT_law_calls, PT_law]) 3 W_law_calls) := (raw_law_calls (P := l.prog) (w := w) (base := base) (F := F_law_calls) (T := T) (pP := pP) (tb := tb_law_calls) ).imp (spD_imp (by first | exact ok_law_calls | exact ok_law_calls _ | exact ok_law_calls te_BadWish te_OutOfPlace te_BadWish_OutOfPlace te_OutOfPlace_BadWish))
  have GL : LamsG l.prog w K mg base 9 (MM [PT_law_calls, PT_law]) (Reg C_BadWish C_OutOfPlace) := by
    exact List.forall_mem_cons.mpr ⟨⟨⟨mW_lam0, mU_lam0 C_BadWish C_OutOfPlace⟩, ((raw_lam0 (P := l.prog) (w := w) (base := base) (pP := pP) (T := T) (g_is_part := PySem.W.mg_of X G a_is_part) (G_is_part := G_is_part) (b_is_part := b_is_part) (k_is_part := k_is_part)).mono (by decide)).imp (spX_imp ok_lam0 (okx_lam0 C_BadWish C_OutOfPlace))⟩,
      List.forall_mem_cons.mpr ⟨⟨⟨mW_lam1, mU_lam1 C_BadWish C_OutOfPlace⟩, ((raw_lam1 (P := l.prog) (w := w) (base := base) (pP := pP) (T := T) (g_are_alike := PySem.W.mg_of X G a_are_alike) (G_are_alike := G_are_alike) (b_are_alike := b_are_alike) (k_are_alike := k_are_alike)).mono (by decide)).imp (spX_imp ok_lam1 (okx_lam1 C_BadWish C_OutOfPlace))⟩,
      List.forall_mem_cons.mpr ⟨⟨⟨mW_lam2, mU_lam2 C_BadWish C_OutOfPlace⟩, ((raw_lam2 (P := l.prog) (w := w) (base := base) (pP := pP) (T := T) (g_parting := PySem.W.mg_of X G a_parting) (G_parting := G_parting) (b_parting := b_parting) (k_parting := k_parting)).mono (by decide)).imp (spX_imp ok_lam2 (okx_lam2 C_BadWish C_OutOfPlace))⟩,
      List.forall_mem_cons.mpr ⟨⟨⟨mW_lam3, mU_lam3 C_BadWish C_OutOfPlace⟩, ((raw_lam3 (P := l.prog) (w := w) (base := base) (pP := pP) (T := T) (g_kept_part := PySem.W.mg_of X G a_kept_part) (G_kept_part := G_kept_part) (b_kept_part := b_kept_part) (k_kept_part := k_kept_part)).mono (by decide)).imp (spX_imp ok_lam3 (okx_lam3 C_BadWish C_OutOfPlace))⟩,
      List.forall_mem_cons.mpr ⟨⟨⟨mW_lam4, mU_lam4 C_BadWish C_OutOfPlace⟩, ((raw_lam4 (P := l.prog) (w := w) (base := base) (pP := pP) (T := T) (g_least_hold := PySem.W.mg_of X G a_least_hold) (G_least_hold := G_least_hold) (b_least_hold := b_least_hold) (k_least_hold := k_least_hold)).mono (by decide)).imp (spX_imp ok_lam4 (okx_lam4 C_BadWish C_OutOfPlace))⟩,
      List.forall_mem_cons.mpr ⟨⟨⟨mW_lam5, mU_lam5 C_BadWish C_OutOfPlace⟩, ((raw_lam5 (P := l.prog) (w := w) (base := base) (pP := pP) (T := T) (g_least_ahead := PySem.W.mg_of X G a_least_ahead) (G_least_ahead := G_least_ahead) (b_least_ahead := b_least_ahead) (k_least_ahead := k_least_ahead)).mono (by decide)).imp (spX_imp ok_lam5 (okx_lam5 C_BadWish C_OutOfPlace))⟩,
      List.forall_mem_cons.mpr ⟨⟨⟨mW_lam6, mU_lam6 C_BadWish⟩, ((raw_lam6 (P := l.prog) (w := w) (base := base) (pP := pP) (T := T) (g_need := PySem.W.mg_of X G a_need) (G_need := G_need) (b_need := b_need) (k_need := k_need)).mono (by decide)).imp (spX_imp ok_lam6 (okx_lam6 C_BadWish))⟩,
      List.forall_mem_cons.mpr ⟨⟨⟨mW_lam7, mU_lam7 C_BadWish C_OutOfPlace⟩, ((raw_lam7 (P := l.prog) (w := w) (base := base) (pP := pP) (T := T) (g_least_hold := PySem.W.mg_of X G a_least_hold) (G_least_hold := G_least_hold) (b_least_hold := b_least_hold) (k_least_hold := k_least_hold)).mono (by decide)).imp (spX_imp ok_lam7 (okx_lam7 C_BadWish C_OutOfPlace))⟩,
      fun _ h => nomatch h⟩⟩⟩⟩⟩⟩⟩⟩
  have G_law_outcome : FnG l.prog w K mg base (L2.CX l.prog w) 10 f_law_outcome _ ["call"] (spD ⟨K, w, l.prog⟩ (MM [PT_law_calls, PT_law]) 1 (W_law_outcome C_BadWish C_OutOfPlace)) := (raw_law_outcome (P := l.prog) (w := w) (base := base) (F := F_law_outcome) (T := T) (m_BadWish := PySem.W.mg_of X G a_BadWish) (m_OutOfPlace := PySem.W.mg_of X G a_OutOfPlace) (XT_BadWish := ⟨xg_BadWish, xh_BadWish, eC_BadWish, xd_BadWish⟩) (XA_BadWish_part := xa_BadWish_part) (GL := GL)).imp (spD_imp (by first | exact ok_law_outcome | exact ok_law_outcome _ | exact ok_law_outcome te_BadWish te_OutOfPlace te_BadWish_OutOfPlace te_OutOfPlace_BadWish))
  have G_law_told : FnG l.prog w K mg base (L2.CX l.prog w) 11 f_law_told _ ["want", "one", "two"] (spD ⟨K, w, l.prog⟩ (MM [PT_law_calls, PT_law]) 3 (W_law_told C_BadWish C_OutOfPlace)) := (raw_law_told (P := l.prog) (w := w) (base := base) (F := F_law_told) (T := T) (g_law_outcome := PySem.W.mg_of X G a_law_outcome) (g_law_calls := PySem.W.mg_of X G a_law_calls) (G_law_outcome := G_law_outcome) (b_law_outcome := b_law_outcome) (k_law_outcome := k_law_outcome) (G_law_calls := G_law_calls) (b_law_calls := b_law_calls) (k_law_calls := k_law_calls)).imp (spD_imp (by first | exact ok_law_told | exact ok_law_told _ | exact ok_law_told te_BadWish te_OutOfPlace te_BadWish_OutOfPlace te_OutOfPlace_BadWish))
  have G_law : FnG l.prog w K mg base (L2.CX l.prog w) 12 fa _ ["script"] (spD ⟨K, w, l.prog⟩ (MM [PT_law_calls, PT_law]) 1 W_law) := (raw_law (P := l.prog) (w := w) (base := base) (F := F_law) (T := T) (pP := pP) (tb := tb_law) (g_law_begun := PySem.W.mg_of X G a_law_begun) (g_law_want := PySem.W.mg_of X G a_law_want) (g_law_outcome := PySem.W.mg_of X G a_law_outcome) (g_law_told := PySem.W.mg_of X G a_law_told) (G_law_begun := G_law_begun) (b_law_begun := b_law_begun) (k_law_begun := k_law_begun) (G_law_want := G_law_want) (b_law_want := b_law_want) (k_law_want := k_law_want) (G_law_outcome := G_law_outcome) (b_law_outcome := b_law_outcome) (k_law_outcome := k_law_outcome) (G_law_told := G_law_told) (b_law_told := b_law_told) (k_law_told := k_law_told)).imp (spD_imp (by first | exact ok_law | exact ok_law _ | exact ok_law te_BadWish te_OutOfPlace te_BadWish_OutOfPlace te_OutOfPlace_BadWish))
  exact G_law
theorem law_head (K : PySem.W.Frag) (w : World) (P : Program) (T : List Addr) (H : Hp) (a : Addr) (ns : List Int) (hl : ns.length ≤ 63) (hT : ∀ t ∈ T, H t = some (.tbl #[])) (hS : SqL K H a (ns.map V.int)) : spD ⟨K, w, P⟩ (MM T) 1 W_law [.ref a] H (fun v _ => v = .bl true) fun _ _ _ => False :=
  head_ofT (M := MM T) hT hS fun k q => ⟨ns, rfl, hl, q⟩
end
end K09
open PySem PySem.W PyProof.Rows
set_option maxRecDepth 100000 in
set_option maxHeartbeats 0 in
theorem PySem.Challenge.cw_guardkeeps_k09_needs_and_parts_refused_holds : PySem.Challenge.rw_guardkeeps_k09_needs_and_parts_refused.Holds := by
  w_on; o_law; k_head; (case hw => w_witness2)
  k_fill
  refine PD.walkGT (l := PySem.Challenge.rw_guardkeeps_k09_needs_and_parts_refused) (n := 63) (k := 12) (x := "script") (sp := fun K w T => PD.spD ⟨K, w, PySem.Challenge.rw_guardkeeps_k09_needs_and_parts_refused.prog⟩ (K09.MM T) 1 K09.W_law) ["_law_calls", "law"] rfl (by decide) rfl ⟨rfl, by decide, by decide⟩ (by decide +kernel) (fun w h Y => by first | exact PySem.W.km_in_of Y | exact PySem.W.kIn_of Y) ?F fun K w T H a ns hl hT hS => K09.law_head K w _ T H a ns hl hT hS
  case F =>
    intro w mg fa h KX G hmg HT
    refine' K09.all_mk (l := PySem.Challenge.rw_guardkeeps_k09_needs_and_parts_refused) KX G hmg rfl HT ?a_BadWish ?a_OutOfPlace ?eC_BadWish ?tC_BadWish ?iC_BadWish ?sC_BadWish ?sC_BadWish_OutOfPlace ?eC_OutOfPlace ?tC_OutOfPlace ?iC_OutOfPlace ?sC_OutOfPlace ?sC_OutOfPlace_BadWish ?xl_BadWish ?rv_BadWish ?sa_BadWish ?kC_BadWish ?a_BadWish_init ?tI_BadWish ?l_BadWish_init ?c_BadWish_init ?k_BadWish_init ?nx_BadWish ?xl_OutOfPlace ?rv_OutOfPlace ?sa_OutOfPlace ?kC_OutOfPlace ?a_OutOfPlace_init ?tI_OutOfPlace ?l_OutOfPlace_init ?c_OutOfPlace_init ?k_OutOfPlace_init ?vV_ValueError ?a_is_count ?l_is_count ?c_is_count ?k_is_count ?a_is_integer ?l_is_integer ?c_is_integer ?k_is_integer ?a_is_triple ?l_is_triple ?c_is_triple ?k_is_triple ?a_are_numbers ?l_are_numbers ?c_are_numbers ?k_are_numbers ?a_are_ascending ?l_are_ascending ?c_are_ascending ?k_are_ascending ?a_are_rising ?l_are_rising ?c_are_rising ?k_are_rising ?a_need_wish ?l_need_wish ?c_need_wish ?k_need_wish ?a_reached_states ?l_reached_states ?c_reached_states ?k_reached_states ?a_are_steps ?l_are_steps ?c_are_steps ?k_are_steps ?a_need_hold ?l_need_hold ?c_need_hold ?k_need_hold ?a_need_ahead ?l_need_ahead ?c_need_ahead ?k_need_ahead ?a_need_loose ?l_need_loose ?c_need_loose ?k_need_loose ?a_least_hold ?l_least_hold ?c_least_hold ?k_least_hold ?a_least_ahead ?l_least_ahead ?c_least_ahead ?k_least_ahead ?a_need ?l_need ?c_need ?k_need ?a_first_kept ?l_first_kept ?c_first_kept ?k_first_kept ?a_is_part ?l_is_part ?c_is_part ?k_is_part ?a_are_alike ?l_are_alike ?c_are_alike ?k_are_alike ?a_parting ?l_parting ?c_parting ?k_parting ?a_kept_part ?l_kept_part ?c_kept_part ?k_kept_part ?a_need_both ?l_need_both ?c_need_both ?k_need_both ?a_both_runs ?l_both_runs ?c_both_runs ?k_both_runs ?a_sure_states ?l_sure_states ?c_sure_states ?k_sure_states ?a_law_begun ?l_law_begun ?c_law_begun ?k_law_begun ?a_law_next ?l_law_next ?c_law_next ?k_law_next ?a_law_want ?l_law_want ?c_law_want ?k_law_want ?a_law_outcome ?l_law_outcome ?c_law_outcome ?k_law_outcome ?a_law_calls ?l_law_calls ?c_law_calls ?k_law_calls ?a_law_told ?l_law_told ?c_law_told ?k_law_told ?a_law ?l_law ?c_law ?k_law ?xg_BadWish ?xh_BadWish ?xd_BadWish ?xa_BadWish_part ?tk_law_calls ?tk_law ?z_ValueError ?z_all ?z_any ?z_bool ?z_MOST_AHEAD ?z_MOST_DEEDS ?z_MOST_HELD ?z_MOST_STATES ?z_enumerate ?z_int ?z_isinstance ?z_len ?z_list ?z_min ?z_range ?z_set ?z_sorted ?z_tuple ?z_zip
    (case a_BadWish => k_is)
    (case a_OutOfPlace => k_is)
    (case eC_BadWish => k_is)
    (case tC_BadWish => k_is)
    (case iC_BadWish => k_is)
    (case sC_BadWish => first | rfl | k_is)
    (case sC_BadWish_OutOfPlace => first | rfl | k_is)
    (case eC_OutOfPlace => k_is)
    (case tC_OutOfPlace => k_is)
    (case iC_OutOfPlace => k_is)
    (case sC_OutOfPlace => first | rfl | k_is)
    (case sC_OutOfPlace_BadWish => first | rfl | k_is)
    (case xl_BadWish => k_is)
    (case rv_BadWish => first | decide +kernel | k_is)
    (case sa_BadWish => k_is)
    (case kC_BadWish => k_is)
    (case a_BadWish_init => k_is)
    (case tI_BadWish => k_is)
    (case l_BadWish_init => k_is)
    (case c_BadWish_init => k_is)
    (case k_BadWish_init => k_is)
    (case nx_BadWish => k_is)
    (case xl_OutOfPlace => k_is)
    (case rv_OutOfPlace => first | decide +kernel | k_is)
    (case sa_OutOfPlace => k_is)
    (case kC_OutOfPlace => k_is)
    (case a_OutOfPlace_init => k_is)
    (case tI_OutOfPlace => k_is)
    (case l_OutOfPlace_init => k_is)
    (case c_OutOfPlace_init => k_is)
    (case k_OutOfPlace_init => k_is)
    (case vV_ValueError => first | k_is | decide +kernel)
    (case a_is_count => k_is)
    (case l_is_count => k_is)
    (case c_is_count => k_is)
    (case k_is_count => k_is)
    (case a_is_integer => k_is)
    (case l_is_integer => k_is)
    (case c_is_integer => k_is)
    (case k_is_integer => k_is)
    (case a_is_triple => k_is)
    (case l_is_triple => k_is)
    (case c_is_triple => k_is)
    (case k_is_triple => k_is)
    (case a_are_numbers => k_is)
    (case l_are_numbers => k_is)
    (case c_are_numbers => k_is)
    (case k_are_numbers => k_is)
    (case a_are_ascending => k_is)
    (case l_are_ascending => k_is)
    (case c_are_ascending => k_is)
    (case k_are_ascending => k_is)
    (case a_are_rising => k_is)
    (case l_are_rising => k_is)
    (case c_are_rising => k_is)
    (case k_are_rising => k_is)
    (case a_need_wish => k_is)
    (case l_need_wish => k_is)
    (case c_need_wish => k_is)
    (case k_need_wish => k_is)
    (case a_reached_states => k_is)
    (case l_reached_states => k_is)
    (case c_reached_states => k_is)
    (case k_reached_states => k_is)
    (case a_are_steps => k_is)
    (case l_are_steps => k_is)
    (case c_are_steps => k_is)
    (case k_are_steps => k_is)
    (case a_need_hold => k_is)
    (case l_need_hold => k_is)
    (case c_need_hold => k_is)
    (case k_need_hold => k_is)
    (case a_need_ahead => k_is)
    (case l_need_ahead => k_is)
    (case c_need_ahead => k_is)
    (case k_need_ahead => k_is)
    (case a_need_loose => k_is)
    (case l_need_loose => k_is)
    (case c_need_loose => k_is)
    (case k_need_loose => k_is)
    (case a_least_hold => k_is)
    (case l_least_hold => k_is)
    (case c_least_hold => k_is)
    (case k_least_hold => k_is)
    (case a_least_ahead => k_is)
    (case l_least_ahead => k_is)
    (case c_least_ahead => k_is)
    (case k_least_ahead => k_is)
    (case a_need => k_is)
    (case l_need => k_is)
    (case c_need => k_is)
    (case k_need => k_is)
    (case a_first_kept => k_is)
    (case l_first_kept => k_is)
    (case c_first_kept => k_is)
    (case k_first_kept => k_is)
    (case a_is_part => k_is)
    (case l_is_part => k_is)
    (case c_is_part => k_is)
    (case k_is_part => k_is)
    (case a_are_alike => k_is)
    (case l_are_alike => k_is)
    (case c_are_alike => k_is)
    (case k_are_alike => k_is)
    (case a_parting => k_is)
    (case l_parting => k_is)
    (case c_parting => k_is)
    (case k_parting => k_is)
    (case a_kept_part => k_is)
    (case l_kept_part => k_is)
    (case c_kept_part => k_is)
    (case k_kept_part => k_is)
    (case a_need_both => k_is)
    (case l_need_both => k_is)
    (case c_need_both => k_is)
    (case k_need_both => k_is)
    (case a_both_runs => k_is)
    (case l_both_runs => k_is)
    (case c_both_runs => k_is)
    (case k_both_runs => k_is)
    (case a_sure_states => k_is)
    (case l_sure_states => k_is)
    (case c_sure_states => k_is)
    (case k_sure_states => k_is)
    (case a_law_begun => k_is)
    (case l_law_begun => k_is)
    (case c_law_begun => k_is)
    (case k_law_begun => k_is)
    (case a_law_next => k_is)
    (case l_law_next => k_is)
    (case c_law_next => k_is)
    (case k_law_next => k_is)
    (case a_law_want => k_is)
    (case l_law_want => k_is)
    (case c_law_want => k_is)
    (case k_law_want => k_is)
    (case a_law_outcome => k_is)
    (case l_law_outcome => k_is)
    (case c_law_outcome => k_is)
    (case k_law_outcome => k_is)
    (case a_law_calls => k_is)
    (case l_law_calls => k_is)
    (case c_law_calls => k_is)
    (case k_law_calls => k_is)
    (case a_law_told => k_is)
    (case l_law_told => k_is)
    (case c_law_told => k_is)
    (case k_law_told => k_is)
    (case a_law => k_is)
    (case l_law => k_is)
    (case c_law => k_is)
    (case k_law => k_is)
    (case xg_BadWish => k_is)
    (case xh_BadWish => k_is)
    (case xd_BadWish => k_is)
    (case xa_BadWish_part => k_is)
    (case tk_law_calls => first | k_is | rfl | decide +kernel)
    (case tk_law => first | k_is | rfl | decide +kernel)
    (case z_ValueError => k_is)
    (case z_all => k_is)
    (case z_any => k_is)
    (case z_bool => k_is)
    (case z_MOST_AHEAD => k_is)
    (case z_MOST_DEEDS => k_is)
    (case z_MOST_HELD => k_is)
    (case z_MOST_STATES => k_is)
    (case z_enumerate => k_is)
    (case z_int => k_is)
    (case z_isinstance => k_is)
    (case z_len => k_is)
    (case z_list => k_is)
    (case z_min => k_is)
    (case z_range => k_is)
    (case z_set => k_is)
    (case z_sorted => k_is)
    (case z_tuple => k_is)
    (case z_zip => k_is)
