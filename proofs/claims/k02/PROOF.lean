import PyProof.Rows.All
import Wide.All
import OpenK.AllK
import Wide.FinOn
import HandS.ForMost
import HandS.Evl
import HandS.Deep
import HandS.TupAny
import HandS.TupMul
import HandS.IsInst
import HandS.Zip
import HandS.SortInts
import HandS.Strs
import KE.KDictKeyed
import HandS.ForExc
import HandS.ExcInit
import HandS.ExcField
import HandS.TryMany
import HandS.Lambda
import HandS.Ends
import KE.GoesEnum
import HandS.SetFor
import HandS.Style
import KE.KEqSeq
import HandS.Codes
import PyProof.ReprLen
import HandS.FStr
import HandS.RaiseMore
import HandS.StrMore
import HandS.Conv
import HandS.Star
import HandS.DictComp
import HandS.Exc
import KE.KDictWalk
import PyProof.Rows.TupDisplay
import KE.KDictCopyH
import KE.KDictList
import KE.KDictSum
import KE.SortData
import HandS.Nested
import HandS.EndTab
import PySem.Challenge.RW_guardkeeps_k02_wishes_kinds_and_runs_ref
set_option Elab.async false
set_option linter.all false
set_option maxRecDepth 100000
set_option maxHeartbeats 4000000
namespace PD
open PySem L2
open Evl (Ex)
abbrev D := PyData
/-- the constant part, and the world (the hashes hang on it) -/
structure Kw where
  f : PySem.W.Frag
  w : World
  p : Program
abbrev Fr0 := Kw
@[reducible] def _root_.L2.Cx.k0 (X : Cx) : Kw := ⟨X.K, X.w, X.prog⟩
/-- the heap without the addresses of L -/
def hide (L : List Addr) (H : Hp) : Hp := fun a => if a ∈ L then none else H a
theorem hide_some {L : List Addr} {H : Hp} {a : Addr} {o : HO} : hide L H a = some o ↔ a ∉ L ∧ H a = some o := by
  unfold hide
  by_cases h : a ∈ L
  · simp [h]
  · simp [h]
theorem hide_ex {L : List Addr} {H H' : Hp} (e : Ex H H') : Ex (hide L H) (hide L H') := fun a o h => by
  obtain ⟨h1, h2⟩ := hide_some.mp h
  exact hide_some.mpr ⟨h1, e a o h2⟩
theorem hide_le (L : List Addr) (H : Hp) : Ex (hide L H) H := fun a o h => (hide_some.mp h).2
theorem hide_sub {L L' : List Addr} {H : Hp} (h : ∀ a ∈ L, a ∈ L') : Ex (hide L' H) (hide L H) := fun a o e => by
  obtain ⟨h1, h2⟩ := hide_some.mp e
  exact hide_some.mpr ⟨fun z => h1 (h a z), h2⟩
mutual
/-- a key of a dict whose keys are tuples -/
def keyN : D → Option NestedKey
  | .none => some .none
  | .bool b => some (.num (if b = true then 1 else 0))
  | .int i => some (.num i)
  | .str x => some (.text x)
  | .tuple ds => (keyNs ds).map .tup
  | .list _ => none
  | .dict _ => none
def keyNs : List D → Option (List NestedKey)
  | [] => some []
  | d :: ds => match keyN d, keyNs ds with
    | some k, some ks => some (k :: ks)
    | _, _ => none
end
/-- the object of a dict whose keys are tuples -/
def NdF (w : World) (d : Addr) (o : Obj) (xs : List (NestedKey × Addr × V)) : Prop := (d == sysModules) = false ∧ o.ExactDict ∧ xs.length ≤ sizeLine ∧ (xs.map (·.1)).Nodup ∧ ∃ (es : Array DictEntry) (ep : Nat) (us : List Value), o.data = .dict es ep ∧
  Vals (xs.map fun x => x.2.2) us ∧ es.toList = (xs.zip us).map (fun p => (⟨p.1.1.hash w, .ref p.1.2.1, p.2⟩ : DictEntry))
/-- .. whose keys are ints and texts -/
def KdF (w : World) (d : Addr) (o : Obj) (kvs : List (Key × V)) : Prop := (d == sysModules) = false ∧ o.ExactDict ∧ kvs.length ≤ sizeLine ∧ ∃ (es : Array DictEntry) (ep : Nat) (vs : List (Key × Value)), o.data = .dict es ep ∧
  (∀ e ∈ es, ∃ k, keyIs k e.key = true ∧ e.hash = keyH w k) ∧ Paired (fun (e : DictEntry) (kv : Key × Value) => keyIs kv.1 e.key = true ∧ e.val = kv.2) es.toList vs ∧ (vs.map (·.1)).Nodup ∧ KV kvs vs
/-- at d: just this object -/
def NdO (w : World) (d : Addr) (o : Obj) (xs : List (NestedKey × Addr × V)) : HO := .ext fun h => h.get? d = some o ∧ NdF w d o xs
def KdO (w : World) (d : Addr) (o : Obj) (kvs : List (Key × V)) : HO := .ext fun h => h.get? d = some o ∧ KdF w d o kvs
def subE : Expr → List Expr
  | .BoolOp _ vs _ => vs
  | .BinOp l _ r _ => [l, r]
  | .UnaryOp _ e _ => [e]
  | .IfExp t b e _ => [t, b, e]
  | .Compare l _ cs _ => l :: cs
  | .Call f as ks _ => f :: as ++ ks.map (·.value)
  | .List es _ => es
  | .Tuple es _ _ => es
  | .ListComp e gs _ _ => e :: gs.map (·.iter)
  | .Subscript v i _ => [v, i]
  | .Attribute v _ _ => [v]
  | .Lambda _ b _ _ => [b]
  | _ => []
def subS : Stmt → List Expr × List Stmt
  | .FunctionDef _ _ b _ _ _ _ _ _ _ => ([], b)
  | .ClassDef _ _ _ b _ _ _ _ _ _ _ => ([], b)
  | .Return (some e) _ => ([e], [])
  | .Assign _ v _ => ([v], [])
  | .Expr v _ => ([v], [])
  | .For _ it b _ _ => ([it], b)
  | .While t b _ _ => ([t], b)
  | .If t b c _ => ([t], b ++ c)
  | .Try b _ _ _ _ => ([], b)
  | _ => ([], [])
def navE : List Nat → Expr → Option Expr
  | [], e => some e
  | i :: r, e => match (subE e)[i]? with
    | some x => navE r x
    | none => none
/-- statements below from 100 on, expressions below it -/
def navS : List Nat → Stmt → Option Expr
  | [], _ => none
  | i :: r, s => if i < 100 then (match (subS s).1[i]? with
      | some x => navE r x
      | none => none) else match (subS s).2[i - 100]? with
      | some x => navS r x
      | none => none
def lamAt (p : Program) : List Nat → Option Expr
  | [] => none
  | i :: r => match p.main.body[i]? with
    | some x => navS r x
    | none => none
/-- at a: just this object -/
def ExO (a : Addr) (o : Obj) : HO := .ext fun h => h.get? a = some o
/-- a cell, lent: just this object, with a mark -/
def CeO (k : Nat) (o : Obj) : HO := .frz o (.own k)
/-- a lambda's object: its words, its code object, its cells and what they are -/
structure CloF where
  q : Str
  params : Arguments
  body : Expr
  scope : Scope
  pm : Value
  ctv : Value
  c : Addr
  oc : Obj
  cl : List (Str × Addr)
  os : List Obj
@[reducible] def CloF.obj (C : CloF) : Obj := PySem.W.kla_obj "<lambda>" C.q C.params C.body C.scope C.cl C.pm C.c C.ctv
def CloF.cells (C : CloF) (k : Nat) : List (Addr × HO) := List.zipWith (fun x o => (x.2, CeO k o)) C.cl C.os
/-- the names that it captures, as they stand in it -/
def frees (sc : Scope) : List Str := ((sc.names.filter fun y => y.2 == .free).map (·.1)).reverse
structure CloOk (p : Program) (path : List Nat) (C : CloF) (vs : List V) : Prop where
  here : ∃ lpos, lamAt p path = some (.Lambda C.params C.body C.scope lpos)
  code : ∃ (vs : Array Value) (t : Tok), C.oc.data = .fields vs ∧ vs[1]? = some (.str C.q t)
  names : C.cl.map (·.1) = frees C.scope
  nd : (C.cl.map (·.1)).Nodup
  inj : (C.cl.map (·.2)).Nodup
  los : C.os.length = C.cl.length
  lvs : vs.length = C.cl.length
  cell : ∀ (i : Nat) (o : Obj) (v : V), C.os[i]? = some o → vs[i]? = some v → ∃ u, RelV v u ∧ o.data = .cell (some u)
/-- a lambda as data: where it stands, what it captured; no dict is so -/
@[reducible] def cloD (path : List Nat) (ds : List D) : D := .dict [(.list [], .tuple (path.map fun n => .int (n : Nat))), (.list [], .list ds)]
mutual
/-- what lies at a value, as data; an instance of a class is told as a dict that no dict can be -/
inductive Rp (K : Fr0) (H : Hp) : V → D → Prop
  | non : Rp K H .non .none
  | bl (b : Bool) : Rp K H (.bl b) (.bool b)
  | int (i : Int) : Rp K H (.int i) (.int i)
  | str (x : Str) : Rp K H (.str x) (.str x)
  | lst {a : Addr} {xs : List V} {ds : List D} : SqL K.f H a xs → RpAll K H xs ds → Rp K H (.ref a) (.list ds)
  | tup {a : Addr} {xs : List V} {ds : List D} : SqT K.f H a xs → RpAll K H xs ds → Rp K H (.ref a) (.tuple ds)
  | dct {a : Addr} {o : Obj} {kvs : List (Key × V)} {ps : List (D × D)} : H a = some (KdO K.w a o kvs) → RpKv K H kvs ps → Rp K H (.ref a) (.dict ps)
  | dctN {a : Addr} {o : Obj} {xs : List (NestedKey × Addr × V)} {ps : List (D × D)} : H a = some (NdO K.w a o xs) → RpN K H xs ps → Rp K H (.ref a) (.dict ps)
  | obj {a C dx : Addr} {fs : List (Str × V)} {ps : List (D × D)} : H a = some (.ins C dx fs) → RpF K H fs ps → Rp K H (.ref a) (.dict ((.list [], .int (C : Nat)) :: ps))
  | clo {a : Addr} {path : List Nat} {C : CloF} {vs : List V} {ds : List D} : CloOk K.p path C vs → H a = some (ExO a C.obj) → H C.c = some (CeO 0 C.oc) → (∀ q ∈ C.cells (path.headD 0), H q.1 = some q.2) → RpAll K H vs ds → Rp K H (.ref a) (cloD path ds)
inductive RpAll (K : Fr0) (H : Hp) : List V → List D → Prop
  | nil : RpAll K H [] []
  | cons {v : V} {vs : List V} {d : D} {ds : List D} : Rp K H v d → RpAll K H vs ds → RpAll K H (v :: vs) (d :: ds)
inductive RpKv (K : Fr0) (H : Hp) : List (Key × V) → List (D × D) → Prop
  | nil : RpKv K H [] []
  | cons {k : Key} {v : V} {kvs : List (Key × V)} {d e : D} {ps : List (D × D)} : Rp K H (kV k) d → Rp K H v e → RpKv K H kvs ps → RpKv K H ((k, v) :: kvs) ((d, e) :: ps)
inductive RpN (K : Fr0) (H : Hp) : List (NestedKey × Addr × V) → List (D × D) → Prop
  | nil : RpN K H [] []
  | cons {k : NestedKey} {b : Addr} {v : V} {xs : List (NestedKey × Addr × V)} {d e : D} {ps : List (D × D)} : keyN d = some k → k.depth ≤ 8 → Rp K H (.ref b) d → Rp K H v e → RpN K H xs ps → RpN K H ((k, b, v) :: xs) ((d, e) :: ps)
inductive RpF (K : Fr0) (H : Hp) : List (Str × V) → List (D × D) → Prop
  | nil : RpF K H [] []
  | cons {n : Str} {v : V} {fs : List (Str × V)} {e : D} {ps : List (D × D)} : Rp K H v e → RpF K H fs ps → RpF K H ((n, v) :: fs) ((.str n, e) :: ps)
end
mutual
theorem rp_up {K : Fr0} {H H' : Hp} (e : Ex H H') : ∀ {v : V} {d : D}, Rp K H v d → Rp K H' v d
  | _, _, .non => .non
  | _, _, .bl b => .bl b
  | _, _, .int i => .int i
  | _, _, .str x => .str x
  | _, _, .lst hs ha => .lst (Evl.ex_l e hs) (rpa_up e ha)
  | _, _, .tup hs ha => .tup (Evl.ex_t e hs) (rpa_up e ha)
  | _, _, .dct hs ha => .dct (e _ _ hs) (rpk_up e ha)
  | _, _, .dctN hs ha => .dctN (e _ _ hs) (rpn_up e ha)
  | _, _, .obj hs ha => .obj (e _ _ hs) (rpf_up e ha)
  | _, _, .clo h0 hs hc hq ha => .clo h0 (e _ _ hs) (e _ _ hc) (fun q hm => e _ _ (hq q hm)) (rpa_up e ha)
theorem rpa_up {K : Fr0} {H H' : Hp} (e : Ex H H') : ∀ {vs : List V} {ds : List D}, RpAll K H vs ds → RpAll K H' vs ds
  | _, _, .nil => .nil
  | _, _, .cons h1 h2 => .cons (rp_up e h1) (rpa_up e h2)
theorem rpk_up {K : Fr0} {H H' : Hp} (e : Ex H H') : ∀ {vs : List (Key × V)} {ds : List (D × D)}, RpKv K H vs ds → RpKv K H' vs ds
  | _, _, .nil => .nil
  | _, _, .cons h1 h2 h3 => .cons (rp_up e h1) (rp_up e h2) (rpk_up e h3)
theorem rpn_up {K : Fr0} {H H' : Hp} (e : Ex H H') : ∀ {vs : List (NestedKey × Addr × V)} {ds : List (D × D)}, RpN K H vs ds → RpN K H' vs ds
  | _, _, .nil => .nil
  | _, _, .cons h0 hd h1 h2 h3 => .cons h0 hd (rp_up e h1) (rp_up e h2) (rpn_up e h3)
theorem rpf_up {K : Fr0} {H H' : Hp} (e : Ex H H') : ∀ {vs : List (Str × V)} {ds : List (D × D)}, RpF K H vs ds → RpF K H' vs ds
  | _, _, .nil => .nil
  | _, _, .cons h1 h2 => .cons (rp_up e h1) (rpf_up e h2)
end
theorem dp_ex {K : Fr0} {H H' : Hp} (e : Ex H H') (d : D) (v : V) (h : Rp K H v d) : Rp K H' v d := rp_up e h
theorem dpa_ex {K : Fr0} {H H' : Hp} (e : Ex H H') (ds : List D) (vs : List V) (h : RpAll K H vs ds) : RpAll K H' vs ds := rpa_up e h
mutual
/-- without dicts it is what == looks at -/
theorem rp_dp {K : Fr0} {H : Hp} : ∀ (d : D) (v : V), d.canLay0 = true → Rp K H v d → Dp K.f H v d
  | .none, _, _, h => by cases h; exact .non
  | .bool b, _, _, h => by cases h; exact .bl b
  | .int i, _, _, h => by cases h; exact .int i
  | .str x, _, _, h => by cases h; exact .str x
  | .list ds, _, c, h => by
    cases h with
    | lst hs ha => exact .lst hs (rpa_dp ds _ (by simpa [PyData.canLay0] using c) ha)
  | .tuple ds, _, c, h => by
    cases h with
    | tup hs ha => exact .tup hs (rpa_dp ds _ (by simpa [PyData.canLay0] using c) ha)
  | .dict _, _, c, h => by simp [PyData.canLay0] at c
theorem rpa_dp {K : Fr0} {H : Hp} : ∀ (ds : List D) (vs : List V), PyData.canLayAll0 ds = true → RpAll K H vs ds → DpAll K.f H vs ds
  | [], _, _, h => by cases h; exact .nil
  | d :: ds, _, c, h => by
    have c' : d.canLay0 = true ∧ PyData.canLayAll0 ds = true := by simpa [PyData.canLayAll0] using c
    cases h with
    | cons h1 h2 => exact .cons (rp_dp d _ c'.1 h1) (rpa_dp ds _ c'.2 h2)
end
theorem dpa_len {K : Fr0} {H : Hp} : ∀ {vs : List V} {ds : List D}, RpAll K H vs ds → vs.length = ds.length
  | _, [], h => by cases h; rfl
  | _, _ :: _, h => by
    cases h with
    | cons _ h2 => simp [dpa_len h2]
theorem dpa_get {K : Fr0} {H : Hp} : ∀ {vs : List V} {ds : List D} {i : Nat} {v : V}, RpAll K H vs ds → vs[i]? = some v → ∃ d, ds[i]? = some d ∧ Rp K H v d
  | _, [], i, v, h, e => by cases h; simp at e
  | _, d :: ds, 0, v, h, e => by
    cases h with
    | cons h1 h2 =>
      simp at e
      subst e
      exact ⟨d, rfl, h1⟩
  | _, d :: ds, i + 1, v, h, e => by
    cases h with
    | cons h1 h2 =>
      obtain ⟨d', h3, h4⟩ := dpa_get (i := i) h2 (by simpa using e)
      exact ⟨d', by simpa using h3, h4⟩
theorem dpa_get' {K : Fr0} {H : Hp} {vs : List V} {ds : List D} {i : Nat} {d : D} (h : RpAll K H vs ds) (e : ds[i]? = some d) : ∃ v, vs[i]? = some v ∧ Rp K H v d := by
  have hl := dpa_len h
  obtain ⟨hi, _⟩ := List.getElem?_eq_some_iff.mp e
  have e2 : vs[i]? = some vs[i] := List.getElem?_eq_getElem (by omega)
  obtain ⟨d', h3, h4⟩ := dpa_get h e2
  rw [e] at h3
  cases h3
  exact ⟨_, e2, h4⟩
theorem dpa_app {K : Fr0} {H : Hp} : ∀ {vs ws : List V} {ds es : List D}, RpAll K H vs ds → RpAll K H ws es → RpAll K H (vs ++ ws) (ds ++ es)
  | _, _, [], _, h, g => by cases h; exact g
  | _, _, _ :: _, _, h, g => by
    cases h with
    | cons h1 h2 => exact .cons h1 (dpa_app h2 g)
theorem dpa_drop {K : Fr0} {H : Hp} : ∀ (n : Nat) {vs : List V} {ds : List D}, RpAll K H vs ds → RpAll K H (vs.drop n) (ds.drop n)
  | 0, _, _, h => h
  | n + 1, _, [], h => by cases h; exact .nil
  | n + 1, _, _ :: _, h => by
    cases h with
    | cons _ h2 => exact dpa_drop n h2
theorem dpa_take {K : Fr0} {H : Hp} : ∀ (n : Nat) {vs : List V} {ds : List D}, RpAll K H vs ds → RpAll K H (vs.take n) (ds.take n)
  | 0, _, _, h => .nil
  | n + 1, _, [], h => by cases h; exact .nil
  | n + 1, _, _ :: _, h => by
    cases h with
    | cons h1 h2 => exact .cons h1 (dpa_take n h2)
theorem dpa_ints {K : Fr0} {H : Hp} : ∀ (ns : List Int), RpAll K H (ns.map V.int) (ns.map PyData.int)
  | [] => .nil
  | n :: ns => .cons (.int n) (dpa_ints ns)
/-- flat data is itself anywhere -/
theorem dpa_ints_eq {K : Fr0} {H : Hp} : ∀ {vs : List V} {ns : List Int}, RpAll K H vs (ns.map PyData.int) → vs = ns.map V.int
  | _, [], h => by cases h; rfl
  | _, n :: ns, h => by
    cases h with
    | cons h1 h2 =>
      cases h1
      rw [dpa_ints_eq h2]
      rfl
theorem dpa_bools_eq {K : Fr0} {H : Hp} : ∀ {vs : List V} {ns : List Bool}, RpAll K H vs (ns.map PyData.bool) → vs = ns.map V.bl
  | _, [], h => by cases h; rfl
  | _, n :: ns, h => by
    cases h with
    | cons h1 h2 =>
      cases h1
      rw [dpa_bools_eq h2]
      rfl
/-- what is the def's own, and still filled: a list; a dict (its keys tuples, or not); an object of the class at C -/
inductive Ow where
  | l (xs : List D)
  | d (kd : Bool) (ps : List (D × D))
  | o (p C : Addr) (ps : List (D × D))
instance : Coe (List D) Ow := ⟨.l⟩
def OwAt (K : Fr0) (H : Hp) (a : Addr) (u : HO) : Ow → Prop
  | .l xs => ∃ vs, u = .lst vs ∧ RpAll K H vs xs
  | .d true ps => ∃ o xs, u = NdO K.w a o xs ∧ RpN K H xs ps
  | .d false ps => ∃ o kvs, u = KdO K.w a o kvs ∧ RpKv K H kvs ps
  | .o p C ps => a = p ∧ ∃ dx fs, u = .ins C dx fs ∧ RpF K H fs ps
theorem OwAt.up {K : Fr0} {H H' : Hp} {a : Addr} {u : HO} (e : Ex H H') : ∀ {c : Ow}, OwAt K H a u c → OwAt K H' a u c
  | .l _, ⟨vs, h1, h2⟩ => ⟨vs, h1, rpa_up e h2⟩
  | .d true _, ⟨o, xs, h1, h2⟩ => ⟨o, xs, h1, rpn_up e h2⟩
  | .d false _, ⟨o, xs, h1, h2⟩ => ⟨o, xs, h1, rpk_up e h2⟩
  | .o _ _ _, ⟨h0, dx, fs, h1, h2⟩ => ⟨h0, dx, fs, h1, rpf_up e h2⟩
inductive Sl where
  | no
  /-- data, for good -/
  | d (x : D)
  /-- of the def's own, still filled -/
  | own (c : Ow)
  /-- the object of the draws -/
  | st
  /-- just this value -/
  | raw (v : V)
  /-- a caught exception: where it is, its dict, its attributes -/
  | exc (a : Addr) (d : Option Addr) (fl : List (D × D))
structure Rho where
  sl : List Sl
  /-- a bound of the draws that were made -/
  n : Nat
@[reducible] def Rho.set (ρ : Rho) (i : Nat) (s : Sl) : Rho := ⟨ρ.sl.set i s, ρ.n⟩
def NoTb (A : List Addr) (H : Hp) : Prop := ∀ a ∈ A, ∀ ps, H a ≠ some (.tbl ps)
theorem nt3 {H : Hp} {p c l : Addr} {kvs : List (Key × V)} {xs ys : List V} (h : H p = some (.dK kvs)) (h1 : H c = some (.lst xs)) (h2 : H l = some (.lst ys)) : NoTb [p, c, l] H := fun a ha ps z => by
  rcases List.mem_cons.mp ha with e | ha
  · rw [e, h] at z; cases z
  · rcases List.mem_cons.mp ha with e | ha
    · rw [e, h1] at z; cases z
    · rw [List.mem_singleton.mp ha, h2] at z; cases z
/-- the object of the draws: at p, by so many draws, over the addresses A -/
structure Mk0 where
  holds : Fr0 → Addr → Nat → List Addr → Hp → Prop
  loc : ∀ {K p n A H H'}, (∀ a ∈ A, ∀ o, H a = some o → H' a = some o) → holds K p n A H → holds K p n A H'
  le : ∀ {K p n m A H}, n ≤ m → holds K p n A H → holds K p m A H
  nt : ∀ {K p n A H}, holds K p n A H → NoTb A H
  /-- the tables of code objects of the makers of lambdas, and the names that they tell -/
  T : List Addr := []
  nm : Nat → Nat → Str := fun _ _ => ""
/-- a table: hidden, nobody's own, what it tells is seen -/
def TabR (F : Hp) (L : List Addr) (H : Hp) (nm : Nat → Nat → Str) (P : Addr) : Prop := F P = none ∧ P ∈ L ∧ ∃ ps : Array Value, H P = some (.tbl ps) ∧ TriplesOk ps.toList ∧ ∀ (pos : Pos) (cv : Value), codeAmong pos ps.toList = some cv → ∃ (c : Addr) (oc : Obj) (vs : Array Value) (t : Tok), cv = .ref c ∧ hide L H c = some (CeO 0 oc) ∧ oc.data = .fields vs ∧ vs[1]? = some (.str (nm pos.line pos.col) t)
def Tb (T : List Addr) (nm : Nat → Nat → Str) (F : Hp) (L : List Addr) (H : Hp) : Prop := ∀ t ∈ T, TabR F L H nm t
theorem Tb.moveC {T : List Addr} {nm : Nat → Nat → Str} {F F' : Hp} {L L' : List Addr} {H H' : Hp} (tb : Tb T nm F L H) (e : ∀ c o, hide L H c = some (CeO 0 o) → hide L' H' c = some (CeO 0 o)) (k : ∀ P ps, F P = none → P ∈ L → H P = some (.tbl ps) → F' P = none ∧ P ∈ L' ∧ H' P = some (.tbl ps)) : Tb T nm F' L' H' := fun t ht => by
  obtain ⟨h1, h2, ps, h3, h4, h5⟩ := tb t ht
  obtain ⟨k1, k2, k3⟩ := k t ps h1 h2 h3
  refine ⟨k1, k2, ps, k3, h4, fun pos cv hc => ?_⟩
  obtain ⟨c, oc, vs, t, e1, e2, e3⟩ := h5 pos cv hc
  exact ⟨c, oc, vs, t, e1, e _ _ e2, e3⟩
theorem Tb.move {T : List Addr} {nm : Nat → Nat → Str} {F F' : Hp} {L L' : List Addr} {H H' : Hp} (tb : Tb T nm F L H) (e : Ex (hide L H) (hide L' H')) (k : ∀ P ps, F P = none → P ∈ L → H P = some (.tbl ps) → F' P = none ∧ P ∈ L' ∧ H' P = some (.tbl ps)) : Tb T nm F' L' H' := tb.moveC (fun c o h => e _ _ h) k
theorem OwAt.notTbl {K : Fr0} {H : Hp} {a : Addr} {ps : Array Value} : ∀ {c : Ow}, ¬ OwAt K H a (.tbl ps) c
  | .l _, ⟨_, h, _⟩ => by cases h
  | .d true _, ⟨_, _, h, _⟩ => by unfold NdO at h; cases h
  | .d false _, ⟨_, _, h, _⟩ => by unfold KdO at h; cases h
  | .o _ _ _, ⟨_, _, _, h, _⟩ => by cases h
/-- an exception's attributes -/
def XAt (K : Fr0) (H : Hp) (d : Option Addr) (fl : List (D × D)) : Prop := (fl = [] ∧ d = none) ∨ ∃ dd fs, d = some dd ∧ H dd = some (.xd fs) ∧ RpF K H fs fl
theorem XAt.up {K : Fr0} {H H' : Hp} {d : Option Addr} {fl : List (D × D)} (e : Ex H H') (h : XAt K H d fl) : XAt K H' d fl := by
  rcases h with h | ⟨dd, fs, h1, h2, h3⟩
  · exact .inl h
  · exact .inr ⟨dd, fs, h1, e _ _ h2, rpf_up e h3⟩
/-- one slot -/
def SlOk (K : Fr0) (P : Option Addr) (L : List Addr) (H : Hp) : Sl → Option V → Prop
  | .no, _ => True
  | .d x, o => ∃ v, o = some v ∧ Rp K (hide L H) v x
  | .own c, o => ∃ l u, o = some (.ref l) ∧ l ∈ L ∧ H l = some u ∧ OwAt K (hide L H) l u c
  | .st, o => ∃ p, P = some p ∧ o = some (.ref p)
  | .raw v, o => o = some v
  | .exc a d fl, o => o = some (.ref a) ∧ XAt K (hide L H) d fl
structure R (K : Fr0) (M : Mk0) (P : Option Addr) (F : Hp) (L : List Addr) (ρ : Rho) (σ : L2.St) (H : Hp) : Prop where
  len : σ.length = ρ.sl.length
  sl : ∀ (i : Nat) (s : Sl) (o : Option V), ρ.sl[i]? = some s → σ[i]? = some o → SlOk K P L H s o
  fr : ∀ a o, F a = some o → H a = some o ∧ a ∈ L
  tr : ∀ a ∈ L, ∃ o, H a = some o
  apart : ∀ (i j : Nat) (xs ys : Ow) (l : Addr), i ≠ j → ρ.sl[i]? = some (.own xs) → ρ.sl[j]? = some (.own ys) → σ[i]? = some (some (.ref l)) → σ[j]? = some (some (.ref l)) → False
  ownF : ∀ (i : Nat) (xs : Ow) (l : Addr), ρ.sl[i]? = some (.own xs) → σ[i]? = some (some (.ref l)) → F l = none
  m : ∀ p, P = some p → ∃ A, M.holds K p ρ.n A H ∧ (∀ a ∈ A, a ∈ L ∧ F a = none) ∧ ∀ (i : Nat) (xs : Ow) (l : Addr), ρ.sl[i]? = some (.own xs) → σ[i]? = some (some (.ref l)) → l ∉ A
  tb : Tb M.T M.nm F L H
section
variable {K : Fr0} {M : Mk0} {P : Option Addr} {F : Hp} {L L' : List Addr} {ρ : Rho} {σ : L2.St} {H H' : Hp}
theorem SlOk.ex {s : Sl} {o : Option V} (e : Ex H H') (h : SlOk K P L H s o) : SlOk K P L H' s o := by
  cases s with
  | no => trivial
  | d x =>
    obtain ⟨v, h1, h2⟩ := h
    exact ⟨v, h1, dp_ex (hide_ex e) _ _ h2⟩
  | own xs =>
    obtain ⟨l, vs, h1, h2, h3, h4⟩ := h
    exact ⟨l, vs, h1, h2, e _ _ h3, h4.up (hide_ex e)⟩
  | st => exact h
  | raw v => exact h
  | exc a d fl => exact ⟨h.1, h.2.up (hide_ex e)⟩
/-- everything that was tracked is as it was -/
theorem R.ex (r : R K M P F L ρ σ H) (e : Ex H H') : R K M P F L ρ σ H' where
  len := r.len
  sl := fun i s o h1 h2 => (r.sl i s o h1 h2).ex e
  fr := fun a o h => ⟨e _ _ (r.fr a o h).1, (r.fr a o h).2⟩
  tr := fun a h => let ⟨o, q⟩ := r.tr a h; ⟨o, e _ _ q⟩
  apart := r.apart
  ownF := r.ownF
  m := fun p h => by
    obtain ⟨A, h1, h2, h3⟩ := r.m p h
    exact ⟨A, M.loc (fun a _ o q => e _ _ q) h1, h2, h3⟩
  tb := r.tb.move (hide_ex e) fun P ps h1 h2 h3 => ⟨h1, h2, e _ _ h3⟩
theorem R.get (r : R K M P F L ρ σ H) {i : Nat} {x : D} (h : ρ.sl[i]? = some (.d x)) : ∃ v, σ[i]? = some (some v) ∧ Rp K (hide L H) v x := by
  have hi : i < σ.length := by rw [r.len]; exact (List.getElem?_eq_some_iff.mp h).1
  obtain ⟨v, h1, h2⟩ := r.sl i _ _ h (List.getElem?_eq_getElem hi)
  exact ⟨v, by rw [List.getElem?_eq_getElem hi, h1], h2⟩
theorem R.getOwn (r : R K M P F L ρ σ H) {i : Nat} {xs : Ow} (h : ρ.sl[i]? = some (.own xs)) : ∃ l u, σ[i]? = some (some (.ref l)) ∧ l ∈ L ∧ H l = some u ∧ OwAt K (hide L H) l u xs := by
  have hi : i < σ.length := by rw [r.len]; exact (List.getElem?_eq_some_iff.mp h).1
  obtain ⟨l, vs, h1, h2⟩ := r.sl i _ _ h (List.getElem?_eq_getElem hi)
  exact ⟨l, vs, by rw [List.getElem?_eq_getElem hi, h1], h2⟩
theorem R.getSt (r : R K M P F L ρ σ H) {i : Nat} (h : ρ.sl[i]? = some .st) : ∃ p, P = some p ∧ σ[i]? = some (some (.ref p)) := by
  have hi : i < σ.length := by rw [r.len]; exact (List.getElem?_eq_some_iff.mp h).1
  obtain ⟨p, h1, h2⟩ := r.sl i _ _ h (List.getElem?_eq_getElem hi)
  exact ⟨p, h1, by rw [List.getElem?_eq_getElem hi, h2]⟩
/-- a slot gets data (or is forgotten) -/
theorem R.setD (r : R K M P F L ρ σ H) (i : Nat) (s : Sl) (o : Option V) (hs : SlOk K P L H s o) (ho : ∀ xs, s ≠ .own xs) : R K M P F L (ρ.set i s) (σ.set i o) H where
  len := by simp [r.len]
  sl := fun j t u h1 h2 => by
    by_cases e : j = i
    · subst e
      have hj : j < ρ.sl.length := by
        have := (List.getElem?_eq_some_iff.mp h1).1
        simpa using this
      rw [show (ρ.set j s).sl = ρ.sl.set j s from rfl, List.getElem?_set_self hj] at h1
      rw [List.getElem?_set_self (by rw [r.len]; exact hj)] at h2
      cases h1
      cases h2
      exact hs
    · rw [show (ρ.set i s).sl = ρ.sl.set i s from rfl, List.getElem?_set_ne (fun q => e q.symm)] at h1
      rw [List.getElem?_set_ne (fun q => e q.symm)] at h2
      exact r.sl j t u h1 h2
  fr := r.fr
  tr := r.tr
  apart := fun a b xs ys l hab h1 h2 h3 h4 => by
    have go : ∀ {c : Nat} {zs : Ow}, (ρ.set i s).sl[c]? = some (.own zs) → c ≠ i := fun {c zs} h q => by
      subst q
      have hc : c < ρ.sl.length := by
        have := (List.getElem?_eq_some_iff.mp h).1
        simpa using this
      rw [show (ρ.set c s).sl = ρ.sl.set c s from rfl, List.getElem?_set_self hc] at h
      cases h
      exact ho zs rfl
    have ha := go h1
    have hb := go h2
    rw [show (ρ.set i s).sl = ρ.sl.set i s from rfl, List.getElem?_set_ne (fun q => ha q.symm)] at h1
    rw [show (ρ.set i s).sl = ρ.sl.set i s from rfl, List.getElem?_set_ne (fun q => hb q.symm)] at h2
    rw [List.getElem?_set_ne (fun q => ha q.symm)] at h3
    rw [List.getElem?_set_ne (fun q => hb q.symm)] at h4
    exact r.apart a b xs ys l hab h1 h2 h3 h4
  ownF := fun c zs l h h3 => by
    have hc : c ≠ i := fun q => by
      subst q
      have hc : c < ρ.sl.length := by
        have := (List.getElem?_eq_some_iff.mp h).1
        simpa using this
      rw [show (ρ.set c s).sl = ρ.sl.set c s from rfl, List.getElem?_set_self hc] at h
      cases h
      exact ho zs rfl
    rw [show (ρ.set i s).sl = ρ.sl.set i s from rfl, List.getElem?_set_ne (fun q => hc q.symm)] at h
    rw [List.getElem?_set_ne (fun q => hc q.symm)] at h3
    exact r.ownF c zs l h h3
  m := fun p hp => by
    obtain ⟨A, h1, h2, h3⟩ := r.m p hp
    refine ⟨A, h1, h2, fun c zs l h h4 => ?_⟩
    have hc : c ≠ i := fun q => by
      subst q
      have hc : c < ρ.sl.length := by
        have := (List.getElem?_eq_some_iff.mp h).1
        simpa using this
      rw [show (ρ.set c s).sl = ρ.sl.set c s from rfl, List.getElem?_set_self hc] at h
      cases h
      exact ho zs rfl
    rw [show (ρ.set i s).sl = ρ.sl.set i s from rfl, List.getElem?_set_ne (fun q => hc q.symm)] at h
    rw [List.getElem?_set_ne (fun q => hc q.symm)] at h4
    exact h3 c zs l h h4
  tb := r.tb
end
end PD
namespace PD
open PySem L2
open Evl (Ex)
section
variable {K : Fr0} {M : Mk0} {P : Option Addr} {F : Hp} {L L' : List Addr} {ρ : Rho} {σ : L2.St} {H H' : Hp}
def Own (ρ : Rho) (σ : L2.St) (a : Addr) : Prop := ∃ (i : Nat) (xs : Ow), ρ.sl[i]? = some (Sl.own xs) ∧ σ[i]? = some (some (V.ref a))
open Classical in
/-- what a callee must leave as it is, besides what is told by Ex -/
noncomputable def keepF (ρ : Rho) (σ : L2.St) (F H : Hp) : Hp := fun a => if Own ρ σ a then H a else F a
theorem keepF_own {a : Addr} (h : Own ρ σ a) : keepF ρ σ F H a = H a := by unfold keepF; rw [if_pos h]
theorem keepF_not {a : Addr} (h : ¬ Own ρ σ a) : keepF ρ σ F H a = F a := by unfold keepF; rw [if_neg h]
/-- slots without lists of one's own -/
def Bare (ρ : Rho) : Prop := ∀ (i : Nat) (xs : Ow), ρ.sl[i]? ≠ some (.own xs)
theorem R.notOwnT (r : R K M P F L ρ σ H) {a : Addr} {ps : Array Value} (h : H a = some (.tbl ps)) : ¬ Own ρ σ a := fun ⟨i, xs, h1, h2⟩ => by
  obtain ⟨l, u, g1, _, g3, g4⟩ := r.getOwn h1
  rw [h2] at g1
  cases g1
  rw [h] at g3
  cases g3
  exact OwAt.notTbl g4
theorem R.frame (r : R K M P F L ρ σ H) {ρc : Rho} {σc : L2.St} (hb : Bare ρc) (hn : ρc.n = ρ.n) (hl : σc.length = ρc.sl.length)
    (hs : ∀ (i : Nat) (s : Sl) (o : Option V), ρc.sl[i]? = some s → σc[i]? = some o → SlOk K P L H s o) : R K M P (keepF ρ σ F H) L ρc σc H where
  len := hl
  sl := hs
  fr := fun a o h => by
    by_cases ho : Own ρ σ a
    · rw [keepF_own ho] at h
      obtain ⟨i, xs, h1, h2⟩ := ho
      obtain ⟨l, vs, h3, h4, _⟩ := r.getOwn h1
      rw [h2] at h3
      cases h3
      exact ⟨h, h4⟩
    · rw [keepF_not ho] at h
      exact r.fr a o h
  tr := r.tr
  apart := fun i j xs ys l _ h => absurd h (hb i xs)
  ownF := fun i xs l h => absurd h (hb i xs)
  m := fun p hp => by
    obtain ⟨A, h1, h2, h3⟩ := r.m p hp
    refine ⟨A, by rw [hn]; exact h1, fun a ha => ⟨(h2 a ha).1, ?_⟩, fun i xs l h => absurd h (hb i xs)⟩
    have hno : ¬ Own ρ σ a := fun ⟨i, xs, h4, h5⟩ => h3 i xs a h4 h5 ha
    rw [keepF_not hno]
    exact (h2 a ha).2
  tb := r.tb.move (Ex.refl _) fun P ps h1 h2 h3 => ⟨by rw [keepF_not (r.notOwnT h3)]; exact h1, h2, h3⟩
theorem R.back (r : R K M P F L ρ σ H) {ρc : Rho} {σc : L2.St} (r' : R K M P (keepF ρ σ F H) L' ρc σc H') (e : Ex (hide L H) (hide L' H')) : R K M P F L' ⟨ρ.sl, ρc.n⟩ σ H' where
  len := r.len
  sl := fun i s o h1 h2 => by
    have q := r.sl i s o h1 h2
    cases s with
    | no => trivial
    | d x =>
      obtain ⟨v, h3, h4⟩ := q
      exact ⟨v, h3, dp_ex e _ _ h4⟩
    | own xs =>
      obtain ⟨l, vs, h3, h4, h5, h6⟩ := q
      have ho : Own ρ σ l := ⟨i, xs, h1, by rw [h2, h3]⟩
      have hf := r'.fr l vs (by rw [keepF_own ho]; exact h5)
      exact ⟨l, vs, h3, hf.2, hf.1, h6.up e⟩
    | st => exact q
    | raw v => exact q
    | exc a d fl => exact ⟨q.1, q.2.up e⟩
  fr := fun a o h => by
    have hno : ¬ Own ρ σ a := fun ⟨i, xs, h4, h5⟩ => by
      have := r.ownF i xs a h4 h5
      rw [h] at this
      cases this
    exact r'.fr a o (by rw [keepF_not hno]; exact h)
  tr := r'.tr
  apart := r.apart
  ownF := r.ownF
  m := fun p hp => by
    obtain ⟨A, h1, h2, h3⟩ := r'.m p hp
    have hA : ∀ a ∈ A, ¬ Own ρ σ a := fun a ha ho => by
      have q := (h2 a ha).2
      rw [keepF_own ho] at q
      obtain ⟨i, xs, h4, h5⟩ := ho
      obtain ⟨l, vs, h6, _, h8, _⟩ := r.getOwn h4
      rw [h5] at h6
      cases h6
      rw [h8] at q
      cases q
    refine ⟨A, h1, fun a ha => ⟨(h2 a ha).1, ?_⟩, fun i xs l h4 h5 hl => hA l hl ⟨i, xs, h4, h5⟩⟩
    have q := (h2 a ha).2
    rw [keepF_not (hA a ha)] at q
    exact q
  tb := r'.tb.move (Ex.refl _) fun P ps h1 h2 h3 => by
    refine ⟨?_, h2, h3⟩
    cases z : F P with
    | none => rfl
    | some o =>
      have hno : ¬ Own ρ σ P := fun ⟨i, xs, h4, h5⟩ => by
        have := r.ownF i xs P h4 h5
        rw [z] at this
        cases this
      rw [keepF_not hno, z] at h1
      cases h1
/-- a new object is laid -/
theorem R.laid (r : R K M P F L ρ σ H) {p : Addr} {o : HO} (hp : H p = none) : R K M P F L ρ σ (upd H p o) := r.ex (Ex.new hp)
theorem R.notL (r : R K M P F L ρ σ H) {p : Addr} (hp : H p = none) : p ∉ L := fun z => by
  obtain ⟨o, q⟩ := r.tr p z
  rw [hp] at q
  cases q
/-- an address is hidden that nobody speaks of -/
theorem R.hideMore (r : R K M P F L ρ σ H) {p : Addr} (hp : H p = none) {o : HO} : R K M P F (p :: L) ρ σ (upd H p o) where
  len := r.len
  sl := fun i s u h1 h2 => by
    have q := r.sl i s u h1 h2
    have hne : Ex (hide L H) (hide (p :: L) (upd H p o)) := fun a b hb => by
      obtain ⟨h3, h4⟩ := hide_some.mp hb
      have n : a ≠ p := ne_of_none h4 hp
      exact hide_some.mpr ⟨fun z => by
        rcases List.mem_cons.mp z with z | z
        · exact n z
        · exact h3 z, by rw [upd_ne n]; exact h4⟩
    cases s with
    | no => trivial
    | d x =>
      obtain ⟨v, h3, h4⟩ := q
      exact ⟨v, h3, dp_ex hne _ _ h4⟩
    | own xs =>
      obtain ⟨l, vs, h3, h4, h5, h6⟩ := q
      exact ⟨l, vs, h3, List.mem_cons_of_mem _ h4, by rw [upd_ne (ne_of_none h5 hp)]; exact h5, h6.up hne⟩
    | st => exact q
    | raw v => exact q
    | exc a d fl => exact ⟨q.1, q.2.up hne⟩
  fr := fun a b h => by
    have q := r.fr a b h
    exact ⟨by rw [upd_ne (ne_of_none q.1 hp)]; exact q.1, List.mem_cons_of_mem _ q.2⟩
  tr := fun a h => by
    rcases List.mem_cons.mp h with z | z
    · subst z
      exact ⟨o, upd_same⟩
    · obtain ⟨b, q⟩ := r.tr a z
      exact ⟨b, by rw [upd_ne (ne_of_none q hp)]; exact q⟩
  apart := r.apart
  ownF := r.ownF
  m := fun q hq => by
    obtain ⟨A, h1, h2, h3⟩ := r.m q hq
    exact ⟨A, M.loc (fun a ha b hb => by rw [upd_ne (ne_of_none hb hp)]; exact hb) h1, fun a ha => ⟨List.mem_cons_of_mem _ (h2 a ha).1, (h2 a ha).2⟩, h3⟩
  tb := r.tb.move (fun a b hb => by
    obtain ⟨h3, h4⟩ := hide_some.mp hb
    have n : a ≠ p := ne_of_none h4 hp
    exact hide_some.mpr ⟨fun z => (List.mem_cons.mp z).elim n h3, by rw [upd_ne n]; exact h4⟩) fun P ps h1 h2 h3 => ⟨h1, List.mem_cons_of_mem _ h2, by rw [upd_ne (ne_of_none h3 hp)]; exact h3⟩
end
abbrev KD := D → Rho → Prop
abbrev FE := Rho → KD → Prop
abbrev FT := Rho → (Bool → Rho → Prop) → Prop
abbrev FA := Rho → (List Sl → Rho → Prop) → Prop
def KV' (K : Fr0) (M : Mk0) (P : Option Addr) (F : Hp) (L : List Addr) (σ : L2.St) (H : Hp) (Q : VK) : KD := fun d ρ' => ∀ v L' H', Ex (hide L H) (hide L' H') → R K M P F L' ρ' σ H' → Rp K (hide L' H') v d → Q v H'
def DE (K : Fr0) (M : Mk0) (f : FE) : TE := fun σ H Q => ∃ P F L ρ, R K M P F L ρ σ H ∧ f ρ (KV' K M P F L σ H Q)
def DT (K : Fr0) (M : Mk0) (f : FT) : TT := fun σ H Q => ∃ P F L ρ, R K M P F L ρ σ H ∧ f ρ fun b ρ' => ∀ L' H', Ex (hide L H) (hide L' H') → R K M P F L' ρ' σ H' → Q b H'
def DA (K : Fr0) (M : Mk0) (f : FA) : TA := fun σ H Q => ∃ P F L ρ, R K M P F L ρ σ H ∧ f ρ fun ss ρ' => ∀ vs L' H', Ex (hide L H) (hide L' H') → R K M P F L' ρ' σ H' → vs.length = ss.length →
  (∀ (i : Nat) (s : Sl) (v : V), ss[i]? = some s → vs[i]? = some v → SlOk K P L' H' s (some v)) → (∀ (i : Nat) (xs : Ow), ss[i]? ≠ some (.own xs)) → Q vs H'
/-- a new list, hidden as yet -/
abbrev FN := Rho → (List D → Rho → Prop) → Prop
structure Post where
  nx : Rho → Prop
  rt : D → Rho → Prop
  bk : Rho → Prop := fun _ => False
  ct : Rho → Prop := fun _ => False
structure Post.Le (p q : Post) : Prop where
  nx : ∀ ρ, p.nx ρ → q.nx ρ
  rt : ∀ d ρ, p.rt d ρ → q.rt d ρ
  bk : ∀ ρ, p.bk ρ → q.bk ρ
  ct : ∀ ρ, p.ct ρ → q.ct ρ
abbrev FS := Rho → Post → Prop
def postOf (K : Fr0) (M : Mk0) (P : Option Addr) (F : Hp) (L : List Addr) (H : Hp) (D : Ends) : Post where
  nx := fun ρ' => ∀ σ' L' H', Ex (hide L H) (hide L' H') → R K M P F L' ρ' σ' H' → D.nx σ' H'
  rt := fun d ρ' => ∀ v σ' L' H', Ex (hide L H) (hide L' H') → R K M P F L' ρ' σ' H' → Rp K (hide L' H') v d → D.rt v H'
  bk := fun ρ' => ∀ σ' L' H', Ex (hide L H) (hide L' H') → R K M P F L' ρ' σ' H' → D.bk σ' H'
  ct := fun ρ' => ∀ σ' L' H', Ex (hide L H) (hide L' H') → R K M P F L' ρ' σ' H' → D.ct σ' H'
def DS (K : Fr0) (M : Mk0) (f : FS) : TS := fun D σ H => ∃ P F L ρ, R K M P F L ρ σ H ∧ f ρ (postOf K M P F L H D)
/-- assignment to a target, of data -/
abbrev FG := D → Rho → (Rho → Prop) → Prop
structure PD (X : Cx) (M : Mk0) (e : Expr) (f : FE) : Prop where
  pe : PE X e (DE X.k0 M f)
  mono : ∀ ρ k k', (∀ d ρ', k d ρ' → k' d ρ') → f ρ k → f ρ k'
structure PDT (X : Cx) (M : Mk0) (e : Expr) (f : FT) : Prop where
  pt : PT X e (DT X.k0 M f)
  mono : ∀ ρ k k', (∀ d ρ', k d ρ' → k' d ρ') → f ρ k → f ρ k'
structure PDA (X : Cx) (M : Mk0) (es : List Expr) (f : FA) : Prop where
  pa : PA X es (DA X.k0 M f)
  mono : ∀ ρ k k', (∀ d ρ', k d ρ' → k' d ρ') → f ρ k → f ρ k'
structure PDS (X : Cx) (M : Mk0) (st : Stmt) (f : FS) : Prop where
  ps : PS X st (DS X.k0 M f)
  mono : ∀ ρ k k', Post.Le k k' → f ρ k → f ρ k'
structure PDs (X : Cx) (M : Mk0) (st : List Stmt) (f : FS) : Prop where
  ps : PSs X st (DS X.k0 M f)
  mono : ∀ ρ k k', Post.Le k k' → f ρ k → f ρ k'
section
variable {X : Cx} {M : Mk0} {a b c e : Expr} {es : List Expr} {fa fb fc : FE} {pos : Pos}
theorem PE.wk {t t' : TE} (h : PE X e t) (w : ∀ σ H Q, t' σ H Q → t σ H Q) : PE X e t' := ⟨fun pins s σ H Q I q => h.run pins s σ H Q I (w σ H Q q)⟩
theorem PT.wk {t t' : TT} (h : PT X e t) (w : ∀ σ H Q, t' σ H Q → t σ H Q) : PT X e t' := ⟨fun pins s σ H Q I q => h.run pins s σ H Q I (w σ H Q q)⟩
theorem PA.wk {t t' : TA} (h : PA X es t) (w : ∀ σ H Q, t' σ H Q → t σ H Q) : PA X es t' := ⟨fun pos pins s σ H Q I q => h.run pos pins s σ H Q I (w σ H Q q)⟩
theorem PS.wk {st : Stmt} {t t' : TS} (h : PS X st t) (w : ∀ D σ H, t' D σ H → t D σ H) : PS X st t' := ⟨fun pins s σ H D I q => h.run pins s σ H D I (w D σ H q)⟩
theorem PSs.wk {st : List Stmt} {t t' : TS} (h : PSs X st t) (w : ∀ D σ H, t' D σ H → t D σ H) : PSs X st t' := ⟨fun pins s σ H D I q => h.run pins s σ H D I (w D σ H q)⟩
theorem PG.wk {t t' : TG} (h : PG X e t) (w : ∀ v σ H Q, t' v σ H Q → t v σ H Q) : PG X e t' := ⟨fun pins s σ H v u Q I r q => h.run pins s σ H v u Q I r (w v σ H Q q)⟩
def fVar (i : Nat) : FE := fun ρ k => ∃ x, ρ.sl[i]? = some (.d x) ∧ k x ρ
theorem pd_var {i : Nat} {x : Str} (h : PE X (.Name x pos) (tVar i)) : PD X M (.Name x pos) (fVar i) := by
  refine ⟨PE.wk h fun σ H Q ⟨P, F, L, ρ, r, x, hx, k⟩ => ?_, fun ρ k k' h ⟨x, h1, h2⟩ => ⟨x, h1, h _ _ h2⟩⟩
  obtain ⟨v, h1, h2⟩ := r.get hx
  exact ⟨v, h1, k v L H (Ex.refl _) r h2⟩
def fC (d : D) : FE := fun ρ k => k d ρ
theorem pd_const {v : V} {d : D} (h : PE X e (tC v)) (hd : ∀ H, Rp X.k0 H v d) : PD X M e (fC d) := by
  refine ⟨PE.wk h fun σ H Q ⟨P, F, L, ρ, r, k⟩ => ?_, fun ρ k k' h h2 => h _ _ h2⟩
  exact k v L H (Ex.refl _) r (hd _)
theorem pd_int {i : Int} {j : Nat} : PD X M (.Constant (.int i) j pos) (fC (.int i)) := pd_const pe_int fun _ => .int i
theorem pd_bl {b : Bool} {j : Nat} : PD X M (.Constant (.bool b) j pos) (fC (.bool b)) := pd_const pe_bl fun _ => .bl b
theorem pd_non {j : Nat} : PD X M (.Constant .none j pos) (fC .none) := pd_const pe_non fun _ => .non
theorem pd_str {x : Str} {j : Nat} : PD X M (.Constant (.str x) j pos) (fC (.str x)) := pd_const pe_str fun _ => .str x
/-- a module's constant, an int -/
theorem pd_gint {x : Str} {i : Int} (hg : Gl X x) (hm : ∃ t, X.mg x = some (.int i t)) (hd : (x == ("__debug__" : Str)) = false := by decide) : PD X M (.Name x pos) (fC (.int i)) := by
  obtain ⟨t, hm⟩ := hm
  exact pd_const (v := V.int i) (pe_glob hg hm ⟨t, rfl⟩ hd) fun _ => .int i
/-- a two-place operation, by data -/
def R2D (K : Fr0) (r : R2) (g : D → D → Option D) : Prop := ∀ (L : List Addr) (H : Hp) (x y : V) (dx dy d : D) (Q : VK), (∀ a ∈ L, ∃ o, H a = some o) → Rp K (hide L H) x dx → Rp K (hide L H) y dy → g dx dy = some d →
  (∀ v H', Ex H H' → Rp K (hide L H') v d → Q v H') → r x y H Q
def fOp (g : D → D → Option D) (fa fb : FE) : FE := fun ρ k => fa ρ fun x ρ1 => fb ρ1 fun y ρ2 => ∃ d, g x y = some d ∧ k d ρ2
theorem dOp {r : R2} {g : D → D → Option D} (hg : R2D X.k0 r g) (ma : ∀ ρ k k', (∀ d ρ', k d ρ' → k' d ρ') → fa ρ k → fa ρ k') (mb : ∀ ρ k k', (∀ d ρ', k d ρ' → k' d ρ') → fb ρ k → fb ρ k')
    (σ : L2.St) (H : Hp) (Q : VK) (h : DE X.k0 M (fOp g fa fb) σ H Q) : tOp r (DE X.k0 M fa) (DE X.k0 M fb) σ H Q := by
  obtain ⟨P, F, L, ρ, r0, k⟩ := h
  refine ⟨P, F, L, ρ, r0, ma _ _ _ (fun x ρ1 q v L1 H1 e1 r1 d1 => ?_) k⟩
  refine ⟨P, F, L1, ρ1, r1, mb _ _ _ (fun y ρ2 ⟨d, hd, q2⟩ u L2 H2 e2 r2 d2 => ?_) q⟩
  exact hg L2 H2 v u x y d Q r2.tr (dp_ex e2 _ _ d1) d2 hd fun w H3 e3 d3 => q2 w L2 H3 ((e1.trans e2).trans (hide_ex e3)) (r2.ex e3) d3
theorem fOp_mono {g : D → D → Option D} (ma : ∀ ρ k k', (∀ d ρ', k d ρ' → k' d ρ') → fa ρ k → fa ρ k') (mb : ∀ ρ k k', (∀ d ρ', k d ρ' → k' d ρ') → fb ρ k → fb ρ k') (ρ : Rho) (k k' : KD)
    (h : ∀ d ρ', k d ρ' → k' d ρ') (q : fOp g fa fb ρ k) : fOp g fa fb ρ k' := ma _ _ _ (fun x ρ1 q => mb _ _ _ (fun y ρ2 ⟨d, h1, h2⟩ => ⟨d, h1, h _ _ h2⟩) q) q
theorem pd_op {op : Operator} {r : R2} {g : D → D → Option D} (ho : OpR X (binaryOp op) r) (hg : R2D X.k0 r g) (ha : PD X M a fa) (hb : PD X M b fb) : PD X M (.BinOp a op b pos) (fOp g fa fb) :=
  ⟨PE.wk (pe_op ho ha.pe hb.pe) (dOp hg ha.mono hb.mono), fOp_mono ha.mono hb.mono⟩
theorem pd_cmp {op : CmpOp} {r : R2} {g : D → D → Option D} (ho : OpR X (compareOp op) r) (hg : R2D X.k0 r g) (ha : PD X M a fa) (hb : PD X M b fb) (hm : behindInMarks op b = false) : PD X M (.Compare a [op] [b] pos) (fOp g fa fb) :=
  ⟨PE.wk (pe_cmpR ho ha.pe hb.pe hm) (dOp hg ha.mono hb.mono), fOp_mono ha.mono hb.mono⟩
theorem pd_ix {r : R2} {g : D → D → Option D} (ho : IxR X r) (hg : R2D X.k0 r g) (ha : PD X M a fa) (hb : PD X M b fb) (hs : PlainIx b) : PD X M (.Subscript a b pos) (fOp g fa fb) :=
  ⟨PE.wk (pe_ix ho ha.pe hb.pe hs) (dOp hg ha.mono hb.mono), fOp_mono ha.mono hb.mono⟩
def R1D (K : Fr0) (r : V → Hp → VK → Prop) (g : D → Option D) : Prop := ∀ (L : List Addr) (H : Hp) (x : V) (dx d : D) (Q : VK), (∀ a ∈ L, ∃ o, H a = some o) → Rp K (hide L H) x dx → g dx = some d →
  (∀ v H', Ex H H' → Rp K (hide L H') v d → Q v H') → r x H Q
def fUn (g : D → Option D) (fa : FE) : FE := fun ρ k => fa ρ fun x ρ1 => ∃ d, g x = some d ∧ k d ρ1
theorem fUn_mono {g : D → Option D} (ma : ∀ ρ k k', (∀ d ρ', k d ρ' → k' d ρ') → fa ρ k → fa ρ k') (ρ : Rho) (k k' : KD) (h : ∀ d ρ', k d ρ' → k' d ρ') (q : fUn g fa ρ k) : fUn g fa ρ k' :=
  ma _ _ _ (fun x ρ1 ⟨d, h1, h2⟩ => ⟨d, h1, h _ _ h2⟩) q
theorem dUn {r : V → Hp → VK → Prop} {g : D → Option D} (hg : R1D X.k0 r g) (ma : ∀ ρ k k', (∀ d ρ', k d ρ' → k' d ρ') → fa ρ k → fa ρ k')
    (σ : L2.St) (H : Hp) (Q : VK) (h : DE X.k0 M (fUn g fa) σ H Q) : DE X.k0 M fa σ H fun x H1 => r x H1 Q := by
  obtain ⟨P, F, L, ρ, r0, k⟩ := h
  refine ⟨P, F, L, ρ, r0, ma _ _ _ (fun x ρ1 ⟨d, hd, q2⟩ v L1 H1 e1 r1 d1 => ?_) k⟩
  exact hg L1 H1 v x d Q r1.tr d1 hd fun w H3 e3 d3 => q2 w L1 H3 (e1.trans (hide_ex e3)) (r1.ex e3) d3
theorem pd_un {op : UnaryOp} {r : V → Hp → VK → Prop} {g : D → Option D} (ho : UnR X (unaryOp op) r) (hg : R1D X.k0 r g) (ha : PD X M a fa) : PD X M (.UnaryOp op a pos) (fUn g fa) :=
  ⟨PE.wk (pe_un ho ha.pe) (dUn hg ha.mono), fUn_mono ha.mono⟩
/-- a built-in of one argument -/
theorem pd_b1 {x : Str} {p : Pos} {id : String} {r : List V → Hp → VK → Prop} {g : D → Option D} (hc : CallR X (.builtin id) r) (hg' : R1D X.k0 (fun x => r [x]) g) (hg : Gl X x) (hm : X.mg x = none) (hv : bootBuiltins x = some (.builtin id)) (ha : PD X M a fa)
    (hn : x ≠ "__name__" := by decide) (hdb : (x == ("__debug__" : Str)) = false := by decide) (hs : starEach [a] X.env = (false, eval a X.env) :: starEach [] X.env := by rfl) :
    PD X M (.Call (.Name x p) [a] [] pos) (fUn g fa) := by
  refine ⟨PE.wk (pe_callB hc hg hm hv (pa_cons ha.pe pa_nil hs) hn hdb hs) fun σ H Q h => ?_, fUn_mono ha.mono⟩
  exact dUn (r := fun x => r [x]) hg' ha.mono σ H Q h
theorem pd_t1 {x : Str} {p : Pos} {id : String} {r : List V → Hp → VK → Prop} {g : D → Option D} (hc : CallR X (.type id) r) (hg' : R1D X.k0 (fun x => r [x]) g) (hg : Gl X x) (hm : X.mg x = none) (hv : bootBuiltins x = some (.type id)) (ha : PD X M a fa)
    (hn : x ≠ "__name__" := by decide) (hdb : (x == ("__debug__" : Str)) = false := by decide) (hs : starEach [a] X.env = (false, eval a X.env) :: starEach [] X.env := by rfl) :
    PD X M (.Call (.Name x p) [a] [] pos) (fUn g fa) := by
  refine ⟨PE.wk (pe_callTy hc hg hm hv (pa_cons ha.pe pa_nil hs) hn hdb hs) fun σ H Q h => ?_, fUn_mono ha.mono⟩
  exact dUn (r := fun x => r [x]) hg' ha.mono σ H Q h
/-- a built-in of two arguments -/
theorem pd_b2 {x : Str} {p : Pos} {id : String} {r : List V → Hp → VK → Prop} {g : D → D → Option D} (hc : CallR X (.builtin id) r) (hg' : R2D X.k0 (fun x y => r [x, y]) g) (hg : Gl X x) (hm : X.mg x = none) (hv : bootBuiltins x = some (.builtin id)) (ha : PD X M a fa) (hb : PD X M b fb)
    (hn : x ≠ "__name__" := by decide) (hdb : (x == ("__debug__" : Str)) = false := by decide) (hs : starEach [a, b] X.env = (false, eval a X.env) :: starEach [b] X.env := by rfl) (hs2 : starEach [b] X.env = (false, eval b X.env) :: starEach [] X.env := by rfl)
    (hpl : (backTo pos (starEach [b] X.env)).any (·.1) = false := by rfl) :
    PD X M (.Call (.Name x p) [a, b] [] pos) (fOp g fa fb) := by
  refine ⟨PE.wk (pe_callB hc hg hm hv (pa_cons ha.pe (pa_cons hb.pe pa_nil hs2) hs) hn hdb hs hpl) fun σ H Q h => ?_, fOp_mono ha.mono hb.mono⟩
  exact dOp (r := fun x y => r [x, y]) hg' ha.mono hb.mono σ H Q h
end
end PD
namespace PD
open PySem L2
open Evl (Ex)
mutual
theorem dpm {K : Fr0} {H H' : Hp} (e : Ex H H') : ∀ (d : D) (v : V), Dp K.f H v d → Dp K.f H' v d
  | .none, _, h => by cases h; exact .non
  | .bool b, _, h => by cases h; exact .bl b
  | .int i, _, h => by cases h; exact .int i
  | .str x, _, h => by cases h; exact .str x
  | .list ds, _, h => by
    cases h with
    | lst hs ha => exact .lst (Evl.ex_l e hs) (dpma e ds _ ha)
  | .tuple ds, _, h => by
    cases h with
    | tup hs ha => exact .tup (Evl.ex_t e hs) (dpma e ds _ ha)
  | .dict _, _, h => by cases h
theorem dpma {K : Fr0} {H H' : Hp} (e : Ex H H') : ∀ (ds : List D) (vs : List V), DpAll K.f H vs ds → DpAll K.f H' vs ds
  | [], _, h => by cases h; exact .nil
  | d :: ds, _, h => by
    cases h with
    | cons h1 h2 => exact .cons (dpm e d _ h1) (dpma e ds _ h2)
end
section
variable {K : Fr0} {L : List Addr} {H : Hp} {p : Addr} {vs : List V} {ds : List D}
theorem hide_new {o : HO} (tr : ∀ a ∈ L, ∃ o, H a = some o) (hp : H p = none) : hide L (upd H p o) p = some o := by
  refine hide_some.mpr ⟨fun z => ?_, upd_same⟩
  obtain ⟨o, q⟩ := tr p z
  rw [hp] at q
  cases q
theorem new_lst (tr : ∀ a ∈ L, ∃ o, H a = some o) (hp : H p = none) (h : RpAll K (hide L H) vs ds) : Rp K (hide L (upd H p (.lst vs))) (.ref p) (.list ds) :=
  .lst (.inl (.inl (hide_new tr hp))) (dpa_ex (hide_ex (Ex.new hp)) _ _ h)
theorem new_tup (tr : ∀ a ∈ L, ∃ o, H a = some o) (hp : H p = none) (h : RpAll K (hide L H) vs ds) : Rp K (hide L (upd H p (.tup vs))) (.ref p) (.tuple ds) :=
  .tup (.inl (.inl (hide_new tr hp))) (dpa_ex (hide_ex (Ex.new hp)) _ _ h)
theorem sqt_le (h : SqT K.f (hide L H) p vs) : SqT K.f H p vs := Evl.ex_t (hide_le L H) h
theorem sql_le (h : SqL K.f (hide L H) p vs) : SqL K.f H p vs := Evl.ex_l (hide_le L H) h
theorem rp_list {v : V} (h : Rp K (hide L H) v (.list ds)) : ∃ a xs, v = .ref a ∧ SqL K.f H a xs ∧ RpAll K (hide L H) xs ds := by
  cases h with
  | lst h1 h2 => exact ⟨_, _, rfl, sql_le h1, h2⟩
theorem rp_tuple {v : V} (h : Rp K (hide L H) v (.tuple ds)) : ∃ a xs, v = .ref a ∧ SqT K.f H a xs ∧ RpAll K (hide L H) xs ds := by
  cases h with
  | tup h1 h2 => exact ⟨_, _, rfl, sqt_le h1, h2⟩
theorem rp_int {v : V} {i : Int} (h : Rp K H v (.int i)) : v = .int i := by cases h; rfl
theorem rp_bool {v : V} {i : Bool} (h : Rp K H v (.bool i)) : v = .bl i := by cases h; rfl
theorem rp_str {v : V} {i : Str} (h : Rp K H v (.str i)) : v = .str i := by cases h; rfl
theorem rp_none {v : V} (h : Rp K H v .none) : v = .non := by cases h; rfl
end
theorem dp_le {K : Fr0} {L : List Addr} {H : Hp} {v : V} {d : D} (h : Dp K.f (hide L H) v d) : Dp K.f H v d := by
  exact dpm (hide_le L H) d v h
def gAdd : D → D → Option D
  | .int i, .int j => some (.int (i + j))
  | .str x, .str y => if x.length + y.length ≤ sizeLine then some (.str (x ++ y)) else none
  | .tuple xs, .tuple ys => if xs.length + ys.length ≤ sizeLine then some (.tuple (xs ++ ys)) else none
  | .list xs, .list ys => if xs.length + ys.length ≤ sizeLine then some (.list (xs ++ ys)) else none
  | _, _ => none
def gSub : D → D → Option D
  | .int i, .int j => some (.int (i - j))
  | _, _ => none
/-- one of the factors is small -/
def gMul : D → D → Option D
  | .int i, .int j => if (-(2 ^ 64) < i ∧ i < 2 ^ 64) ∨ (-(2 ^ 64) < j ∧ j < 2 ^ 64) then some (.int (i * j)) else none
  | .tuple xs, .int k => if xs ≠ [] ∧ 2 ≤ k ∧ k ≤ 1000 ∧ xs.length ≤ 1000 then some (.tuple (List.replicate k.toNat xs).flatten) else none
  | _, _ => none
def gMod : D → D → Option D
  | .int i, .int j => if 0 < j then some (.int (i % j)) else none
  | _, _ => none
def gPow : D → D → Option D
  | .int i, .int j => if 0 ≤ j ∧ j ≤ 1000000 ∧ i.natAbs < 2 ^ 64 then some (.int (i ^ j.toNat)) else none
  | _, _ => none
def gCmp (p : Int → Int → Bool) : D → D → Option D
  | .int i, .int j => some (.bool (p i j))
  | _, _ => none
abbrev gLt := gCmp fun i j => decide (i < j)
abbrev gLe := gCmp fun i j => decide (i ≤ j)
abbrev gGe := gCmp fun i j => decide (j ≤ i)
def gEq (x y : D) : Option D := if SeqAt.shaped x = true ∧ SeqAt.shaped y = true then some (.bool (PyData.eqv x y)) else none
def gNe (x y : D) : Option D := if SeqAt.shaped x = true ∧ SeqAt.shaped y = true then some (.bool (!PyData.eqv x y)) else none
def flatD : D → Bool
  | .none | .bool _ | .int _ | .str _ => true
  | _ => false
def gIn : D → D → Option D
  | x, .list ys => if flatD x = true ∧ ys.all flatD = true then some (.bool (ys.any fun y => PyData.eqv y x)) else none
  | x, .tuple ys => if flatD x = true ∧ ys.all flatD = true then some (.bool (ys.any fun y => PyData.eqv y x)) else none
  | _, _ => none
def gNotIn : D → D → Option D
  | x, .list ys => if flatD x = true ∧ ys.all flatD = true then some (.bool (!ys.any fun y => PyData.eqv y x)) else none
  | x, .tuple ys => if flatD x = true ∧ ys.all flatD = true then some (.bool (!ys.any fun y => PyData.eqv y x)) else none
  | _, _ => none
def gIx : D → D → Option D
  | .list xs, .int i => atI xs i
  | .tuple xs, .int i => atI xs i
  | _, _ => none
def gLen : D → Option D
  | .list xs => some (.int xs.length)
  | .tuple xs => some (.int xs.length)
  | .str x => if x.length ≤ sizeLine then some (.int x.length) else none
  | _ => none
def gTuple : D → Option D
  | .list xs => some (.tuple xs)
  | .tuple xs => some (.tuple xs)
  | _ => none
def gMin2 : D → D → Option D
  | .int i, .int j => some (.int (if j < i then j else i))
  | _, _ => none
def boolsD : List D → Option (List Bool)
  | [] => some []
  | .bool b :: r => (boolsD r).map (b :: ·)
  | _ :: _ => none
def intsD : List D → Option (List Int)
  | [] => some []
  | .int b :: r => (intsD r).map (b :: ·)
  | _ :: _ => none
theorem boolsD_eq : ∀ {ds : List D} {bs : List Bool}, boolsD ds = some bs → ds = bs.map PyData.bool
  | [], _, h => by cases h; rfl
  | .bool b :: r, bs, h => by
    unfold boolsD at h
    cases e : boolsD r with
    | none => rw [e] at h; cases h
    | some cs =>
      rw [e] at h
      cases h
      rw [boolsD_eq e]
      rfl
  | .none :: _, _, h => by cases h
  | .int _ :: _, _, h => by cases h
  | .str _ :: _, _, h => by cases h
  | .list _ :: _, _, h => by cases h
  | .tuple _ :: _, _, h => by cases h
  | .dict _ :: _, _, h => by cases h
theorem intsD_eq : ∀ {ds : List D} {bs : List Int}, intsD ds = some bs → ds = bs.map PyData.int
  | [], _, h => by cases h; rfl
  | .int b :: r, bs, h => by
    unfold intsD at h
    cases e : intsD r with
    | none => rw [e] at h; cases h
    | some cs =>
      rw [e] at h
      cases h
      rw [intsD_eq e]
      rfl
  | .none :: _, _, h => by cases h
  | .bool _ :: _, _, h => by cases h
  | .str _ :: _, _, h => by cases h
  | .list _ :: _, _, h => by cases h
  | .tuple _ :: _, _, h => by cases h
  | .dict _ :: _, _, h => by cases h
def gAll : D → Option D
  | .list xs => (boolsD xs).map fun bs => .bool (bs.all id)
  | _ => none
def gAny : D → Option D
  | .list xs => (boolsD xs).map fun bs => .bool (bs.any id)
  | _ => none
def isort (ns : List Int) : List Int := ns.mergeSort (fun a b => decide (a ≤ b))
def opOr (r r' : R2) : R2 := fun x y H Q => r x y H Q ∨ r' x y H Q
section
variable {K : Fr0} {X : Cx}
theorem or_op {f : Value → Value → Sem Value} {r r' : R2} (h : OpR X f r) (h' : OpR X f r') : OpR X f (opOr r r') := by
  intro pins s σ H x y v u Q I rx ry q
  rcases q with q | q
  · exact h pins s σ H x y v u Q I rx ry q
  · exact h' pins s σ H x y v u Q I rx ry q
def rCatR (K : PySem.W.Frag) : R2 := fun x y H Q => ∃ l b xs zs, x = V.ref l ∧ y = V.ref b ∧ SqL K H l xs ∧ SqL K H b zs ∧ xs.length + zs.length ≤ sizeLine ∧ ∀ p, H p = none → Q (.ref p) (upd H p (.lst (xs ++ zs)))
theorem op_catR : OpR X (binaryOp .Add) (rCatR X.K) := by
  intro pins s σ H x y v u Q I rx ry q0
  obtain ⟨la, lb, as, bs, ex, ey, sa, sb, hsum, kq⟩ := q0
  subst ex ey
  cases rx
  cases ry
  obtain ⟨its, ra, ⟨⟨c1, d1, w1, s1⟩, n1, g1, e1, e2, e3⟩, _⟩ := I.list sa
  obtain ⟨its2, rb, ⟨⟨c2, d2, w2, s2⟩, n2, g2, f1, f2, f3⟩, _⟩ := I.list sb
  simp only at e1 e2 e3 f1 f2 f3
  subst e1 e2 e3 f1 f2 f3
  have len1 := ra.length
  have len2 := rb.length
  have both : its.toArray ++ its2.toArray = (its ++ its2).toArray := by simp
  refine concat_meets ⟨_, g1, rfl⟩ ⟨_, g2, rfl⟩ noFill_list_add seq_list_add PySem.F.slot_list_add PySem.F.entry_list_add (PySem.F.args_list_add_2 _ _) (PyProof.Rows.list_addW la lb its.toArray its2.toArray n1 n2 none none s1 s2 (by rw [List.size_toArray, List.size_toArray]; omega)) ⟨g1, g2, ?_⟩
  rw [both]
  exact ⟨.ref _, _, I.lnew (t' := s.toks) (ra.append rb) (by rw [List.length_append]; omega), rfl, kq _ I.fresh⟩
def rAdd (K : PySem.W.Frag) : R2 := opOr (rI0 fun i j => .int (i + j)) (opOr (rCatR K) (opOr (rCatA K) fun x y H Q => ∃ i j, x = V.str i ∧ y = V.str j ∧ i.length + j.length ≤ sizeLine ∧ Q (.str (i ++ j)) H))
theorem op_addA : OpR X (binaryOp .Add) (rAdd X.K) := or_op op_add (or_op op_catR (or_op op_catA op_add_str))
theorem rd_add : R2D K (rAdd K.f) gAdd := by
  intro L H x y dx dy d Q tr hx hy hg k
  unfold gAdd at hg
  split at hg
  · cases hg
    exact .inl ⟨_, _, rp_int hx, rp_int hy, k _ _ (Ex.refl _) (.int _)⟩
  · split at hg
    · cases hg
      rename_i hz
      exact .inr (.inr (.inr ⟨_, _, rp_str hx, rp_str hy, hz, k _ _ (Ex.refl _) (.str _)⟩))
    · cases hg
  · split at hg
    · cases hg
      rename_i xs ys hz
      obtain ⟨a, vs, rfl, h1, h2⟩ := rp_tuple hx
      obtain ⟨b, us, rfl, h3, h4⟩ := rp_tuple hy
      have e1 := dpa_len h2
      have e2 := dpa_len h4
      refine .inr (.inr (.inl ⟨a, b, vs, us, rfl, rfl, h1, h3, by omega, fun z => ?_, fun z1 z2 => ?_, fun _ _ p hp => k _ _ (Ex.new hp) (new_tup tr hp (dpa_app h2 h4))⟩))
      · subst z
        have : xs = [] := List.eq_nil_of_length_eq_zero (by simpa using e1.symm)
        subst this
        exact k _ _ (Ex.refl _) hy
      · subst z2
        have : ys = [] := List.eq_nil_of_length_eq_zero (by simpa using e2.symm)
        subst this
        rw [List.append_nil] at k
        exact k _ _ (Ex.refl _) hx
    · cases hg
  · split at hg
    · cases hg
      rename_i xs ys hz
      obtain ⟨a, vs, rfl, h1, h2⟩ := rp_list hx
      obtain ⟨b, us, rfl, h3, h4⟩ := rp_list hy
      have e1 := dpa_len h2
      have e2 := dpa_len h4
      exact .inr (.inl ⟨a, b, vs, us, rfl, rfl, h1, h3, by omega, fun p hp => k _ _ (Ex.new hp) (new_lst tr hp (dpa_app h2 h4))⟩)
    · cases hg
  · cases hg
theorem rd_I0 {g : Int → Int → Int} {gd : D → D → Option D} (h : ∀ x y d, gd x y = some d → ∃ i j, x = .int i ∧ y = .int j ∧ d = .int (g i j)) : R2D K (rI0 fun i j => .int (g i j)) gd := by
  intro L H x y dx dy d Q tr hx hy hg k
  obtain ⟨i, j, rfl, rfl, rfl⟩ := h _ _ _ hg
  exact ⟨i, j, rp_int hx, rp_int hy, k _ _ (Ex.refl _) (.int _)⟩
theorem rd_I {C : Int → Int → Prop} {g : Int → Int → Int} {gd : D → D → Option D} (h : ∀ x y d, gd x y = some d → ∃ i j, x = .int i ∧ y = .int j ∧ C i j ∧ d = .int (g i j)) : R2D K (rI C fun i j => .int (g i j)) gd := by
  intro L H x y dx dy d Q tr hx hy hg k
  obtain ⟨i, j, rfl, rfl, hc, rfl⟩ := h _ _ _ hg
  exact ⟨i, j, rp_int hx, rp_int hy, hc, k _ _ (Ex.refl _) (.int _)⟩
theorem rd_sub : R2D K (rI0 fun i j => .int (i - j)) gSub := rd_I0 fun x y d h => by
  unfold gSub at h
  split at h
  · cases h; exact ⟨_, _, rfl, rfl, rfl⟩
  · cases h
theorem rd_pow : R2D K (rI CPow fun i j => .int (i ^ j.toNat)) gPow := rd_I fun x y d h => by
  unfold gPow at h
  split at h
  · split at h
    · cases h; exact ⟨_, _, rfl, rfl, by assumption, rfl⟩
    · cases h
  · cases h
theorem rd_cmp {p : Int → Int → Bool} : R2D K (rI0 fun i j => .bl (p i j)) (gCmp p) := by
  intro L H x y dx dy d Q tr hx hy hg k
  unfold gCmp at hg
  split at hg
  · cases hg
    exact ⟨_, _, rp_int hx, rp_int hy, k _ _ (Ex.refl _) (.bl _)⟩
  · cases hg
theorem rp_rep {H : Hp} {vs : List V} {ds : List D} (h : RpAll K H vs ds) : ∀ n : Nat, RpAll K H (List.replicate n vs).flatten (List.replicate n ds).flatten
  | 0 => .nil
  | n + 1 => by
    rw [List.replicate_succ, List.replicate_succ, List.flatten_cons, List.flatten_cons]
    exact dpa_app h (rp_rep h n)
def rMulA (K : PySem.W.Frag) : R2 := opOr (rI CMul fun i j => .int (i * j)) (rRepT K)
theorem op_mulA : OpR X (binaryOp .Mult) (rMulA X.K) := or_op op_mul op_repT
theorem rd_mul : R2D K (rMulA K.f) gMul := by
  intro L H x y dx dy d Q tr hx hy hg k
  unfold gMul at hg
  split at hg
  · split at hg
    · cases hg
      exact .inl ⟨_, _, rp_int hx, rp_int hy, by assumption, k _ _ (Ex.refl _) (.int _)⟩
    · cases hg
  · split at hg
    · cases hg
      rename_i xs kk hz
      obtain ⟨a, vs, rfl, h1, h2⟩ := rp_tuple hx
      have e1 := dpa_len h2
      refine .inr ⟨a, kk, vs, rfl, rp_int hy, h1, fun z => hz.1 ?_, hz.2.1, hz.2.2.1, by omega, fun p hp => k _ _ (Ex.new hp) (new_tup tr hp (rp_rep h2 _))⟩
      subst z
      exact List.eq_nil_of_length_eq_zero (by simpa using e1.symm)
    · cases hg
  · cases hg
theorem rd_eq : R2D K (rEqD K.f) gEq := by
  intro L H x y dx dy d Q tr hx hy hg k
  unfold gEq at hg
  split at hg
  · cases hg
    rename_i hz
    have c1 : dx.canLay0 = true := by
      have := hz.1
      unfold SeqAt.shaped at this
      simp at this
      exact this.1
    have c2 : dy.canLay0 = true := by
      have := hz.2
      unfold SeqAt.shaped at this
      simp at this
      exact this.1
    exact ⟨dx, dy, dp_le (rp_dp _ _ c1 hx), dp_le (rp_dp _ _ c2 hy), hz.1, hz.2, k _ _ (Ex.refl _) (.bl _)⟩
  · cases hg
theorem rd_ne : R2D K (rNeD K.f) gNe := by
  intro L H x y dx dy d Q tr hx hy hg k
  unfold gNe at hg
  split at hg
  · cases hg
    rename_i hz
    have c1 : dx.canLay0 = true := by
      have := hz.1
      unfold SeqAt.shaped at this
      simp at this
      exact this.1
    have c2 : dy.canLay0 = true := by
      have := hz.2
      unfold SeqAt.shaped at this
      simp at this
      exact this.1
    exact ⟨dx, dy, dp_le (rp_dp _ _ c1 hx), dp_le (rp_dp _ _ c2 hy), hz.1, hz.2, k _ _ (Ex.refl _) (.bl _)⟩
  · cases hg
/-- flat data, and the value at it -/
theorem flat_val {H : Hp} {v : V} {d : D} (h : Rp K H v d) (f : flatD d = true) : flatV v = true := by
  cases h <;> first | rfl | cases f
theorem flat_eqv {H : Hp} {v u : V} {d e : D} (h : Rp K H v d) (g : Rp K H u e) (f : flatD d = true) (f2 : flatD e = true) : eqV v u = PyData.eqv d e := by
  cases h <;> cases g <;> first | rfl | cases f | cases f2 | skip
theorem flat_all {H : Hp} : ∀ {vs : List V} {ds : List D}, RpAll K H vs ds → ds.all flatD = true → vs.all flatV = true
  | _, [], h, _ => by cases h; rfl
  | _, d :: ds, h, f => by
    rw [List.all_cons, Bool.and_eq_true] at f
    cases h with
    | cons h1 h2 =>
      rw [List.all_cons, Bool.and_eq_true]
      exact ⟨flat_val h1 f.1, flat_all h2 f.2⟩
theorem flat_in {H : Hp} {x : V} {dx : D} (hx : Rp K H x dx) (f : flatD dx = true) : ∀ {vs : List V} {ds : List D}, RpAll K H vs ds → ds.all flatD = true → inV x vs = ds.any fun y => PyData.eqv y dx
  | _, [], h, _ => by cases h; rfl
  | _, d :: ds, h, g => by
    rw [List.all_cons, Bool.and_eq_true] at g
    cases h with
    | cons h1 h2 =>
      show (eqV _ x || inV x _) = _
      rw [flat_eqv h1 hx g.1 f, flat_in hx f h2 g.2]
      rfl
theorem rd_in : R2D K (rIn K.f false) gIn := by
  intro L H x y dx dy d Q tr hx hy hg k
  unfold gIn at hg
  split at hg
  · split at hg
    · cases hg
      rename_i ys hz
      obtain ⟨a, vs, rfl, h1, h2⟩ := rp_list hy
      refine ⟨a, vs, rfl, .inl h1, flat_val hx hz.1, flat_all h2 hz.2, ?_⟩
      rw [flat_in hx hz.1 h2 hz.2]
      exact k _ _ (Ex.refl _) (.bl _)
    · cases hg
  · split at hg
    · cases hg
      rename_i ys hz
      obtain ⟨a, vs, rfl, h1, h2⟩ := rp_tuple hy
      refine ⟨a, vs, rfl, .inr h1, flat_val hx hz.1, flat_all h2 hz.2, ?_⟩
      rw [flat_in hx hz.1 h2 hz.2]
      exact k _ _ (Ex.refl _) (.bl _)
    · cases hg
  · cases hg
theorem rd_notIn : R2D K (rIn K.f true) gNotIn := by
  intro L H x y dx dy d Q tr hx hy hg k
  unfold gNotIn at hg
  split at hg
  · split at hg
    · cases hg
      rename_i ys hz
      obtain ⟨a, vs, rfl, h1, h2⟩ := rp_list hy
      refine ⟨a, vs, rfl, .inl h1, flat_val hx hz.1, flat_all h2 hz.2, ?_⟩
      rw [flat_in hx hz.1 h2 hz.2]
      exact k _ _ (Ex.refl _) (.bl _)
    · cases hg
  · split at hg
    · cases hg
      rename_i ys hz
      obtain ⟨a, vs, rfl, h1, h2⟩ := rp_tuple hy
      refine ⟨a, vs, rfl, .inr h1, flat_val hx hz.1, flat_all h2 hz.2, ?_⟩
      rw [flat_in hx hz.1 h2 hz.2]
      exact k _ _ (Ex.refl _) (.bl _)
    · cases hg
  · cases hg
theorem atI_len {α β : Type} {xs : List α} {ys : List β} {i : Int} {y : β} (h : xs.length = ys.length) (e : atI ys i = some y) : ∃ j : Nat, ys[j]? = some y ∧ ∀ x, xs[j]? = some x → atI xs i = some x := by
  unfold atI at e
  cases q : ixN ys.length i with
  | none => rw [q] at e; cases e
  | some j =>
    rw [q] at e
    refine ⟨j, e, fun x hx => ?_⟩
    unfold atI
    rw [h, q]
    exact hx
def rIxA (K : PySem.W.Frag) : R2 := opOr (rIxL K) (rIxT K)
theorem ix_any : IxR X (rIxA X.K) := IxR.or ix_list ix_tup
theorem rd_ix : R2D K (rIxA K.f) gIx := by
  intro L H x y dx dy d Q tr hx hy hg k
  unfold gIx at hg
  split at hg
  · rename_i xs i
    obtain ⟨a, vs, rfl, h1, h2⟩ := rp_list hx
    obtain ⟨j, e1, e2⟩ := atI_len (dpa_len h2) hg
    obtain ⟨v, e3, e4⟩ := dpa_get' h2 e1
    exact .inl ⟨a, vs, i, v, rfl, rp_int hy, h1, e2 v e3, k _ _ (Ex.refl _) e4⟩
  · rename_i xs i
    obtain ⟨a, vs, rfl, h1, h2⟩ := rp_tuple hx
    obtain ⟨j, e1, e2⟩ := atI_len (dpa_len h2) hg
    obtain ⟨v, e3, e4⟩ := dpa_get' h2 e1
    exact .inr ⟨a, vs, i, v, rfl, rp_int hy, h1, e2 v e3, k _ _ (Ex.refl _) e4⟩
  · cases hg
theorem rd_min2 : R2D K (fun x y H Q => ∃ i j, [x, y] = [V.int i, V.int j] ∧ Q (.int (if j < i then j else i)) H) gMin2 := by
  intro L H x y dx dy d Q tr hx hy hg k
  unfold gMin2 at hg
  split at hg
  · cases hg
    exact ⟨_, _, by rw [rp_int hx, rp_int hy], k _ _ (Ex.refl _) (.int _)⟩
  · cases hg
def rLenA (K : PySem.W.Frag) : List V → Hp → VK → Prop := fun xs H Q => (∃ p ys, xs = [V.ref p] ∧ (SqL K H p ys ∨ SqT K H p ys) ∧ Q (.int ys.length) H) ∨ ∃ z, xs = [V.str z] ∧ z.length ≤ sizeLine ∧ Q (.int z.length) H
theorem call_lenA : CallR X (.builtin "len") (rLenA X.K) := by
  intro pins s σ H xs us Q I r h
  rcases h with h | h
  · exact call_len_seq pins s σ H xs us Q I r h
  · exact call_len_str pins s σ H xs us Q I r h
theorem r1_len : R1D K (fun x => rLenA K.f [x]) gLen := by
  intro L H x dx d Q tr hx hg k
  unfold gLen at hg
  split at hg
  · cases hg
    obtain ⟨a, vs, rfl, h1, h2⟩ := rp_list hx
    refine .inl ⟨a, vs, rfl, .inl h1, ?_⟩
    rw [dpa_len h2]
    exact k _ _ (Ex.refl _) (.int _)
  · cases hg
    obtain ⟨a, vs, rfl, h1, h2⟩ := rp_tuple hx
    refine .inl ⟨a, vs, rfl, .inr h1, ?_⟩
    rw [dpa_len h2]
    exact k _ _ (Ex.refl _) (.int _)
  · split at hg
    · cases hg
      exact .inr ⟨_, by rw [rp_str hx], by assumption, k _ _ (Ex.refl _) (.int _)⟩
    · cases hg
  · cases hg
theorem r1_tuple : R1D K (fun x H Q => ∃ p ys, [x] = [V.ref p] ∧ ((SqL K.f H p ys ∧ ∀ l, H l = none → Q (.ref l) (upd H l (.tup ys))) ∨ (SqT K.f H p ys ∧ Q (.ref p) H))) gTuple := by
  intro L H x dx d Q tr hx hg k
  unfold gTuple at hg
  split at hg
  · cases hg
    obtain ⟨a, vs, rfl, h1, h2⟩ := rp_list hx
    exact ⟨a, vs, rfl, .inl ⟨h1, fun l hl => k _ _ (Ex.new hl) (new_tup tr hl h2)⟩⟩
  · cases hg
    obtain ⟨a, vs, rfl, h1, h2⟩ := rp_tuple hx
    exact ⟨a, vs, rfl, .inr ⟨h1, k _ _ (Ex.refl _) hx⟩⟩
  · cases hg
theorem r1_all : R1D K (fun x => rAll K.f [x]) gAll := by
  intro L H x dx d Q tr hx hg k
  unfold gAll at hg
  split at hg
  · rename_i xs
    cases e : boolsD xs with
    | none => rw [e] at hg; cases hg
    | some bs =>
      rw [e] at hg
      cases hg
      obtain ⟨a, vs, rfl, h1, h2⟩ := rp_list hx
      rw [boolsD_eq e] at h2
      rw [dpa_bools_eq h2] at h1
      exact ⟨a, bs, rfl, h1, k _ _ (Ex.refl _) (.bl _)⟩
  · cases hg
theorem r1_any : R1D K (fun x => rAny K.f [x]) gAny := by
  intro L H x dx d Q tr hx hg k
  unfold gAny at hg
  split at hg
  · rename_i xs
    cases e : boolsD xs with
    | none => rw [e] at hg; cases hg
    | some bs =>
      rw [e] at hg
      cases hg
      obtain ⟨a, vs, rfl, h1, h2⟩ := rp_list hx
      rw [boolsD_eq e] at h2
      rw [dpa_bools_eq h2] at h1
      exact ⟨a, bs, rfl, h1, k _ _ (Ex.refl _) (.bl _)⟩
  · cases hg
end
end PD
namespace PD
open PySem L2
open Evl (Ex)
abbrev FL := Rho → (List D → Rho → Prop) → Prop
def DL (K : Fr0) (M : Mk0) (f : FL) : TA := fun σ H Q => ∃ P F L ρ, R K M P F L ρ σ H ∧ f ρ fun ds ρ' => ∀ vs L' H', Ex (hide L H) (hide L' H') → R K M P F L' ρ' σ H' → RpAll K (hide L' H') vs ds → Q vs H'
structure PDL (X : Cx) (M : Mk0) (es : List Expr) (f : FL) : Prop where
  pa : PA X es (DL X.k0 M f)
  mono : ∀ ρ k k', (∀ d ρ', k d ρ' → k' d ρ') → f ρ k → f ρ k'
structure PDW (X : Cx) (M : Mk0) (e : Expr) (f : FT) : Prop where
  pw : PW X e (DT X.k0 M f)
  mono : ∀ ρ k k', (∀ d ρ', k d ρ' → k' d ρ') → f ρ k → f ρ k'
theorem PW.wk {X : Cx} {e : Expr} {t t' : TT} (h : PW X e t) (w : ∀ σ H Q, t' σ H Q → t σ H Q) : PW X e t' := ⟨fun wh pins s σ H Q I q => h.run wh pins s σ H Q I (w σ H Q q)⟩
theorem PI.wk {X : Cx} {tg it : Expr} {t t' : TI} (h : PI X tg it t) (w : ∀ σ H Q, t' σ H Q → t σ H Q) : PI X tg it t' := ⟨fun pins s σ H Q I q => h.run pins s σ H Q I (w σ H Q q)⟩
theorem PTs.wk {X : Cx} {es : List Expr} {t t' : TT} (h : PTs X es t) (w : ∀ σ H Q, t' σ H Q → t σ H Q) : PTs X es t' := ⟨fun pins s σ H Q I q => h.run pins s σ H Q I (w σ H Q q)⟩
section
variable {X : Cx} {M : Mk0} {a b c e o : Expr} {es rest : List Expr} {fa fb fc : FE} {fl : FL} {ft fu : FT} {pos : Pos}
def flNil : FL := fun ρ k => k [] ρ
def flCons (fa : FE) (fl : FL) : FL := fun ρ k => fa ρ fun d ρ1 => fl ρ1 fun ds ρ2 => k (d :: ds) ρ2
theorem pdl_nil : PDL X M [] flNil := by
  refine ⟨PA.wk pa_nil fun σ H Q ⟨P, F, L, ρ, r, k⟩ => ?_, fun ρ k k' h q => h _ _ q⟩
  exact k [] L H (Ex.refl _) r .nil
theorem pdl_cons (ha : PD X M a fa) (hl : PDL X M es fl) (hs : starEach (a :: es) X.env = (false, eval a X.env) :: starEach es X.env := by rfl) : PDL X M (a :: es) (flCons fa fl) := by
  refine ⟨PA.wk (pa_cons ha.pe hl.pa hs) fun σ H Q ⟨P, F, L, ρ, r, k⟩ => ?_, fun ρ k k' h q => ha.mono _ _ _ (fun d ρ1 q => hl.mono _ _ _ (fun ds ρ2 q => h _ _ q) q) q⟩
  refine ⟨P, F, L, ρ, r, ha.mono _ _ _ (fun d ρ1 q v L1 H1 e1 r1 d1 => ?_) k⟩
  exact ⟨P, F, L1, ρ1, r1, hl.mono _ _ _ (fun ds ρ2 q vs L2 H2 e2 r2 d2 => q (v :: vs) L2 H2 (e1.trans e2) r2 (.cons (dp_ex e2 _ _ d1) d2)) q⟩
def fTup (fl : FL) : FE := fun ρ k => fl ρ fun ds ρ1 => ds.length ≤ 100000 ∧ k (.tuple ds) ρ1
def fLst (fl : FL) : FE := fun ρ k => fl ρ fun ds ρ1 => ds.length ≤ 100000 ∧ k (.list ds) ρ1
theorem pd_tup {x1} (h : PDL X M es fl) : PD X M (.Tuple es x1 pos) (fTup fl) := by
  refine ⟨PE.wk (pe_tup h.pa) fun σ H Q ⟨P, F, L, ρ, r, k⟩ => ?_, fun ρ k k' g q => h.mono _ _ _ (fun ds ρ1 q => ⟨q.1, g _ _ q.2⟩) q⟩
  refine ⟨P, F, L, ρ, r, h.mono _ _ _ (fun ds ρ1 q vs L1 H1 e1 r1 d1 => ⟨Evl.sz_of (by rw [dpa_len d1]; exact q.1), fun p hp => ?_⟩) k⟩
  exact q.2 (.ref p) L1 _ (e1.trans (hide_ex (Ex.new hp))) (r1.laid hp) (new_tup r1.tr hp d1)
theorem pd_lst (h : PDL X M es fl) : PD X M (.List es pos) (fLst fl) := by
  refine ⟨PE.wk (pe_lst h.pa) fun σ H Q ⟨P, F, L, ρ, r, k⟩ => ?_, fun ρ k k' g q => h.mono _ _ _ (fun ds ρ1 q => ⟨q.1, g _ _ q.2⟩) q⟩
  refine ⟨P, F, L, ρ, r, h.mono _ _ _ (fun ds ρ1 q vs L1 H1 e1 r1 d1 => ⟨Evl.sz_of (by rw [dpa_len d1]; exact q.1), fun p hp => ?_⟩) k⟩
  exact q.2 (.ref p) L1 _ (e1.trans (hide_ex (Ex.new hp))) (r1.laid hp) (new_lst r1.tr hp d1)
/-- a value that is a bool, as a test -/
def ftB (fa : FE) : FT := fun ρ k => fa ρ fun d ρ1 => ∃ b, d = .bool b ∧ k b ρ1
theorem ftB_mono (ma : ∀ ρ k k', (∀ d ρ', k d ρ' → k' d ρ') → fa ρ k → fa ρ k') (ρ : Rho) (k k' : Bool → Rho → Prop) (h : ∀ d ρ', k d ρ' → k' d ρ') (q : ftB fa ρ k) : ftB fa ρ k' :=
  ma _ _ _ (fun d ρ1 ⟨b, h1, h2⟩ => ⟨b, h1, h _ _ h2⟩) q
/-- a comparison as a test -/
theorem pdt_cmp {op : CmpOp} {r : R2} {g : D → D → Option D} (ho : OpR X (compareOp op) r) (hg : R2D X.k0 r g) (ha : PD X M a fa) (hb : PD X M b fb) (hm : behindInMarks op b = false) : PDT X M (.Compare a [op] [b] pos) (ftB (fOp g fa fb)) := by
  refine ⟨PT.wk (pt_cmpR ho ha.pe hb.pe hm) fun σ H Q h => ?_, ftB_mono (fOp_mono ha.mono hb.mono)⟩
  obtain ⟨P, F, L, ρ, r0, k⟩ := h
  refine dOp (M := M) hg ha.mono hb.mono σ H _ ⟨P, F, L, ρ, r0, fOp_mono ha.mono hb.mono _ _ _ (fun d ρ1 ⟨b, h1, h2⟩ v L1 H1 e1 r1 d1 => ?_) k⟩
  subst h1
  exact ⟨b, rp_bool d1, h2 L1 H1 e1 r1⟩
def fChain (g g' : D → D → Option D) (fa fb fc : FE) : FE := fun ρ k => fa ρ fun x ρ1 => fb ρ1 fun y ρ2 => ∃ t, g x y = some (.bool t) ∧ if t = true then fc ρ2 fun z ρ3 => ∃ d, g' y z = some d ∧ k d ρ3 else k (.bool false) ρ2
theorem fChain_mono {g g' : D → D → Option D} (ma : ∀ ρ k k', (∀ d ρ', k d ρ' → k' d ρ') → fa ρ k → fa ρ k') (mb : ∀ ρ k k', (∀ d ρ', k d ρ' → k' d ρ') → fb ρ k → fb ρ k') (mc : ∀ ρ k k', (∀ d ρ', k d ρ' → k' d ρ') → fc ρ k → fc ρ k')
    (ρ : Rho) (k k' : KD) (h : ∀ d ρ', k d ρ' → k' d ρ') (q : fChain g g' fa fb fc ρ k) : fChain g g' fa fb fc ρ k' :=
  ma _ _ _ (fun x ρ1 q => mb _ _ _ (fun y ρ2 ⟨t, h1, h2⟩ => ⟨t, h1, by
    cases t with
    | true => exact mc _ _ _ (fun z ρ3 ⟨d, h3, h4⟩ => ⟨d, h3, h _ _ h4⟩) h2
    | false => exact h _ _ h2⟩) q) q
theorem dChain {r r' : R2} {g g' : D → D → Option D} (hg : R2D X.k0 r g) (hg' : R2D X.k0 r' g') (ma : ∀ ρ k k', (∀ d ρ', k d ρ' → k' d ρ') → fa ρ k → fa ρ k') (mb : ∀ ρ k k', (∀ d ρ', k d ρ' → k' d ρ') → fb ρ k → fb ρ k') (mc : ∀ ρ k k', (∀ d ρ', k d ρ' → k' d ρ') → fc ρ k → fc ρ k')
    (σ : L2.St) (H : Hp) (Q : VK) (h : DE X.k0 M (fChain g g' fa fb fc) σ H Q) : tChain r r' (DE X.k0 M fa) (DE X.k0 M fb) (DE X.k0 M fc) σ H Q := by
  obtain ⟨P, F, L, ρ, r0, k⟩ := h
  refine ⟨P, F, L, ρ, r0, ma _ _ _ (fun x ρ1 q v L1 H1 e1 r1 d1 => ?_) k⟩
  refine ⟨P, F, L1, ρ1, r1, mb _ _ _ (fun y ρ2 ⟨t, ht, q2⟩ u L2 H2 e2 r2 d2 => ?_) q⟩
  refine hg L2 H2 v u x y (.bool t) _ r2.tr (dp_ex e2 _ _ d1) d2 ht fun w H3 e3 d3 => ⟨t, rp_bool d3, ?_⟩
  cases t with
  | true =>
    show DE X.k0 M fc σ H3 _
    refine ⟨P, F, L2, ρ2, r2.ex e3, mc _ _ _ (fun z ρ3 ⟨d, hd, q3⟩ w' L4 H4 e4 r4 d4 => ?_) q2⟩
    refine hg' L4 H4 u w' y z d Q r4.tr (dp_ex e4 _ _ (dp_ex (hide_ex e3) _ _ d2)) d4 hd fun w5 H5 e5 d5 => q3 w5 L4 H5 (((e1.trans e2).trans (hide_ex e3)).trans (e4.trans (hide_ex e5))) (r4.ex e5) d5
  | false =>
    show Q (.bl false) H3
    exact q2 (.bl false) L2 H3 ((e1.trans e2).trans (hide_ex e3)) (r2.ex e3) (.bl false)
theorem pd_chain {op op' : CmpOp} {r r' : R2} {g g' : D → D → Option D} (ho : OpR X (compareOp op) r) (ho' : OpR X (compareOp op') r') (hg : R2D X.k0 r g) (hg' : R2D X.k0 r' g') (ha : PD X M a fa) (hb : PD X M b fb) (hc : PD X M c fc)
    (hm : lastMarks [op, op'] [b, c] = false := by with_unfolding_all rfl) : PD X M (.Compare a [op, op'] [b, c] pos) (fChain g g' fa fb fc) :=
  ⟨PE.wk (pe_chain ho ho' ha.pe hb.pe hc.pe hm) (dChain hg hg' ha.mono hb.mono hc.mono), fChain_mono ha.mono hb.mono hc.mono⟩
theorem pdt_chain {op op' : CmpOp} {r r' : R2} {g g' : D → D → Option D} (ho : OpR X (compareOp op) r) (ho' : OpR X (compareOp op') r') (hg : R2D X.k0 r g) (hg' : R2D X.k0 r' g') (ha : PD X M a fa) (hb : PD X M b fb) (hc : PD X M c fc)
    (hm : lastMarks [op, op'] [b, c] = false := by with_unfolding_all rfl) : PDT X M (.Compare a [op, op'] [b, c] pos) (ftB (fChain g g' fa fb fc)) := by
  refine ⟨PT.wk (pt_chain ho ho' ha.pe hb.pe hc.pe hm) fun σ H Q h => ?_, ftB_mono (fChain_mono ha.mono hb.mono hc.mono)⟩
  obtain ⟨P, F, L, ρ, r0, k⟩ := h
  refine dChain (M := M) hg hg' ha.mono hb.mono hc.mono σ H _ ⟨P, F, L, ρ, r0, fChain_mono ha.mono hb.mono hc.mono _ _ _ (fun d ρ1 ⟨b, h1, h2⟩ v L1 H1 e1 r1 d1 => ?_) k⟩
  subst h1
  exact ⟨b, rp_bool d1, h2 L1 H1 e1 r1⟩
/-- truth of any value -/
def truD : D → Option Bool
  | .none => some false
  | .bool b => some b
  | .int i => some (i != 0)
  | .str x => if x.length ≤ sizeLine then some ((x.length : Int) != 0) else none
  | .list xs => some (!xs.isEmpty)
  | .tuple xs => some (!xs.isEmpty)
  | .dict ps => none
def ftT (fa : FE) : FT := fun ρ k => fa ρ fun d ρ1 => ∃ b, truD d = some b ∧ k b ρ1
theorem pdt_truth (ha : PD X M e fa) (he : ∀ whole, isTrue e X.env whole = (do let v ← whole; standAt e.pos; holding [v] (truthy v)) := by intro _; rfl) : PDT X M e (ftT fa) := by
  refine ⟨PT.wk (pt_truth ha.pe he) fun σ H Q ⟨P, F, L, ρ, r, k⟩ => ?_, fun ρ k k' h q => ha.mono _ _ _ (fun d ρ1 ⟨b, h1, h2⟩ => ⟨b, h1, h _ _ h2⟩) q⟩
  refine ⟨P, F, L, ρ, r, ha.mono _ _ _ (fun d ρ1 ⟨b, h1, h2⟩ v L1 H1 e1 r1 d1 => ⟨b, ?_, h2 L1 H1 e1 r1⟩) k⟩
  cases d with
  | none => cases h1; rw [rp_none d1]; rfl
  | bool x => cases h1; rw [rp_bool d1]; rfl
  | int x => cases h1; rw [rp_int d1]; rfl
  | str x =>
    have h1' : (if x.length ≤ sizeLine then some ((x.length : Int) != 0) else none) = some b := h1
    by_cases hz : x.length ≤ sizeLine
    · rw [if_pos hz] at h1'
      cases h1'
      rw [rp_str d1]
      exact ⟨hz, rfl⟩
    · rw [if_neg hz] at h1'
      cases h1'
  | list xs =>
    cases h1
    obtain ⟨a, vs, rfl, g1, g2⟩ := rp_list d1
    refine .inl ⟨vs, g1, ?_⟩
    cases g2 <;> rfl
  | tuple xs =>
    cases h1
    obtain ⟨a, vs, rfl, g1, g2⟩ := rp_tuple d1
    refine .inr (.inl ⟨vs, g1, ?_⟩)
    cases g2 <;> rfl
  | dict ps => cases h1
def ftAnd (ft fu : FT) : FT := fun ρ k => ft ρ fun c ρ1 => if c = true then fu ρ1 k else k false ρ1
def ftOr (ft fu : FT) : FT := fun ρ k => ft ρ fun c ρ1 => if c = true then k true ρ1 else fu ρ1 k
def ftNot (ft : FT) : FT := fun ρ k => ft ρ fun c ρ1 => k (!c) ρ1
theorem pdw_or1 (h : PDT X M a ft) : PDW X M (.BoolOp .Or [a] pos) ft := ⟨pw_or1 h.pt, h.mono⟩
theorem ftOr_mono (ma : ∀ ρ k k', (∀ d ρ', k d ρ' → k' d ρ') → ft ρ k → ft ρ k') (mb : ∀ ρ k k', (∀ d ρ', k d ρ' → k' d ρ') → fu ρ k → fu ρ k') (ρ : Rho) (k k' : Bool → Rho → Prop) (h : ∀ d ρ', k d ρ' → k' d ρ') (q : ftOr ft fu ρ k) : ftOr ft fu ρ k' :=
  ma _ _ _ (fun c ρ1 q => by
    cases c with
    | true => exact h _ _ q
    | false => exact mb _ _ _ h q) q
theorem pdw_or (ha : PDT X M a ft) (hb : PDW X M (.BoolOp .Or (b :: rest) pos) fu) : PDW X M (.BoolOp .Or (a :: b :: rest) pos) (ftOr ft fu) := by
  refine ⟨PW.wk (pw_or ha.pt hb.pw) fun σ H Q ⟨P, F, L, ρ, r, k⟩ => ?_, ftOr_mono ha.mono hb.mono⟩
  refine ⟨P, F, L, ρ, r, ha.mono _ _ _ (fun c ρ1 q L1 H1 e1 r1 => ?_) k⟩
  cases c with
  | true => exact q L1 H1 e1 r1
  | false => exact ⟨P, F, L1, ρ1, r1, hb.mono _ _ _ (fun d ρ2 q L2 H2 e2 r2 => q L2 H2 (e1.trans e2) r2) q⟩
theorem PDW.pt (h : PDW X M e ft) : PDT X M e ft := ⟨PW.pt h.pw, h.mono⟩
theorem pdt_not (ha : PDT X M a ft) : PDT X M (.UnaryOp .Not a pos) (ftNot ft) := by
  refine ⟨PT.wk (pt_not ha.pt) fun σ H Q ⟨P, F, L, ρ, r, k⟩ => ?_, fun ρ k k' h q => ha.mono _ _ _ (fun c ρ1 q => h _ _ q) q⟩
  exact ⟨P, F, L, ρ, r, ha.mono _ _ _ (fun c ρ1 q L1 H1 e1 r1 => q L1 H1 e1 r1) k⟩
def fAnd (fa fb : FE) : FE := fun ρ k => fa ρ fun d ρ1 => ∃ b, d = .bool b ∧ if b = true then fb ρ1 k else k (.bool false) ρ1
def fOr (fa fb : FE) : FE := fun ρ k => fa ρ fun d ρ1 => ∃ b, d = .bool b ∧ if b = true then k (.bool true) ρ1 else fb ρ1 k
def fNot (fa : FE) : FE := fun ρ k => fa ρ fun d ρ1 => ∃ b, d = .bool b ∧ k (.bool (!b)) ρ1
def fIf (ft : FT) (fa fb : FE) : FE := fun ρ k => ft ρ fun c ρ1 => if c = true then fa ρ1 k else fb ρ1 k
theorem pd_one {op} (h : PD X M a fa) : PD X M (.BoolOp op [a] pos) fa := ⟨pe_one h.pe, h.mono⟩
theorem pd_and (ha : PD X M a fa) (hb : PD X M (.BoolOp .And (b :: rest) pos) fb) : PD X M (.BoolOp .And (a :: b :: rest) pos) (fAnd fa fb) := by
  refine ⟨PE.wk (pe_and ha.pe hb.pe) fun σ H Q ⟨P, F, L, ρ, r, k⟩ => ?_, fun ρ k k' h q => ha.mono _ _ _ (fun d ρ1 ⟨t, h1, h2⟩ => ⟨t, h1, by
    cases t with
    | true => exact hb.mono _ _ _ h h2
    | false => exact h _ _ h2⟩) q⟩
  refine ⟨P, F, L, ρ, r, ha.mono _ _ _ (fun d ρ1 ⟨t, h1, h2⟩ v L1 H1 e1 r1 d1 => ?_) k⟩
  subst h1
  refine ⟨t, rp_bool d1, ?_⟩
  cases t with
  | true => exact ⟨P, F, L1, ρ1, r1, hb.mono _ _ _ (fun d ρ2 q w L2 H2 e2 r2 d2 => q w L2 H2 (e1.trans e2) r2 d2) h2⟩
  | false => exact h2 _ L1 H1 e1 r1 (.bl false)
def fSl (g : D → Option Int → Option Int → Option D) (fa : FE) (fl fh : Rho → (Option Int → Rho → Prop) → Prop) : FE := fun ρ k => fa ρ fun x ρ1 => fl ρ1 fun l ρ2 => fh ρ2 fun h ρ3 => ∃ d, g x l h = some d ∧ k d ρ3
abbrev FO := Rho → (Option Int → Rho → Prop) → Prop
def DO (K : Fr0) (M : Mk0) (f : FO) : TO := fun σ H Q => ∃ P F L ρ, R K M P F L ρ σ H ∧ f ρ fun b ρ' => ∀ L' H', Ex (hide L H) (hide L' H') → R K M P F L' ρ' σ H' → Q b H'
structure PDO (X : Cx) (M : Mk0) (e : Option Expr) (f : FO) : Prop where
  po : PO X e (DO X.k0 M f)
  mono : ∀ ρ k k', (∀ d ρ', k d ρ' → k' d ρ') → f ρ k → f ρ k'
def foNone : FO := fun ρ k => k none ρ
def foSome (fa : FE) : FO := fun ρ k => fa ρ fun d ρ1 => ∃ i, d = .int i ∧ k (some i) ρ1
theorem PO.wk {e : Option Expr} {t t' : TO} (h : PO X e t) (w : ∀ σ H Q, t' σ H Q → t σ H Q) : PO X e t' := ⟨fun pins s σ H Q I q => h.run pins s σ H Q I (w σ H Q q)⟩
theorem pdo_none : PDO X M none foNone := ⟨PO.wk po_none fun σ H Q ⟨P, F, L, ρ, r, k⟩ => k L H (Ex.refl _) r, fun ρ k k' h q => h _ _ q⟩
theorem pdo_some (ha : PD X M a fa) : PDO X M (some a) (foSome fa) := by
  refine ⟨PO.wk (po_some ha.pe) fun σ H Q ⟨P, F, L, ρ, r, k⟩ => ?_, fun ρ k k' h q => ha.mono _ _ _ (fun d ρ1 ⟨i, h1, h2⟩ => ⟨i, h1, h _ _ h2⟩) q⟩
  refine ⟨P, F, L, ρ, r, ha.mono _ _ _ (fun d ρ1 ⟨i, h1, h2⟩ v L1 H1 e1 r1 d1 => ?_) k⟩
  subst h1
  exact ⟨i, rp_int d1, h2 L1 H1 e1 r1⟩
def cutD (xs : List D) (lo hi : Option Int) : List D := (xs.drop (HT.sIx xs.length 0 lo)).take (HT.sIx xs.length xs.length hi - HT.sIx xs.length 0 lo)
def gSl : D → Option Int → Option Int → Option D
  | .list xs, lo, hi => some (.list (cutD xs lo hi))
  | .tuple xs, lo, hi => some (.tuple (cutD xs lo hi))
  | _, _, _ => none
def rSlAny (K : PySem.W.Frag) : V → Option Int → Option Int → Hp → VK → Prop := fun x lo hi H Q => rSlL K x lo hi H Q ∨ rSlA K x lo hi H Q
theorem sl_any : SlR X (rSlAny X.K) := SlR.or sl_list sl_tupA
theorem dpa_cut {K : Fr0} {H : Hp} {vs : List V} {ds : List D} (h : RpAll K H vs ds) (lo hi : Option Int) : RpAll K H (cutV vs lo hi) (cutD ds lo hi) := by
  unfold cutV cutD
  rw [dpa_len h]
  exact dpa_take _ (dpa_drop _ h)
theorem pd_slice {p2 : Pos} {lo hi : Option Expr} {fl fh : FO} (ha : PD X M a fa) (hl : PDO X M lo fl) (hh : PDO X M hi fh) : PD X M (.Subscript a (.Slice lo hi none p2) pos) (fSl gSl fa fl fh) := by
  refine ⟨PE.wk (pe_slice sl_any ha.pe hl.po hh.po) fun σ H Q ⟨P, F, L, ρ, r, k⟩ => ?_, fun ρ k k' h q => ha.mono _ _ _ (fun d ρ1 q => hl.mono _ _ _ (fun l ρ2 q => hh.mono _ _ _ (fun u ρ3 ⟨d, h1, h2⟩ => ⟨d, h1, h _ _ h2⟩) q) q) q⟩
  refine ⟨P, F, L, ρ, r, ha.mono _ _ _ (fun x ρ1 q v L1 H1 e1 r1 d1 => ?_) k⟩
  refine ⟨P, F, L1, ρ1, r1, hl.mono _ _ _ (fun l ρ2 q L2 H2 e2 r2 => ?_) q⟩
  refine ⟨P, F, L2, ρ2, r2, hh.mono _ _ _ (fun u ρ3 ⟨d, hd, q⟩ L3 H3 e3 r3 => ?_) q⟩
  have d3 := dp_ex e3 _ _ (dp_ex e2 _ _ d1)
  have ex := (e1.trans e2).trans e3
  cases x with
  | list xs =>
    cases hd
    obtain ⟨a, vs, rfl, g1, g2⟩ := rp_list d3
    exact .inl ⟨a, vs, rfl, g1, fun p hp => q (.ref p) L3 _ (ex.trans (hide_ex (Ex.new hp))) (r3.laid hp) (new_lst r3.tr hp (dpa_cut g2 _ _))⟩
  | tuple xs =>
    cases hd
    obtain ⟨a, vs, rfl, g1, g2⟩ := rp_tuple d3
    refine .inr ⟨a, vs, rfl, g1, fun z => ?_, fun _ p hp => q (.ref p) L3 _ (ex.trans (hide_ex (Ex.new hp))) (r3.laid hp) (new_tup r3.tr hp (dpa_cut g2 _ _))⟩
    refine q (.ref a) L3 H3 ex r3 ?_
    have hc : cutD xs l u = xs := by
      unfold cutD
      rw [← dpa_len g2, z.1, z.2, dpa_len g2, List.drop_zero, Nat.sub_zero, List.take_length]
    rw [hc]
    exact d3
  | none => cases hd
  | bool _ => cases hd
  | int _ => cases hd
  | str _ => cases hd
  | dict _ => cases hd
end
end PD
namespace PD
open PySem L2
open Evl (Ex)
section
variable {K : Fr0} {M : Mk0} {P : Option Addr} {F : Hp} {L L' : List Addr} {ρ : Rho} {σ : L2.St} {H H' : Hp} {p : Addr} {o : HO}
theorem ex_pin (hp : H p = none) : Ex (hide L H) (hide (p :: L) (upd H p o)) := fun a b hb => by
  obtain ⟨h3, h4⟩ := hide_some.mp hb
  have n : a ≠ p := ne_of_none h4 hp
  exact hide_some.mpr ⟨fun z => (List.mem_cons.mp z).elim n h3, by rw [upd_ne n]; exact h4⟩
theorem R.pinNew (r : R K M P F L ρ σ H) (hp : H p = none) : R K M P (upd F p o) (p :: L) ρ σ (upd H p o) := by
  have r1 := r.hideMore (o := o) hp
  have pL : p ∉ L := r.notL hp
  refine ⟨r1.len, r1.sl, fun a u h => ?_, r1.tr, r1.apart, fun i xs l h1 h2 => ?_, fun q hq => ?_, r.tb.move (ex_pin hp) fun P' ps h1 h2 h3 => ⟨by rw [upd_ne (ne_of_none h3 hp)]; exact h1, List.mem_cons_of_mem _ h2, by rw [upd_ne (ne_of_none h3 hp)]; exact h3⟩⟩
  · by_cases e : a = p
    · subst e
      rw [upd_same] at h
      cases h
      exact ⟨upd_same, List.mem_cons_self⟩
    · rw [upd_ne e] at h
      exact r1.fr a u h
  · obtain ⟨l', vs, h3, h4, _⟩ := r.getOwn h1
    rw [h2] at h3
    cases h3
    rw [upd_ne (show l ≠ p from fun e => pL (by rw [← e]; exact h4))]
    exact r.ownF i xs l h1 h2
  · obtain ⟨A, a1, a2, a3⟩ := r.m q hq
    refine ⟨A, M.loc (fun a ha b hb => by rw [upd_ne (ne_of_none hb hp)]; exact hb) a1, fun a ha => ⟨List.mem_cons_of_mem _ (a2 a ha).1, ?_⟩, a3⟩
    rw [upd_ne (show a ≠ p from fun e => pL (by rw [← e]; exact (a2 a ha).1))]
    exact (a2 a ha).2
theorem R.pinned (r : R K M P (upd F p o) L ρ σ H) : H p = some o ∧ p ∈ L := r.fr p o upd_same
theorem R.pinOwn (r : R K M P (upd F p o) L ρ σ H) : ¬ Own ρ σ p := fun ⟨i, xs, h1, h2⟩ => by
  have := r.ownF i xs p h1 h2
  rw [upd_same] at this
  cases this
theorem R.unpin (r : R K M P (upd F p o) L ρ σ H) (hF : F p = none) : R K M P F L ρ σ H := by
  have up : ∀ {a}, upd F p o a = none → F a = none := fun {a} h => by
    by_cases e : a = p
    · rw [e]; exact hF
    · rw [upd_ne e] at h; exact h
  refine ⟨r.len, r.sl, fun a u h => ?_, r.tr, r.apart, fun i xs l h1 h2 => up (r.ownF i xs l h1 h2), fun q hq => ?_, r.tb.move (Ex.refl _) fun P' ps h1 h2 h3 => ⟨up h1, h2, h3⟩⟩
  · refine r.fr a u ?_
    rw [upd_ne (fun e => by rw [e, hF] at h; cases h)]
    exact h
  · obtain ⟨A, a1, a2, a3⟩ := r.m q hq
    exact ⟨A, a1, fun a ha => ⟨(a2 a ha).1, up (a2 a ha).2⟩, a3⟩
/-- the held list becomes data -/
theorem R.reveal (r : R K M P (upd F p o) L ρ σ H) (hF : F p = none) : R K M P F (L.filter fun a => decide (a ≠ p)) ρ σ H := by
  have sub : ∀ a ∈ (L.filter fun a => decide (a ≠ p)), a ∈ L := fun a ha => (List.mem_filter.mp ha).1
  have inn : ∀ a ∈ L, a ≠ p → a ∈ (L.filter fun a => decide (a ≠ p)) := fun a ha n => List.mem_filter.mpr ⟨ha, decide_eq_true n⟩
  have ex : Ex (hide L H) (hide (L.filter fun a => decide (a ≠ p)) H) := hide_sub sub
  have up : ∀ {a}, upd F p o a = none → F a = none ∧ a ≠ p := fun {a} h => by
    have e : a ≠ p := fun e => by rw [e, upd_same] at h; cases h
    rw [upd_ne e] at h
    exact ⟨h, e⟩
  refine ⟨r.len, fun i s u e1 e2 => ?_, fun a u h => ?_, fun a h => r.tr a (sub a h), r.apart, fun i xs l h1 h2 => (up (r.ownF i xs l h1 h2)).1, fun q hq => ?_, r.tb.move ex fun P' ps h1 h2 h3 => ⟨(up h1).1, inn _ h2 (up h1).2, h3⟩⟩
  · have q := r.sl i s u e1 e2
    cases s with
    | no => trivial
    | d x =>
      obtain ⟨v, g3, g4⟩ := q
      exact ⟨v, g3, dp_ex ex _ _ g4⟩
    | own xs =>
      obtain ⟨l, vs, g3, g4, g5, g6⟩ := q
      exact ⟨l, vs, g3, inn l g4 (up (r.ownF i xs l e1 (by rw [e2, g3]))).2, g5, g6.up ex⟩
    | st => exact q
    | raw v => exact q
    | exc a d fl => exact ⟨q.1, q.2.up ex⟩
  · have e : a ≠ p := fun e => by rw [e, hF] at h; cases h
    have q := r.fr a u (by rw [upd_ne e]; exact h)
    exact ⟨q.1, inn a q.2 e⟩
  · obtain ⟨A, a1, a2, a3⟩ := r.m q hq
    exact ⟨A, a1, fun a ha => ⟨inn a (a2 a ha).1 (up (a2 a ha).2).2, (up (a2 a ha).2).1⟩, a3⟩
/-- what is held changes -/
theorem R.repin {o' : HO} (r : R K M P (upd F p o) L ρ σ H) : R K M P (upd F p o') L ρ σ (upd H p o') := by
  have hL := r.pinned.2
  have hh : hide L (upd H p o') = hide L H := by
    funext a
    unfold hide
    by_cases ha : a ∈ L
    · rw [if_pos ha, if_pos ha]
    · rw [if_neg ha, if_neg ha, upd_ne (show a ≠ p from fun e => ha (by rw [e]; exact hL))]
  have up : ∀ {a}, upd F p o a = none → upd F p o' a = none ∧ a ≠ p := fun {a} h => by
    have e : a ≠ p := fun e => by rw [e, upd_same] at h; cases h
    rw [upd_ne e] at h
    rw [upd_ne e]
    exact ⟨h, e⟩
  refine ⟨r.len, fun i s u e1 e2 => ?_, fun a u h => ?_, fun a h => ?_, r.apart, fun i xs l h1 h2 => (up (r.ownF i xs l h1 h2)).1, fun q hq => ?_, r.tb.move (by rw [hh]; exact Ex.refl _) fun P' ps h1 h2 h3 => ⟨(up h1).1, h2, by rw [upd_ne (up h1).2]; exact h3⟩⟩
  · have q := r.sl i s u e1 e2
    cases s with
    | no => trivial
    | d x =>
      obtain ⟨v, g3, g4⟩ := q
      exact ⟨v, g3, by rw [hh]; exact g4⟩
    | own xs =>
      obtain ⟨l, vs, g3, g4, g5, g6⟩ := q
      exact ⟨l, vs, g3, g4, by rw [upd_ne (up (r.ownF i xs l e1 (by rw [e2, g3]))).2]; exact g5, by rw [hh]; exact g6⟩
    | st => exact q
    | raw v => exact q
    | exc a d fl => exact ⟨q.1, by rw [hh]; exact q.2⟩
  · by_cases e : a = p
    · subst e
      rw [upd_same] at h
      cases h
      exact ⟨upd_same, hL⟩
    · rw [upd_ne e] at h
      have q := r.fr a u (by rw [upd_ne e]; exact h)
      exact ⟨by rw [upd_ne e]; exact q.1, q.2⟩
  · by_cases e : a = p
    · subst e
      exact ⟨o', upd_same⟩
    · obtain ⟨u, q⟩ := r.tr a h
      exact ⟨u, by rw [upd_ne e]; exact q⟩
  · obtain ⟨A, a1, a2, a3⟩ := r.m q hq
    exact ⟨A, M.loc (fun a ha b hb => by rw [upd_ne (up (a2 a ha).2).2]; exact hb) a1, fun a ha => ⟨(a2 a ha).1, (up (a2 a ha).2).1⟩, a3⟩
theorem hide_repin {o' : HO} (hL : p ∈ L) : hide L (upd H p o') = hide L H := by
  funext a
  unfold hide
  by_cases ha : a ∈ L
  · rw [if_pos ha, if_pos ha]
  · rw [if_neg ha, if_neg ha, upd_ne (show a ≠ p from fun e => ha (by rw [e]; exact hL))]
/-- the held list goes to a slot, as its own -/
theorem R.toOwnC {o : HO} {ds : Ow} (r : R K M P (upd F p o) L ρ σ H) (hF : F p = none) (hd : OwAt K (hide L H) p o ds) (i : Nat) : R K M P F L (ρ.set i (.own ds)) (σ.set i (some (.ref p))) H := by
  have hno := r.pinOwn
  have r0 := r.unpin hF
  have pin := r.pinned
  refine ⟨by simp [r0.len], fun j t u h1 h2 => ?_, r0.fr, r0.tr, fun a b xs ys l hab h1 h2 h3 h4 => ?_, fun c zs l h h3 => ?_, fun q hq => ?_, r0.tb⟩
  · by_cases e : j = i
    · subst e
      have hj : j < ρ.sl.length := by simpa using (List.getElem?_eq_some_iff.mp h1).1
      rw [show (ρ.set j (.own ds)).sl = ρ.sl.set j (.own ds) from rfl, List.getElem?_set_self hj] at h1
      rw [List.getElem?_set_self (by rw [r0.len]; exact hj)] at h2
      cases h1
      cases h2
      exact ⟨p, o, rfl, pin.2, pin.1, hd⟩
    · rw [show (ρ.set i (.own ds)).sl = ρ.sl.set i (.own ds) from rfl, List.getElem?_set_ne (fun q => e q.symm)] at h1
      rw [List.getElem?_set_ne (fun q => e q.symm)] at h2
      exact r0.sl j t u h1 h2
  · -- apart
    have look : ∀ {c : Nat} {zs : Ow}, c ≠ i → (ρ.set i (.own ds)).sl[c]? = some (.own zs) → (σ.set i (some (.ref p)))[c]? = some (some (.ref l)) → ρ.sl[c]? = some (.own zs) ∧ σ[c]? = some (some (.ref l)) := fun {c zs} hc g1 g2 => by
      rw [show (ρ.set i (.own ds)).sl = ρ.sl.set i (.own ds) from rfl, List.getElem?_set_ne (fun q => hc q.symm)] at g1
      rw [List.getElem?_set_ne (fun q => hc q.symm)] at g2
      exact ⟨g1, g2⟩
    have atp : ∀ {c : Nat}, c = i → (σ.set i (some (.ref p)))[c]? = some (some (V.ref l)) → l = p := fun {c} hc g => by
      subst hc
      have hlt : c < σ.length := by simpa using (List.getElem?_eq_some_iff.mp g).1
      rw [List.getElem?_set_self hlt] at g
      cases g
      rfl
    by_cases ha : a = i
    · have e := atp ha h3
      subst e
      have hb : b ≠ i := fun z => hab (ha.trans z.symm)
      obtain ⟨g1, g2⟩ := look hb h2 h4
      exact hno ⟨b, ys, g1, g2⟩
    · obtain ⟨g1, g2⟩ := look ha h1 h3
      by_cases hb : b = i
      · have e := atp hb h4
        subst e
        exact hno ⟨a, xs, g1, g2⟩
      · obtain ⟨g3, g4⟩ := look hb h2 h4
        exact r0.apart a b xs ys l hab g1 g3 g2 g4
  · by_cases hc : c = i
    · subst hc
      have hlt : c < σ.length := by simpa using (List.getElem?_eq_some_iff.mp h3).1
      rw [List.getElem?_set_self hlt] at h3
      cases h3
      exact hF
    · rw [show (ρ.set i (.own ds)).sl = ρ.sl.set i (.own ds) from rfl, List.getElem?_set_ne (fun q => hc q.symm)] at h
      rw [List.getElem?_set_ne (fun q => hc q.symm)] at h3
      exact r0.ownF c zs l h h3
  · obtain ⟨A, a1, a2, a3⟩ := r.m q hq
    refine ⟨A, a1, fun a ha => ⟨(a2 a ha).1, ?_⟩, fun c zs l h h3 hl => ?_⟩
    · have q := (a2 a ha).2
      rw [upd_ne (fun e => by rw [e, upd_same] at q; cases q)] at q
      exact q
    · by_cases hc : c = i
      · subst hc
        have hlt : c < σ.length := by simpa using (List.getElem?_eq_some_iff.mp h3).1
        rw [List.getElem?_set_self hlt] at h3
        cases h3
        have q := (a2 p hl).2
        rw [upd_same] at q
        cases q
      · rw [show (ρ.set i (.own ds)).sl = ρ.sl.set i (.own ds) from rfl, List.getElem?_set_ne (fun q => hc q.symm)] at h
        rw [List.getElem?_set_ne (fun q => hc q.symm)] at h3
        exact a3 c zs l h h3 hl
theorem R.toOwn {vs : List V} {ds : List D} (r : R K M P (upd F p (.lst vs)) L ρ σ H) (hF : F p = none) (hd : RpAll K (hide L H) vs ds) (i : Nat) : R K M P F L (ρ.set i (.own ds)) (σ.set i (some (.ref p))) H :=
  r.toOwnC (ds := .l ds) hF ⟨vs, rfl, hd⟩ i
/-- what is a slot's own is taken into the hand -/
theorem R.ofOwnC {ds : Ow} {i : Nat} (r : R K M P F L ρ σ H) (h : ρ.sl[i]? = some (.own ds)) : ∃ p u, σ[i]? = some (some (.ref p)) ∧ H p = some u ∧ F p = none ∧ p ∈ L ∧ OwAt K (hide L H) p u ds ∧ R K M P (upd F p u) L (ρ.set i .no) σ H := by
  obtain ⟨p, vs, h1, h2, h3, h4⟩ := r.getOwn h
  have hF := r.ownF i ds p h h1
  have look : ∀ {c : Nat} {zs : Ow}, (ρ.set i .no).sl[c]? = some (.own zs) → c ≠ i ∧ ρ.sl[c]? = some (.own zs) := fun {c zs} g => by
    by_cases hc : c = i
    · subst hc
      have hj : c < ρ.sl.length := by simpa using (List.getElem?_eq_some_iff.mp g).1
      rw [show (ρ.set c .no).sl = ρ.sl.set c .no from rfl, List.getElem?_set_self hj] at g
      cases g
    · rw [show (ρ.set i .no).sl = ρ.sl.set i .no from rfl, List.getElem?_set_ne (fun q => hc q.symm)] at g
      exact ⟨hc, g⟩
  refine ⟨p, vs, h1, h3, hF, h2, h4, by simp [r.len], fun j t u e1 e2 => ?_, fun a u e => ?_, r.tr, fun a b xs ys l hab e1 e2 e3 e4 => r.apart a b xs ys l hab (look e1).2 (look e2).2 e3 e4, fun c zs l e1 e2 => ?_, fun q hq => ?_, r.tb.move (Ex.refl _) fun P' ps k1 k2 k3 => ⟨by rw [upd_ne (fun z => r.notOwnT k3 ⟨i, ds, h, by rw [h1, z]⟩)]; exact k1, k2, k3⟩⟩
  · by_cases e : j = i
    · subst e
      have hj : j < ρ.sl.length := by simpa using (List.getElem?_eq_some_iff.mp e1).1
      rw [show (ρ.set j .no).sl = ρ.sl.set j .no from rfl, List.getElem?_set_self hj] at e1
      cases e1
      trivial
    · rw [show (ρ.set i .no).sl = ρ.sl.set i .no from rfl, List.getElem?_set_ne (fun q => e q.symm)] at e1
      exact r.sl j t u e1 e2
  · by_cases e3 : a = p
    · subst e3
      rw [upd_same] at e
      cases e
      exact ⟨h3, h2⟩
    · rw [upd_ne e3] at e
      exact r.fr a u e
  · obtain ⟨g1, g2⟩ := look e1
    have : l ≠ p := fun z => r.apart c i zs ds p g1 g2 h (by rw [← z]; exact e2) h1
    rw [upd_ne this]
    exact r.ownF c zs l g2 e2
  · obtain ⟨A, a1, a2, a3⟩ := r.m q hq
    refine ⟨A, a1, fun a ha => ⟨(a2 a ha).1, ?_⟩, fun c zs l e1 e2 => a3 c zs l (look e1).2 e2⟩
    rw [upd_ne (fun z => a3 i ds p h h1 (by rw [← z]; exact ha))]
    exact (a2 a ha).2
theorem R.ofOwn {ds : List D} {i : Nat} (r : R K M P F L ρ σ H) (h : ρ.sl[i]? = some (.own ds)) : ∃ p vs, σ[i]? = some (some (.ref p)) ∧ H p = some (.lst vs) ∧ F p = none ∧ p ∈ L ∧ RpAll K (hide L H) vs ds ∧ R K M P (upd F p (.lst vs)) L (ρ.set i .no) σ H := by
  obtain ⟨p, u, h1, h2, h3, h4, ⟨vs, h5, h6⟩, h7⟩ := r.ofOwnC h
  subst h5
  exact ⟨p, vs, h1, h2, h3, h4, h6, h7⟩
end
end PD
namespace PD
open PySem L2
open Evl (Ex)
/-- a new list, held by hand -/
def DNw (K : Fr0) (M : Mk0) (f : FN) : TE := fun σ H Q => ∃ P F L ρ, R K M P F L ρ σ H ∧ f ρ fun ds ρ' => ∀ p vs L' H', Ex (hide L H) (hide L' H') → F p = none → R K M P (upd F p (.lst vs)) L' ρ' σ H' → RpAll K (hide L' H') vs ds → Q (.ref p) H'
structure PN (X : Cx) (M : Mk0) (e : Expr) (f : FN) : Prop where
  pe : PE X e (DNw X.k0 M f)
  mono : ∀ ρ k k', (∀ d ρ', k d ρ' → k' d ρ') → f ρ k → f ρ k'
theorem filter_ne {L : List Addr} {p : Addr} : p ∉ (L.filter fun a => decide (a ≠ p)) := fun h => of_decide_eq_true (List.mem_filter.mp h).2 rfl
/-- what was the def's own, as data -/
def ow : Ow → D
  | .l xs => .list xs
  | .d _ ps => .dict ps
  | .o _ C ps => .dict ((.list [], .int (C : Nat)) :: ps)
theorem OwAt.rp {K : Fr0} {H : Hp} {p : Addr} {u : HO} (hp : H p = some u) : ∀ {c : Ow}, OwAt K H p u c → Rp K H (.ref p) (ow c)
  | .l _, ⟨vs, h1, h2⟩ => .lst (.inl (.inl (by rw [hp, h1]))) h2
  | .d true _, ⟨o, xs, h1, h2⟩ => .dctN (by rw [hp, h1]) h2
  | .d false _, ⟨o, xs, h1, h2⟩ => .dct (by rw [hp, h1]) h2
  | .o _ _ _, ⟨_, dx, fs, h1, h2⟩ => .obj (by rw [hp, h1]) h2
theorem reveal_own {K : Fr0} {M : Mk0} {P : Option Addr} {F : Hp} {L L' : List Addr} {ρ : Rho} {σ : L2.St} {H H' : Hp} {p : Addr} {u : HO} {c : Ow} (e : Ex (hide L H) (hide L' H')) (hF : F p = none)
    (r : R K M P (upd F p u) L' ρ σ H') (hd : OwAt K (hide L' H') p u c) :
    ∃ L2, Ex (hide L H) (hide L2 H') ∧ R K M P F L2 ρ σ H' ∧ Rp K (hide L2 H') (.ref p) (ow c) ∧ hide L2 H' p = some u := by
  have ex : Ex (hide L' H') (hide (L'.filter fun a => decide (a ≠ p)) H') := hide_sub fun a ha => (List.mem_filter.mp ha).1
  have see : hide (L'.filter fun a => decide (a ≠ p)) H' p = some u := hide_some.mpr ⟨filter_ne, r.pinned.1⟩
  exact ⟨_, e.trans ex, r.reveal hF, (hd.up ex).rp see, see⟩
/-- a new list as data, still seen -/
theorem reveal_at {K : Fr0} {M : Mk0} {P : Option Addr} {F : Hp} {L L' : List Addr} {ρ : Rho} {σ : L2.St} {H H' : Hp} {p : Addr} {vs : List V} {ds : List D} (e : Ex (hide L H) (hide L' H')) (hF : F p = none)
    (r : R K M P (upd F p (.lst vs)) L' ρ σ H') (hd : RpAll K (hide L' H') vs ds) :
    ∃ L2, Ex (hide L H) (hide L2 H') ∧ R K M P F L2 ρ σ H' ∧ Rp K (hide L2 H') (.ref p) (.list ds) ∧ hide L2 H' p = some (.lst vs) := by
  have ex : Ex (hide L' H') (hide (L'.filter fun a => decide (a ≠ p)) H') := hide_sub fun a ha => (List.mem_filter.mp ha).1
  have see : hide (L'.filter fun a => decide (a ≠ p)) H' p = some (HO.lst vs) := hide_some.mpr ⟨filter_ne, r.pinned.1⟩
  exact ⟨_, e.trans ex, r.reveal hF, .lst (.inl (.inl see)) (dpa_ex ex _ _ hd), see⟩
/-- a new list as data -/
theorem reveal_rp {K : Fr0} {M : Mk0} {P : Option Addr} {F : Hp} {L L' : List Addr} {ρ : Rho} {σ : L2.St} {H H' : Hp} {p : Addr} {vs : List V} {ds : List D} (e : Ex (hide L H) (hide L' H')) (hF : F p = none)
    (r : R K M P (upd F p (.lst vs)) L' ρ σ H') (hd : RpAll K (hide L' H') vs ds) :
    ∃ L2, Ex (hide L H) (hide L2 H') ∧ R K M P F L2 ρ σ H' ∧ Rp K (hide L2 H') (.ref p) (.list ds) := by
  obtain ⟨L2, h1, h2, h3, _⟩ := reveal_at e hF r hd
  exact ⟨L2, h1, h2, h3⟩
def fOfN (f : FN) : FE := fun ρ k => f ρ fun ds ρ1 => k (.list ds) ρ1
section
variable {X : Cx} {M : Mk0} {a b c e o tg iter : Expr} {es rest : List Expr} {fa fb fc : FE} {fl : FL} {ft fu : FT} {fn : FN} {pos : Pos}
theorem dOfN (mf : ∀ ρ k k', (∀ d ρ', k d ρ' → k' d ρ') → fn ρ k → fn ρ k') (σ : L2.St) (H : Hp) (Q : VK) (h : DE X.k0 M (fOfN fn) σ H Q) : DNw X.k0 M fn σ H Q := by
  obtain ⟨P, F, L, ρ, r, k⟩ := h
  refine ⟨P, F, L, ρ, r, mf _ _ _ (fun ds ρ1 q p vs L1 H1 e1 hF r1 d1 => ?_) k⟩
  obtain ⟨L2, e2, r2, d2⟩ := reveal_rp e1 hF r1 d1
  exact q (.ref p) L2 H1 e2 r2 d2
theorem pd_ofN (h : PN X M e fn) : PD X M e (fOfN fn) := ⟨PE.wk h.pe (dOfN h.mono), fun ρ k k' g q => h.mono _ _ _ (fun ds ρ1 q => g _ _ q) q⟩
/-- what gives a new list at a free address -/
theorem new_pin {K : Fr0} {P : Option Addr} {F : Hp} {L : List Addr} {ρ : Rho} {σ : L2.St} {H : Hp} (r : R K M P F L ρ σ H) {vs : List V} {ds : List D} (d : RpAll K (hide L H) vs ds) {p : Addr} (hp : H p = none) :
    Ex (hide L H) (hide (p :: L) (upd H p (.lst vs))) ∧ F p = none ∧ R K M P (upd F p (.lst vs)) (p :: L) ρ σ (upd H p (.lst vs)) ∧ RpAll K (hide (p :: L) (upd H p (.lst vs))) vs ds := by
  have ex : Ex (hide L H) (hide (p :: L) (upd H p (.lst vs))) := fun a b hb => by
    obtain ⟨h3, h4⟩ := hide_some.mp hb
    have n : a ≠ p := ne_of_none h4 hp
    exact hide_some.mpr ⟨fun z => by
      rcases List.mem_cons.mp z with z | z
      · exact n z
      · exact h3 z, by rw [upd_ne n]; exact h4⟩
  refine ⟨ex, ?_, r.pinNew hp, dpa_ex ex _ _ d⟩
  cases q : F p with
  | none => rfl
  | some o =>
    have := (r.fr p o q).1
    rw [hp] at this
    cases this
def fnLst (fl : FL) : FN := fun ρ k => fl ρ fun ds ρ1 => ds.length ≤ 100000 ∧ k ds ρ1
theorem pn_lst (h : PDL X M es fl) : PN X M (.List es pos) (fnLst fl) := by
  refine ⟨PE.wk (pe_lst h.pa) fun σ H Q ⟨P, F, L, ρ, r, k⟩ => ?_, fun ρ k k' g q => h.mono _ _ _ (fun ds ρ1 q => ⟨q.1, g _ _ q.2⟩) q⟩
  refine ⟨P, F, L, ρ, r, h.mono _ _ _ (fun ds ρ1 q vs L1 H1 e1 r1 d1 => ⟨Evl.sz_of (by rw [dpa_len d1]; exact q.1), fun p hp => ?_⟩) k⟩
  obtain ⟨e2, hF, r2, d2⟩ := new_pin r1 d1 hp
  exact q.2 p vs _ _ (e1.trans e2) hF r2 d2
/-- a built-in type or function that makes a list of its argument -/
def RN1 (K : Fr0) (r : V → Hp → VK → Prop) (g : D → Option (List D)) : Prop := ∀ (L : List Addr) (H : Hp) (x : V) (dx : D) (ds : List D) (Q : VK), Rp K (hide L H) x dx → g dx = some ds →
  (∀ p vs, H p = none → RpAll K (hide L H) vs ds → Q (.ref p) (upd H p (.lst vs))) → r x H Q
def fn1 (g : D → Option (List D)) (fa : FE) : FN := fun ρ k => fa ρ fun d ρ1 => ∃ ds, g d = some ds ∧ k ds ρ1
theorem dn1 {r : V → Hp → VK → Prop} {g : D → Option (List D)} (hg : RN1 X.k0 r g) (ma : ∀ ρ k k', (∀ d ρ', k d ρ' → k' d ρ') → fa ρ k → fa ρ k') (σ : L2.St) (H : Hp) (Q : VK) (h : DNw X.k0 M (fn1 g fa) σ H Q) :
    DE X.k0 M fa σ H fun x H1 => r x H1 Q := by
  obtain ⟨P, F, L, ρ, r0, k⟩ := h
  refine ⟨P, F, L, ρ, r0, ma _ _ _ (fun d ρ1 ⟨ds, hd, q⟩ v L1 H1 e1 r1 d1 => ?_) k⟩
  refine hg L1 H1 v d ds Q d1 hd fun p vs hp hv => ?_
  obtain ⟨e2, hF, r2, d2⟩ := new_pin r1 hv hp
  exact q p vs _ _ (e1.trans e2) hF r2 d2
theorem pn_t1 {x : Str} {p : Pos} {id : String} {r : List V → Hp → VK → Prop} {g : D → Option (List D)} (hc : CallR X (.type id) r) (hg' : RN1 X.k0 (fun x => r [x]) g) (hg : Gl X x) (hm : X.mg x = none) (hv : bootBuiltins x = some (.type id)) (ha : PD X M a fa)
    (hn : x ≠ "__name__" := by decide) (hdb : (x == ("__debug__" : Str)) = false := by decide) (hs : starEach [a] X.env = (false, eval a X.env) :: starEach [] X.env := by rfl) :
    PN X M (.Call (.Name x p) [a] [] pos) (fn1 g fa) := by
  refine ⟨PE.wk (pe_callTy hc hg hm hv (pa_cons ha.pe pa_nil hs) hn hdb hs) fun σ H Q h => dn1 (r := fun x => r [x]) hg' ha.mono σ H Q h, fun ρ k k' g q => ha.mono _ _ _ (fun d ρ1 ⟨ds, h1, h2⟩ => ⟨ds, h1, g _ _ h2⟩) q⟩
def nList : D → Option (List D)
  | .list xs => some xs
  | .tuple xs => some xs
  | _ => none
theorem rn_list {K : Fr0} : RN1 K (fun x H Q => ∃ p ys, [x] = [V.ref p] ∧ (SqL K.f H p ys ∨ SqT K.f H p ys) ∧ ∀ l, H l = none → Q (.ref l) (upd H l (.lst ys))) nList := by
  intro L H x dx ds Q hx hg k
  cases dx with
  | list xs =>
    cases hg
    obtain ⟨a, vs, rfl, h1, h2⟩ := rp_list hx
    exact ⟨a, vs, rfl, .inl h1, fun l hl => k l vs hl h2⟩
  | tuple xs =>
    cases hg
    obtain ⟨a, vs, rfl, h1, h2⟩ := rp_tuple hx
    exact ⟨a, vs, rfl, .inr h1, fun l hl => k l vs hl h2⟩
  | none => cases hg
  | bool _ => cases hg
  | int _ => cases hg
  | str _ => cases hg
  | dict _ => cases hg
/-- only the slots of vs changed -/
def OnlyAt (vs : List Nat) (σ σ' : L2.St) : Prop := σ'.length = σ.length ∧ ∀ i, i ∉ vs → σ'[i]? = σ[i]?
theorem OnlyAt.refl {vs : List Nat} {σ : L2.St} : OnlyAt vs σ σ := ⟨rfl, fun _ _ => rfl⟩
theorem OnlyAt.trans {vs : List Nat} {σ σ1 σ2 : L2.St} (a : OnlyAt vs σ σ1) (b : OnlyAt vs σ1 σ2) : OnlyAt vs σ σ2 := ⟨b.1.trans a.1, fun i h => (b.2 i h).trans (a.2 i h)⟩
theorem OnlyAt.mono {vs ws : List Nat} {σ σ1 : L2.St} (a : OnlyAt vs σ σ1) (h : ∀ i ∈ vs, i ∈ ws) : OnlyAt ws σ σ1 := ⟨a.1, fun i g => a.2 i fun z => g (h i z)⟩
theorem wipe_get (σ : L2.St) : ∀ (vs : List Nat) (i : Nat), (wipe σ vs)[i]? = if i ∈ vs then (if i < σ.length then some none else none) else σ[i]?
  | [], i => by simp [wipe]
  | v :: vs, i => by
    unfold wipe
    by_cases e : v = i
    · subst e
      by_cases hl : v < σ.length
      · rw [List.getElem?_set_self (by rw [wipe_length]; exact hl), if_pos List.mem_cons_self, if_pos hl]
      · rw [if_pos List.mem_cons_self, if_neg hl]
        exact List.getElem?_eq_none (by simp [wipe_length]; omega)
    · rw [List.getElem?_set_ne e, wipe_get σ vs i]
      by_cases hm : i ∈ vs
      · rw [if_pos hm, if_pos (List.mem_cons_of_mem _ hm)]
      · rw [if_neg hm, if_neg]
        intro z
        rcases List.mem_cons.mp z with z | z
        · exact e z.symm
        · exact hm z
theorem wipe_only {vs : List Nat} {σ σ' : L2.St} (h : OnlyAt vs σ σ') : wipe σ' vs = wipe σ vs := by
  apply List.ext_getElem?
  intro i
  rw [wipe_get, wipe_get, h.1]
  by_cases hm : i ∈ vs
  · rw [if_pos hm, if_pos hm]
  · rw [if_neg hm, if_neg hm]
    exact h.2 i hm
theorem wipe_self (vs : List Nat) (σ : L2.St) : OnlyAt vs σ (wipe σ vs) := ⟨wipe_length σ vs, fun i h => by rw [wipe_get, if_neg h]⟩
def DGt (K : Fr0) (M : Mk0) (vs : List Nat) (f : FG) : TG := fun v σ H Q => ∃ P F L ρ d, R K M P F L ρ σ H ∧ Rp K (hide L H) v d ∧ f d ρ fun ρ' => ∀ σ' L' H', Ex (hide L H) (hide L' H') → R K M P F L' ρ' σ' H' → OnlyAt vs σ σ' → Q σ' H'
abbrev FGs := List D → Rho → (Rho → Prop) → Prop
def DGts (K : Fr0) (M : Mk0) (vs : List Nat) (f : FGs) : TGs := fun us σ H Q => ∃ P F L ρ ds, R K M P F L ρ σ H ∧ RpAll K (hide L H) us ds ∧ f ds ρ fun ρ' => ∀ σ' L' H', Ex (hide L H) (hide L' H') → R K M P F L' ρ' σ' H' → OnlyAt vs σ σ' → Q σ' H'
structure PG1 (X : Cx) (M : Mk0) (tg : Expr) (vs : List Nat) (f : FG) : Prop where
  pg : PG X tg (DGt X.k0 M vs f)
  mono : ∀ d ρ k k', (∀ ρ', k ρ' → k' ρ') → f d ρ k → f d ρ k'
structure PGn (X : Cx) (M : Mk0) (ts : List Expr) (n : Nat) (vs : List Nat) (f : FGs) : Prop where
  pg : PGs X ts (DGts X.k0 M vs f)
  mono : ∀ d ρ k k', (∀ ρ', k ρ' → k' ρ') → f d ρ k → f d ρ k'
theorem PGs.wk {ts : List Expr} {t t' : TGs} (h : PGs X ts t) (w : ∀ v σ H Q, t' v σ H Q → t v σ H Q) : PGs X ts t' := ⟨fun pins s σ H v u Q I r q => h.run pins s σ H v u Q I r (w v σ H Q q)⟩
def fgN (i : Nat) : FG := fun d ρ k => k (ρ.set i (.d d))
theorem pg1_name {i : Nat} {x : Str} (h : PG X (.Name x pos) (gName i)) : PG1 X M (.Name x pos) [i] (fgN i) := by
  refine ⟨PG.wk h fun v σ H Q ⟨P, F, L, ρ, d, r, hd, k⟩ => ?_, fun d ρ k k' g q => g _ q⟩
  refine k (σ.set i (some v)) L H (Ex.refl _) (r.setD i (.d d) (some v) ⟨v, rfl, hd⟩ fun xs z => nomatch z) ⟨by simp, fun j hj => ?_⟩
  exact List.getElem?_set_ne fun z => hj (by rw [z]; exact List.mem_singleton.mpr rfl)
def fgNil : FGs := fun ds ρ k => ds = [] ∧ k ρ
def fgCons (g : FG) (gs : FGs) : FGs := fun ds ρ k => ∃ d r, ds = d :: r ∧ g d ρ fun ρ1 => gs r ρ1 k
theorem pgn_nil : PGn X M [] 0 [] fgNil := by
  refine ⟨PGs.wk pgs_nil fun us σ H Q ⟨P, F, L, ρ, ds, r, hd, e, k⟩ => ?_, fun d ρ k k' g q => ⟨q.1, g _ q.2⟩⟩
  subst e
  cases hd
  exact ⟨rfl, k σ L H (Ex.refl _) r OnlyAt.refl⟩
theorem pgn_cons {n : Nat} {vs ws : List Nat} {g : FG} {gs : FGs} (h : PG1 X M tg vs g) (hs : PGn X M es n ws gs) (ht : PGs X (tg :: es) (gCons (DGt X.k0 M vs g) (DGts X.k0 M ws gs))) : PGn X M (tg :: es) (n + 1) (vs ++ ws) (fgCons g gs) := by
  refine ⟨PGs.wk ht fun us σ H Q ⟨P, F, L, ρ, ds, r, hd, d, rest, e, k⟩ => ?_, fun ds ρ k k' g' ⟨d, r, e, q⟩ => ⟨d, r, e, h.mono _ _ _ _ (fun ρ1 q => hs.mono _ _ _ _ g' q) q⟩⟩
  subst e
  cases hd with
  | cons h1 h2 =>
    refine ⟨_, _, rfl, P, F, L, ρ, d, r, h1, h.mono _ _ _ _ (fun ρ1 q σ1 L1 H1 e1 r1 o1 => ?_) k⟩
    refine ⟨P, F, L1, ρ1, rest, r1, dpa_ex e1 _ _ h2, hs.mono _ _ _ _ (fun ρ2 q σ2 L2 H2 e2 r2 o2 => ?_) q⟩
    exact q σ2 L2 H2 (e1.trans e2) r2 ((o1.mono fun i z => List.mem_append_left _ z).trans (o2.mono fun i z => List.mem_append_right _ z))
def fgTup (n : Nat) (gs : FGs) : FG := fun d ρ k => ∃ ds, d = .tuple ds ∧ ds.length = n ∧ gs ds ρ k
theorem pg1_tup {n k : Nat} {vs : List Nat} {gs : FGs} (h : PGn X M es n vs gs) (ht : PG X (.Tuple es k pos) (gTup X.K n (DGts X.k0 M vs gs))) : PG1 X M (.Tuple es k pos) vs (fgTup n gs) := by
  refine ⟨PG.wk ht fun v σ H Q ⟨P, F, L, ρ, d, r, hd, ds, e, hl, k⟩ => ?_, fun d ρ k k' g ⟨ds, e, hl, q⟩ => ⟨ds, e, hl, h.mono _ _ _ _ g q⟩⟩
  subst e
  obtain ⟨a, us, rfl, h1, h2⟩ := rp_tuple hd
  exact ⟨a, us, rfl, h1, by rw [dpa_len h2]; exact hl, P, F, L, ρ, ds, r, h2, k⟩
end
end PD
namespace PD
open PySem L2
open Evl (Ex)
section
variable {X : Cx} {M : Mk0} {a b c e o tg iter : Expr} {es rest : List Expr} {fa fb fc : FE} {fl : FL} {ft fu : FT} {fn : FN} {fs fs' : FS} {st : Stmt} {sts : List Stmt} {pos : Pos}
def fsNext : FS := fun ρ P => P.nx ρ
def fsSeq (f g : FS) : FS := fun ρ P => f ρ { P with nx := fun ρ' => g ρ' P }
theorem pds_nil : PDs X M [] fsNext := ⟨PSs.wk pss_nil fun D σ H ⟨P, F, L, ρ, r, k⟩ => k σ L H (Ex.refl _) r, fun ρ k k' h q => h.nx _ q⟩
theorem fsSeq_mono {f g : FS} (mf : ∀ ρ k k', Post.Le k k' → f ρ k → f ρ k') (mg : ∀ ρ k k', Post.Le k k' → g ρ k → g ρ k') (ρ : Rho) (k k' : Post) (h : Post.Le k k') (q : fsSeq f g ρ k) : fsSeq f g ρ k' :=
  mf ρ { k with nx := fun ρ' => g ρ' k } { k' with nx := fun ρ' => g ρ' k' } ⟨fun ρ1 q => mg ρ1 k k' h q, h.rt, h.bk, h.ct⟩ q
theorem postLe_frz {K : Fr0} {P : Option Addr} {F : Hp} {L L1 : List Addr} {H H1 : Hp} (e1 : Ex (hide L H) (hide L1 H1)) (D : Ends) : Post.Le (postOf K M P F L H D) (postOf K M P F L1 H1 D) :=
  ⟨fun ρ2 q σ2 L2 H2 e2 r2 => q σ2 L2 H2 (e1.trans e2) r2, fun d ρ2 q v σ2 L2 H2 e2 r2 d2 => q v σ2 L2 H2 (e1.trans e2) r2 d2, fun ρ2 q σ2 L2 H2 e2 r2 => q σ2 L2 H2 (e1.trans e2) r2, fun ρ2 q σ2 L2 H2 e2 r2 => q σ2 L2 H2 (e1.trans e2) r2⟩
theorem pds_cons (h : PDS X M st fs) (hs : PDs X M sts fs') : PDs X M (st :: sts) (fsSeq fs fs') := by
  refine ⟨PSs.wk (pss_cons h.ps hs.ps) fun D σ H ⟨P, F, L, ρ, r, k⟩ => ?_, fsSeq_mono h.mono hs.mono⟩
  refine ⟨P, F, L, ρ, r, h.mono ρ _ (postOf X.k0 M P F L H { D with nx := DS X.k0 M fs' D }) ?_ k⟩
  refine ⟨fun ρ1 q σ1 L1 H1 e1 r1 => ?_, fun d ρ1 q => q, fun ρ1 q => q, fun ρ1 q => q⟩
  exact ⟨P, F, L1, ρ1, r1, hs.mono _ _ _ (postLe_frz e1 D) q⟩
theorem pds_one (h : PDS X M st fs) : PDs X M [st] fs := ⟨pss_one h.ps, h.mono⟩
def fsNever : FS := fun _ _ => False
theorem pds_never : PDS X M st fsNever := ⟨PS.wk ps_never fun D σ H ⟨_, _, _, _, _, k⟩ => k, fun _ _ _ _ q => q⟩
def fsRet (fa : FE) : FS := fun ρ P => fa ρ P.rt
theorem pds_ret (h : PD X M e fa) : PDS X M (.Return (some e) pos) (fsRet fa) := by
  refine ⟨PS.wk (ps_ret h.pe) fun D σ H ⟨P, F, L, ρ, r, k⟩ => ?_, fun ρ k k' g q => h.mono _ _ _ g.rt q⟩
  exact ⟨P, F, L, ρ, r, h.mono _ _ _ (fun d ρ1 q v L1 H1 e1 r1 d1 => q v σ L1 H1 e1 r1 d1) k⟩
def fsDrop (fa : FE) : FS := fun ρ P => fa ρ fun _ ρ1 => P.nx ρ1
theorem pds_expr (h : PD X M e fa) (hs : swapsWith e none pos.line X.env = pure false := by rfl) : PDS X M (.Expr e pos) (fsDrop fa) := by
  refine ⟨PS.wk (ps_expr h.pe hs) fun D σ H ⟨P, F, L, ρ, r, k⟩ => ?_, fun ρ k k' g q => h.mono _ _ _ (fun _ ρ1 q => g.nx _ q) q⟩
  exact ⟨P, F, L, ρ, r, h.mono _ _ _ (fun d ρ1 q v L1 H1 e1 r1 d1 => q σ L1 H1 e1 r1) k⟩
def fsIf (ft : FT) (f g : FS) : FS := fun ρ P => ft ρ fun b ρ1 => if b = true then f ρ1 P else g ρ1 P
theorem pds_if {ss ts : List Stmt} (ht : PDT X M c ft) (hf : PDs X M ss fs) (hg : PDs X M ts fs') : PDS X M (.If c ss ts pos) (fsIf ft fs fs') := by
  refine ⟨PS.wk (ps_if ht.pt hf.ps hg.ps) fun D σ H ⟨P, F, L, ρ, r, k⟩ => ?_, fun ρ k k' h q => ht.mono _ _ _ (fun t ρ1 q => by
    cases t with
    | true => exact hf.mono _ _ _ h q
    | false => exact hg.mono _ _ _ h q) q⟩
  refine ⟨P, F, L, ρ, r, ht.mono _ _ _ (fun t ρ1 q L1 H1 e1 r1 => ?_) k⟩
  have le : ∀ D : Ends, Post.Le (postOf X.k0 M P F L H D) (postOf X.k0 M P F L1 H1 D) := fun D => ⟨fun ρ2 q σ2 L2 H2 e2 r2 => q σ2 L2 H2 (e1.trans e2) r2, fun d ρ2 q v σ2 L2 H2 e2 r2 d2 => q v σ2 L2 H2 (e1.trans e2) r2 d2, fun ρ2 q σ2 L2 H2 e2 r2 => q σ2 L2 H2 (e1.trans e2) r2, fun ρ2 q σ2 L2 H2 e2 r2 => q σ2 L2 H2 (e1.trans e2) r2⟩
  cases t with
  | true => exact ⟨P, F, L1, ρ1, r1, hf.mono _ _ _ (le D) q⟩
  | false => exact ⟨P, F, L1, ρ1, r1, hg.mono _ _ _ (le D) q⟩
/-- target = value, of data -/
def fsAsg (fa : FE) (g : FG) : FS := fun ρ P => fa ρ fun d ρ1 => g d ρ1 P.nx
theorem fsAsg_mono {g : FG} (ma : ∀ ρ k k', (∀ d ρ', k d ρ' → k' d ρ') → fa ρ k → fa ρ k') (mg : ∀ d ρ k k', (∀ ρ', k ρ' → k' ρ') → g d ρ k → g d ρ k') (ρ : Rho) (k k' : Post) (h : Post.Le k k') (q : fsAsg fa g ρ k) : fsAsg fa g ρ k' :=
  ma _ _ _ (fun d ρ1 q => mg _ _ _ _ h.nx q) q
theorem dAsg {g : FG} {vs : List Nat} (ma : ∀ ρ k k', (∀ d ρ', k d ρ' → k' d ρ') → fa ρ k → fa ρ k') (mg : ∀ d ρ k k', (∀ ρ', k ρ' → k' ρ') → g d ρ k → g d ρ k') (D : Ends) (σ : L2.St) (H : Hp) (h : DS X.k0 M (fsAsg fa g) D σ H) :
    tAsg (DE X.k0 M fa) (DGt X.k0 M vs g) D σ H := by
  obtain ⟨P, F, L, ρ, r, k⟩ := h
  refine ⟨P, F, L, ρ, r, ma _ _ _ (fun d ρ1 q v L1 H1 e1 r1 d1 => ?_) k⟩
  exact ⟨P, F, L1, ρ1, d, r1, d1, mg _ _ _ _ (fun ρ2 q σ2 L2 H2 e2 r2 _ => q σ2 L2 H2 (e1.trans e2) r2) q⟩
theorem pds_asg {g : FG} {vs : List Nat} (ha : PD X M e fa) (hg : PG1 X M tg vs g) (hs : swapsWithSole [tg] e pos.line X.env = pure false := by rfl) (hw : swappedStores [tg] e X.env = pure none := by rfl)
    (h1 : (assignEach [tg] X.env).map (·.2) = [assign tg X.env] := by rfl) : PDS X M (.Assign [tg] e pos) (fsAsg fa g) :=
  ⟨PS.wk (ps_asg ha.pe hg.pg hs hw h1) (dAsg ha.mono hg.mono), fsAsg_mono ha.mono hg.mono⟩
/-- x = a new list, that the def goes on filling -/
def fsOwn (i : Nat) (fn : FN) : FS := fun ρ P => fn ρ fun ds ρ1 => P.nx (ρ1.set i (.own ds))
theorem dOwn {i : Nat} (mn : ∀ ρ k k', (∀ d ρ', k d ρ' → k' d ρ') → fn ρ k → fn ρ k') (D : Ends) (σ : L2.St) (H : Hp) (h : DS X.k0 M (fsOwn i fn) D σ H) : tAsg (DNw X.k0 M fn) (gName i) D σ H := by
  obtain ⟨P, F, L, ρ, r, k⟩ := h
  refine ⟨P, F, L, ρ, r, mn _ _ _ (fun ds ρ1 q p vs L1 H1 e1 hF r1 d1 => ?_) k⟩
  exact q _ L1 H1 e1 (r1.toOwn hF d1 i)
theorem pds_own {i : Nat} {x : Str} {px : Pos} (hn : PN X M e fn) (hg : PG X (.Name x px) (gName i)) (hs : swapsWithSole [.Name x px] e pos.line X.env = pure false := by rfl) (hw : swappedStores [.Name x px] e X.env = pure none := by rfl)
    (h1 : (assignEach [.Name x px] X.env).map (·.2) = [assign (.Name x px) X.env] := by rfl) : PDS X M (.Assign [.Name x px] e pos) (fsOwn i fn) :=
  ⟨PS.wk (ps_asg hn.pe hg hs hw h1) (dOwn hn.mono), fun ρ k k' h q => hn.mono _ _ _ (fun ds ρ1 q => h.nx _ q) q⟩
/-- x.append(e), x a list of the def's own -/
def fsApp (i : Nat) (fa : FE) : FS := fun ρ P => fa ρ fun d ρ1 => ∃ xs : List D, ρ1.sl[i]? = some (.own xs) ∧ xs.length < 1000000 ∧ P.nx (ρ1.set i (.own (xs ++ [d])))
theorem set_set_id {l : L2.St} {i : Nat} {v : Option V} (h : l[i]? = some v) : l.set i v = l := by
  apply List.ext_getElem?
  intro j
  by_cases e : i = j
  · subst e
    rw [List.getElem?_set_self (List.getElem?_eq_some_iff.mp h).1, h]
  · rw [List.getElem?_set_ne e]
theorem pds_app {i : Nat} {x : Str} {px pa pc : Pos} (ha : PD X M e fa)
    (hp : PE X (.Call (.Attribute (.Name x px) "append" pa) [e] [] pc) (tBM X.K "list" rAppend (tVar i) (tCons (DE X.k0 M fa) tNil)))
    (hs : swapsWith (.Call (.Attribute (.Name x px) "append" pa) [e] [] pc) none pos.line X.env = pure false := by rfl) :
    PDS X M (.Expr (.Call (.Attribute (.Name x px) "append" pa) [e] [] pc) pos) (fun ρ P => (∃ xs : List D, ρ.sl[i]? = some (.own xs)) ∧ fsApp i fa ρ P) := by
  refine ⟨PS.wk (ps_expr hp hs) fun D σ H ⟨P, F, L, ρ, r, ⟨xs0, h0⟩, k⟩ => ?_, fun ρ k k' h q => ⟨q.1, ha.mono _ _ _ (fun d ρ1 ⟨xs, h1, h2, q⟩ => ⟨xs, h1, h2, h.nx _ q⟩) q.2⟩⟩
  obtain ⟨l, u, g1, g2, g3, vs, g5, g4⟩ := r.getOwn h0
  subst g5
  refine ⟨.ref l, g1, ?_⟩
  refine ⟨.inl ⟨rfl, vs, .inl (.inl g3)⟩, ?_⟩
  refine ⟨P, F, L, ρ, r, ha.mono _ _ _ (fun d ρ1 ⟨xs, h1, h2, q⟩ v L1 H1 e1 r1 d1 => ?_) k⟩
  obtain ⟨p, us, f1, f2, f3, f4, f5, f6⟩ := r1.ofOwn h1
  rw [g1] at f1
  cases f1
  have hl := dpa_len f5
  refine ⟨l, us, v, rfl, rfl, f2, by rw [sizeLine_eq]; omega, ?_⟩
  have hh := hide_repin (H := H1) (o' := HO.lst (us ++ [v])) f4
  have r2 := f6.repin (o' := .lst (us ++ [v]))
  have r3 := r2.toOwn f3 (by rw [hh]; exact dpa_app f5 (.cons d1 .nil)) i
  rw [set_set_id g1] at r3
  have es : (ρ1.set i .no).set i (.own (xs ++ [d])) = ρ1.set i (.own (xs ++ [d])) := by
    show Rho.mk ((ρ1.sl.set i .no).set i (.own (xs ++ [d]))) ρ1.n = _
    rw [List.set_set]
  rw [es] at r3
  exact q σ L1 _ (by rw [hh]; exact e1) r3
/-- a list of the def's own is no longer filled -/
def frz (i : Nat) (ρ : Rho) : Rho := match ρ.sl[i]? with
  | some (.own c) => ρ.set i (.d (ow c))
  | _ => ρ
theorem R.freeze {K : Fr0} {P : Option Addr} {F : Hp} {L : List Addr} {ρ : Rho} {σ : L2.St} {H : Hp} (i : Nat) (r : R K M P F L ρ σ H) : ∃ L', Ex (hide L H) (hide L' H) ∧ R K M P F L' (PD.frz i ρ) σ H := by
  unfold PD.frz
  split
  · rename_i xs h
    obtain ⟨p, u, f1, f2, f3, f4, f5, f6⟩ := r.ofOwnC h
    obtain ⟨L2, e2, r2, d2, _⟩ := reveal_own (Ex.refl _) f3 f6 f5
    refine ⟨L2, e2, ?_⟩
    have r3 := r2.setD i (.d (ow xs)) (some (.ref p)) ⟨_, rfl, d2⟩ fun xs z => nomatch z
    rw [set_set_id f1] at r3
    have es : (ρ.set i .no).set i (.d (ow xs)) = ρ.set i (.d (ow xs)) := by
      show Rho.mk ((ρ.sl.set i .no).set i (.d (ow xs))) ρ.n = _
      rw [List.set_set]
    rw [es] at r3
    exact r3
  · exact ⟨L, Ex.refl _, r⟩
theorem pds_frz1 (i : Nat) (h : PDS X M st fs) : PDS X M st (fun ρ P => fs (frz i ρ) P) := by
  refine ⟨PS.wk h.ps fun D σ H ⟨P, F, L, ρ, r, k⟩ => ?_, fun ρ k k' g q => h.mono _ _ _ g q⟩
  obtain ⟨L1, e1, r1⟩ := r.freeze i
  exact ⟨P, F, L1, _, r1, h.mono _ _ _ (postLe_frz e1 D) k⟩
def dropOwn (s : Sl) : Sl := match s with
  | .own _ => .no
  | s => s
def lendR (i : Nat) (ρ : Rho) : Rho := ⟨(frz i ρ).sl.map dropOwn, ρ.n⟩
theorem bare_drop (l : List Sl) (n : Nat) : Bare ⟨l.map dropOwn, n⟩ := fun i xs h => by
  have h : (l.map dropOwn)[i]? = some (.own xs) := h
  rw [List.getElem?_map] at h
  cases e : l[i]? with
  | none => rw [e] at h; cases h
  | some s =>
    rw [e] at h
    cases s <;> cases h
/-- all lists of one's own set aside -/
theorem R.aside {K : Fr0} {P : Option Addr} {F : Hp} {L : List Addr} {ρ : Rho} {σ : L2.St} {H : Hp} (r : R K M P F L ρ σ H) : R K M P (keepF ρ σ F H) L ⟨ρ.sl.map dropOwn, ρ.n⟩ σ H := by
  refine r.frame (bare_drop _ _) rfl (by simp [r.len]) fun i s o h1 h2 => ?_
  have h1 : (ρ.sl.map dropOwn)[i]? = some s := h1
  rw [List.getElem?_map] at h1
  cases e : ρ.sl[i]? with
  | none => rw [e] at h1; cases h1
  | some t =>
    rw [e] at h1
    have q := r.sl i t o e h2
    cases t <;> (cases h1; first | trivial | exact q)
def ftLend (i : Nat) (ft : FT) : FT := fun ρ k => ft (lendR i ρ) fun b ρ' => k b ⟨ρ.sl, ρ'.n⟩
def fLend (i : Nat) (fa : FE) : FE := fun ρ k => fa (lendR i ρ) fun d ρ' => flatD d = true ∧ k d ⟨ρ.sl, ρ'.n⟩
end
end PD
namespace PD
open PySem L2
open Evl (Ex)
/-- what an iterator gives: the data ds, one by one, whatever is made meanwhile -/
def Walks (K : Fr0) (J : It) (L : List Addr) (H : Hp) (ds : List D) : Prop :=
  ∀ L2 H2, Ex (hide L H) (hide L2 H2) → (∀ a ∈ L2, ∃ o, H2 a = some o) → ∀ i,
    (∀ d, ds[i]? = some d → J.go i H2 ∧ ∀ x H3, J.yld i H2 x H3 → Ex H2 H3 ∧ Rp K (hide L2 H3) x d) ∧ (ds.length ≤ i → J.stop i H2)
theorem Walks.mono {K : Fr0} {J : It} {L L' : List Addr} {H H' : Hp} {ds : List D} (w : Walks K J L H ds) (e : Ex (hide L H) (hide L' H')) : Walks K J L' H' ds := fun L2 H2 e2 tr => w L2 H2 (e.trans e2) tr
abbrev FI := Rho → (List D → Rho → Prop) → Prop
def DI (K : Fr0) (M : Mk0) (f : FI) : TI := fun σ H Q => ∃ P F L ρ, R K M P F L ρ σ H ∧ f ρ fun ds ρ' => ∀ J L' H', Ex (hide L H) (hide L' H') → R K M P F L' ρ' σ H' → Walks K J L' H' ds → Q J H'
structure PDI (X : Cx) (M : Mk0) (tg iter : Expr) (f : FI) : Prop where
  pi : PI X tg iter (DI X.k0 M f)
  mono : ∀ ρ k k', (∀ d ρ', k d ρ' → k' d ρ') → f ρ k → f ρ k'
def forD (g : FG) (fb : FS) : List D → Rho → Post → Prop
  | [], ρ, P => P.nx ρ
  | x :: xs, ρ, P => g x ρ fun ρ1 => fb ρ1 { nx := fun ρ' => forD g fb xs ρ' P, ct := fun ρ' => forD g fb xs ρ' P, bk := P.nx, rt := P.rt }
def whD (ft : FT) (fb : FS) (ρ : Rho) (P : Post) : Prop := ∃ W : Nat → Rho → Prop, (∃ m, W m ρ) ∧ ∀ m ρ, W m ρ →
  ft ρ fun b ρ1 => if b = true then fb ρ1 { nx := fun ρ' => ∃ m', m' < m ∧ W m' ρ', ct := fun ρ' => ∃ m', m' < m ∧ W m' ρ', bk := P.nx, rt := P.rt } else P.nx ρ1
def wipeR (vs : List Nat) (ρ : Rho) : Rho := ⟨vs.foldr (fun v l => l.set v .no) ρ.sl, ρ.n⟩
/-- a comprehension: what is made so far, one by one -/
def compD (g : FG) (ft : FT) (fe : FE) (vs : List Nat) : List D → List D → Rho → (List D → Rho → Prop) → Prop
  | [], acc, ρ, k => k acc ρ
  | x :: xs, acc, ρ, k => g x (wipeR vs ρ) fun ρ1 => ft ρ1 fun b ρ2 => if b = true then fe ρ2 fun y ρ3 => compD g ft fe vs xs (acc ++ [y]) ⟨ρ.sl, ρ3.n⟩ k else compD g ft fe vs xs acc ⟨ρ.sl, ρ2.n⟩ k
def ftYes : FT := fun ρ k => k true ρ
theorem R.wipe {K : Fr0} {M : Mk0} {P : Option Addr} {F : Hp} {L : List Addr} {ρ : Rho} {σ : L2.St} {H : Hp} (r : R K M P F L ρ σ H) : ∀ vs : List Nat, R K M P F L (wipeR vs ρ) (wipe σ vs) H
  | [] => r
  | v :: vs => (r.wipe vs).setD v .no none trivial fun xs z => nomatch z
section
variable {X : Cx} {M : Mk0} {a b c e o tg iter elt : Expr} {es rest ifs : List Expr} {fa fb fc fe : FE} {fl : FL} {ft fu : FT} {fn : FN} {fs fs' : FS} {fi : FI} {g : FG} {st : Stmt} {sts body : List Stmt} {pos : Pos}
theorem forD_mono (mg : ∀ d ρ k k', (∀ ρ', k ρ' → k' ρ') → g d ρ k → g d ρ k') (mb : ∀ ρ k k', Post.Le k k' → fs ρ k → fs ρ k') : ∀ (ds : List D) (ρ : Rho) (k k' : Post), Post.Le k k' → forD g fs ds ρ k → forD g fs ds ρ k'
  | [], ρ, k, k', h, q => h.nx _ q
  | d :: ds, ρ, k, k', h, q => mg _ _ _ _ (fun ρ1 q => mb ρ1 { nx := fun ρ' => forD g fs ds ρ' k, ct := fun ρ' => forD g fs ds ρ' k, bk := k.nx, rt := k.rt } { nx := fun ρ' => forD g fs ds ρ' k', ct := fun ρ' => forD g fs ds ρ' k', bk := k'.nx, rt := k'.rt }
      ⟨fun ρ2 q => forD_mono mg mb ds _ _ _ h q, h.rt, h.nx, fun ρ2 q => forD_mono mg mb ds _ _ _ h q⟩ q) q
def fsFor (fi : FI) (g : FG) (fb : FS) : FS := fun ρ P => fi ρ fun ds ρ1 => forD g fb ds ρ1 P
theorem dFor {vs : List Nat} (mi : ∀ ρ k k', (∀ d ρ', k d ρ' → k' d ρ') → fi ρ k → fi ρ k') (mg : ∀ d ρ k k', (∀ ρ', k ρ' → k' ρ') → g d ρ k → g d ρ k') (mb : ∀ ρ k k', Post.Le k k' → fs ρ k → fs ρ k')
    (D' : Ends) (σ : L2.St) (H : Hp) (h : DS X.k0 M (fsFor fi g fs) D' σ H) : tFor (DI X.k0 M fi) (DGt X.k0 M vs g) (DS X.k0 M fs) D' σ H := by
  obtain ⟨P, F, L, ρ, r, k⟩ := h
  refine ⟨P, F, L, ρ, r, mi _ _ _ (fun ds ρ1 q J L1 H1 e1 r1 w => ?_) k⟩
  refine ⟨fun i m σ' H' => m = ds.length - i ∧ i ≤ ds.length ∧ ∃ L' ρ', Ex (hide L1 H1) (hide L' H') ∧ R X.k0 M P F L' ρ' σ' H' ∧ forD g fs (ds.drop i) ρ' (postOf X.k0 M P F L H D'), ⟨ds.length, by simp, Nat.zero_le _, L1, ρ1, Ex.refl _, r1, by simpa using q⟩, ?_⟩
  rintro i m σ' H' ⟨rfl, hi, L', ρ', e', r', q'⟩
  have ww := w L' H' e' r'.tr i
  by_cases hlt : i < ds.length
  · have hd : ds[i]? = some ds[i] := List.getElem?_eq_getElem hlt
    obtain ⟨go, yl⟩ := ww.1 _ hd
    rw [List.drop_eq_getElem_cons hlt] at q'
    refine .inr ⟨go, fun σ2 H2 => ∃ L2 ρ2, Ex (hide L1 H1) (hide L2 H2) ∧ R X.k0 M P F L2 ρ2 σ2 H2 ∧ forD g fs (ds.drop (i + 1)) ρ2 (postOf X.k0 M P F L H D'), fun σ2 H2 ⟨L2, ρ2, e2, r2, q2⟩ => ⟨ds.length - (i + 1), by omega, rfl, hlt, L2, ρ2, e2, r2, q2⟩, fun x H2 y => ?_⟩
    obtain ⟨e2, d2⟩ := yl x H2 y
    refine ⟨P, F, L', ρ', ds[i], r'.ex e2, d2, mg _ _ _ _ (fun ρ3 q3 σ3 L3 H3 e3 r3 _ => ?_) q'⟩
    have e13 : Ex (hide L1 H1) (hide L3 H3) := (e'.trans (hide_ex e2)).trans e3
    refine ⟨P, F, L3, ρ3, r3, mb ρ3 { nx := fun ρ' => forD g fs (ds.drop (i + 1)) ρ' (postOf X.k0 M P F L H D'), ct := fun ρ' => forD g fs (ds.drop (i + 1)) ρ' (postOf X.k0 M P F L H D'), bk := (postOf X.k0 M P F L H D').nx, rt := (postOf X.k0 M P F L H D').rt } _ ⟨fun ρ4 q4 σ4 L4 H4 e4 r4 => ⟨L4, ρ4, e13.trans e4, r4, q4⟩, fun d ρ4 q4 v σ4 L4 H4 e4 r4 d4 => q4 v σ4 L4 H4 ((e1.trans e13).trans e4) r4 d4, fun ρ4 q4 σ4 L4 H4 e4 r4 => q4 σ4 L4 H4 ((e1.trans e13).trans e4) r4, fun ρ4 q4 σ4 L4 H4 e4 r4 => ⟨L4, ρ4, e13.trans e4, r4, q4⟩⟩ q3⟩
  · have e : ds.length ≤ i := by omega
    rw [List.drop_eq_nil_of_le e] at q'
    exact .inl ⟨ww.2 e, q' σ' L' H' (e1.trans e') r'⟩
theorem pds_for {vs : List Nat} (hp : PassesOwn (model X.prog X.w) X.A X.env X.xe) (hc : X.calm = true) (hi : PDI X M tg iter fi) (hg : PG1 X M tg vs g) (hb : PDs X M body fs) (hs : ∀ x, foldedSetIterable iter X.env x = pure x := by intro _; rfl) :
    PDS X M (.For tg iter body [] pos) (fsFor fi g fs) :=
  ⟨PS.wk (ps_for hp hc hi.pi hg.pg hb.ps hs) (dFor hi.mono hg.mono hb.mono), fun ρ k k' h q => hi.mono _ _ _ (fun ds ρ1 q => forD_mono hg.mono hb.mono ds _ _ _ h q) q⟩
theorem pds_while (hp : PassesOwn (model X.prog X.w) X.A X.env X.xe) (ht : PDT X M c ft) (hb : PDs X M body fs) : PDS X M (.While c body [] pos) (whD ft fs) := by
  refine ⟨PS.wk (ps_while hp ht.pt hb.ps) fun D' σ H ⟨P, F, L, ρ, r, W, ⟨m0, w0⟩, turn⟩ => ?_, fun ρ k k' h ⟨W, w0, turn⟩ => ⟨W, w0, fun m ρ w => ht.mono _ _ _ (fun t ρ1 q => by
    cases t with
    | true => exact hb.mono ρ1 { nx := fun ρ' => ∃ m', m' < m ∧ W m' ρ', ct := fun ρ' => ∃ m', m' < m ∧ W m' ρ', bk := k.nx, rt := k.rt } { nx := fun ρ' => ∃ m', m' < m ∧ W m' ρ', ct := fun ρ' => ∃ m', m' < m ∧ W m' ρ', bk := k'.nx, rt := k'.rt } ⟨fun _ q => q, h.rt, h.nx, fun _ q => q⟩ q
    | false => exact h.nx _ q) (turn m ρ w)⟩⟩
  refine ⟨fun m σ' H' => ∃ L' ρ', Ex (hide L H) (hide L' H') ∧ R X.k0 M P F L' ρ' σ' H' ∧ W m ρ', ⟨m0, L, ρ, Ex.refl _, r, w0⟩, ?_⟩
  rintro m σ' H' ⟨L', ρ', e', r', w'⟩
  refine ⟨P, F, L', ρ', r', ht.mono _ _ _ (fun t ρ1 q L1 H1 e1 r1 => ?_) (turn m ρ' w')⟩
  cases t with
  | true =>
    refine ⟨fun σ2 H2 => ∃ m', m' < m ∧ ∃ L2 ρ2, Ex (hide L H) (hide L2 H2) ∧ R X.k0 M P F L2 ρ2 σ2 H2 ∧ W m' ρ2, fun σ2 H2 ⟨m', hm, L2, ρ2, e2, r2, w2⟩ => ⟨m', hm, L2, ρ2, e2, r2, w2⟩, P, F, L1, ρ1, r1, hb.mono _ _ _ ?_ q⟩
    exact ⟨fun ρ2 ⟨m', hm, w2⟩ σ2 L2 H2 e2 r2 => ⟨m', hm, L2, ρ2, (e'.trans e1).trans e2, r2, w2⟩, fun d ρ2 q v σ2 L2 H2 e2 r2 d2 => q v σ2 L2 H2 ((e'.trans e1).trans e2) r2 d2, fun ρ2 q σ2 L2 H2 e2 r2 => q σ2 L2 H2 ((e'.trans e1).trans e2) r2, fun ρ2 ⟨m', hm, w2⟩ σ2 L2 H2 e2 r2 => ⟨m', hm, L2, ρ2, (e'.trans e1).trans e2, r2, w2⟩⟩
  | false => exact q σ' L1 H1 (e'.trans e1) r1
def seqD : D → Option (List D)
  | .list xs => some xs
  | .tuple xs => some xs
  | _ => none
def fiSeq (fa : FE) : FI := fun ρ k => fa ρ fun d ρ1 => ∃ ds, seqD d = some ds ∧ k ds ρ1
theorem fiSeq_mono (ma : ∀ ρ k k', (∀ d ρ', k d ρ' → k' d ρ') → fa ρ k → fa ρ k') (ρ : Rho) (k k' : List D → Rho → Prop) (h : ∀ d ρ', k d ρ' → k' d ρ') (q : fiSeq fa ρ k) : fiSeq fa ρ k' :=
  ma _ _ _ (fun d ρ1 ⟨ds, h1, h2⟩ => ⟨ds, h1, h _ _ h2⟩) q
theorem walks_l {K : Fr0} {a : Addr} {vs : List V} {L : List Addr} {H : Hp} {ds : List D} (h : SqL K.f (hide L H) a vs) (hd : RpAll K (hide L H) vs ds) : Walks K (Itl K.f a) L H ds := by
  intro L2 H2 e tr i
  have h2 : SqL K.f H2 a vs := sql_le (Evl.ex_l e h)
  have d2 := dpa_ex e _ _ hd
  refine ⟨fun d hi => ?_, fun hl => ⟨vs, h2, by rw [dpa_len hd]; exact hl⟩⟩
  obtain ⟨v, hv, dv⟩ := dpa_get' d2 hi
  refine ⟨⟨vs, v, h2, hv⟩, fun x H3 ⟨e3, y⟩ => ?_⟩
  subst e3
  have := y vs h2
  rw [hv] at this
  cases this
  exact ⟨Ex.refl _, dv⟩
theorem walks_t {K : Fr0} {a : Addr} {vs : List V} {L : List Addr} {H : Hp} {ds : List D} (h : SqT K.f (hide L H) a vs) (hd : RpAll K (hide L H) vs ds) : Walks K (Itt K.f a) L H ds := by
  intro L2 H2 e tr i
  have h2 : SqT K.f H2 a vs := sqt_le (Evl.ex_t e h)
  have d2 := dpa_ex e _ _ hd
  refine ⟨fun d hi => ?_, fun hl => ⟨vs, h2, by rw [dpa_len hd]; exact hl⟩⟩
  obtain ⟨v, hv, dv⟩ := dpa_get' d2 hi
  refine ⟨⟨vs, v, h2, hv⟩, fun x H3 ⟨e3, y⟩ => ?_⟩
  subst e3
  have := y vs h2
  rw [hv] at this
  cases this
  exact ⟨Ex.refl _, dv⟩
def iSeq (K : PySem.W.Frag) (tl : TE) : TI := fun σ H R => tl σ H fun x H1 => ∃ a, x = V.ref a ∧ ((∃ xs, SqL K H1 a xs) ∧ R (Itl K a) H1 ∨ (∃ xs, SqT K H1 a xs) ∧ R (Itt K a) H1)
theorem pi_seq {l : Expr} {tl : TE} (hl : PE X l tl) : PI X tg l (iSeq X.K tl) := by
  refine ⟨fun pins s σ H R0 I h => ?_⟩
  refine thn (hl.run pins s σ H _ I h) fun v s1 ⟨x, H1, I1, r1, q1⟩ => ?_
  obtain ⟨a, e, q⟩ := q1
  subst e
  rcases q with ⟨⟨xs, hq⟩, q⟩ | ⟨⟨xs, hq⟩, q⟩
  · exact pi_list_tail I1 r1 hq q
  · exact pi_tup_tail I1 r1 hq q
where
  pi_list_tail {pins : List (Addr × Obj)} {s1 : Shared} {σ : L2.St} {H1 : Hp} {a : Addr} {xs : List V} {v : Value} {R0 : It → Hp → Prop} (I1 : Inv X pins σ H1 s1) (r1 : RelV (.ref a) v) (hq : SqL X.K H1 a xs) (q : R0 (Itl X.K a) H1) :
      wpAny (model X.prog X.w) X.A (pyIter v) (PIE X pins σ tg R0) X.xe s1 := by
    cases r1
    obtain ⟨its, rv, p, hz⟩ := I1.list hq
    refine wpAny_pyIter_list p.isList ?_
    refine ⟨s1.heap.objs.size, [s1.heap.objs.size], _, _, H1, rfl, I1.kept (t' := s1.toks) fun b o e => Heap.get?_push_of_some _ e, turn_list a _, ⟨_, Heap.get?_push_size _ rfl, rfl, rfl⟩, fun b hb => ?_, q⟩
    have e : b = s1.heap.objs.size := by simpa using hb
    subst e
    exact I1.fpOk (Nat.le_refl _) (I1.hok.fresh (Nat.le_refl _))
  pi_tup_tail {pins : List (Addr × Obj)} {s1 : Shared} {σ : L2.St} {H1 : Hp} {a : Addr} {xs : List V} {v : Value} {R0 : It → Hp → Prop} (I1 : Inv X pins σ H1 s1) (r1 : RelV (.ref a) v) (hq : SqT X.K H1 a xs) (q : R0 (Itt X.K a) H1) :
      wpAny (model X.prog X.w) X.A (pyIter v) (PIE X pins σ tg R0) X.xe s1 := by
    cases r1
    obtain ⟨its, rv, p, hz⟩ := I1.tuple hq
    refine wpAny_pyIter_tuple (show s1.heap.IsTuple a its.toArray from p) ?_
    refine ⟨s1.heap.objs.size, [s1.heap.objs.size], _, _, H1, rfl, I1.kept (t' := s1.toks) fun b o e => Heap.get?_push_of_some _ e, turn_tuple a _, ⟨_, Heap.get?_push_size _ rfl, rfl, rfl⟩, fun b hb => ?_, q⟩
    have e : b = s1.heap.objs.size := by simpa using hb
    subst e
    exact I1.fpOk (Nat.le_refl _) (I1.hok.fresh (Nat.le_refl _))
theorem pdi_seq (h : PD X M iter fa) : PDI X M tg iter (fiSeq fa) := by
  refine ⟨PI.wk (pi_seq h.pe) fun σ H Q ⟨P, F, L, ρ, r, k⟩ => ?_, fiSeq_mono h.mono⟩
  refine ⟨P, F, L, ρ, r, h.mono _ _ _ (fun d ρ1 ⟨ds, h1, q⟩ v L1 H1 e1 r1 d1 => ?_) k⟩
  cases d with
  | list xs =>
    cases h1
    cases d1 with
    | lst g1 g2 => exact ⟨_, rfl, .inl ⟨⟨_, sql_le g1⟩, q _ L1 H1 e1 r1 (walks_l g1 g2)⟩⟩
  | tuple xs =>
    cases h1
    cases d1 with
    | tup g1 g2 => exact ⟨_, rfl, .inr ⟨⟨_, sqt_le g1⟩, q _ L1 H1 e1 r1 (walks_t g1 g2)⟩⟩
  | none => cases h1
  | bool _ => cases h1
  | int _ => cases h1
  | str _ => cases h1
  | dict _ => cases h1
/-- range(n), range(a, b) -/
def rangeD (lo hi : Int) : List D := (List.range (hi - lo).toNat).map fun (i : Nat) => PyData.int (lo + i)
def fiRange1 (fl : FL) : FI := fun ρ k => fl ρ fun ds ρ1 => ∃ j, ds = [.int j] ∧ -(2 ^ 62) ≤ j ∧ j < 2 ^ 62 ∧ k (rangeD 0 j) ρ1
def fiRange2 (fl : FL) : FI := fun ρ k => fl ρ fun ds ρ1 => ∃ i j, ds = [.int i, .int j] ∧ (-(2 ^ 62) ≤ i ∧ i < 2 ^ 62 ∧ -(2 ^ 62) ≤ j ∧ j < 2 ^ 62) ∧ k (rangeD i j) ρ1
theorem rangeD_length (lo hi : Int) : (rangeD lo hi).length = (hi - lo).toNat := by
  unfold rangeD
  rw [List.length_map, List.length_range]
theorem rangeD_get {lo hi : Int} {i : Nat} {d : D} (h : (rangeD lo hi)[i]? = some d) : i < (hi - lo).toNat ∧ d = .int (lo + i) := by
  have hl : i < (hi - lo).toNat := by
    have := (List.getElem?_eq_some_iff.mp h).1
    rwa [rangeD_length] at this
  refine ⟨hl, ?_⟩
  unfold rangeD at h
  rw [List.getElem?_map, List.getElem?_range hl] at h
  cases h
  rfl
theorem walks_r {K : Fr0} {lo hi : Int} {L : List Addr} {H : Hp} : Walks K (Itr lo (hi - lo).toNat) L H (rangeD lo hi) := by
  intro L2 H2 e tr i
  refine ⟨fun d hi => ?_, fun hl => by rw [rangeD_length] at hl; exact hl⟩
  obtain ⟨h1, h2⟩ := rangeD_get hi
  subst h2
  refine ⟨h1, fun x H3 ⟨e3, y⟩ => ?_⟩
  subst e3 y
  exact ⟨Ex.refl _, .int _⟩
theorem pdi_range1 {p : Pos} (hg : Gl X "range") (hm : X.mg "range" = none) (ha : PDL X M [a] fl) (hs : starEach [a] X.env = [(false, eval a X.env)] := by rfl) : PDI X M tg (.Call (.Name "range" p) [a] [] pos) (fiRange1 fl) := by
  refine ⟨PI.wk (pi_range1 hg hm ha.pa hs) fun σ H Q ⟨P, F, L, ρ, r, k⟩ => ?_, fun ρ k k' h q => ha.mono _ _ _ (fun ds ρ1 ⟨j, h1, h2, h3, q⟩ => ⟨j, h1, h2, h3, h _ _ q⟩) q⟩
  refine ⟨P, F, L, ρ, r, ha.mono _ _ _ (fun ds ρ1 ⟨j, h1, h2, h3, q⟩ vs L1 H1 e1 r1 d1 => ?_) k⟩
  subst h1
  cases d1 with
  | cons g1 g2 =>
    cases g2
    refine ⟨j, by rw [rp_int g1], h2, h3, ?_⟩
    have := q (Itr 0 (j - 0).toNat) L1 H1 e1 r1 walks_r
    simpa using this
/-- zip(a, b): two lists, or two tuples -/
def zipD : D → D → Option (List D)
  | .list xs, .list ys => some (List.zipWith (fun x y => PyData.tuple [x, y]) xs ys)
  | .tuple xs, .tuple ys => some (List.zipWith (fun x y => PyData.tuple [x, y]) xs ys)
  | _, _ => none
def fiZip (fl : FL) : FI := fun ρ k => fl ρ fun ds ρ1 => ∃ x y zs, ds = [x, y] ∧ zipD x y = some zs ∧ k zs ρ1
theorem zip_get {xs ys : List D} {i : Nat} {d : D} (h : (List.zipWith (fun x y => PyData.tuple [x, y]) xs ys)[i]? = some d) : ∃ x y, xs[i]? = some x ∧ ys[i]? = some y ∧ d = .tuple [x, y] := by
  rw [List.getElem?_zipWith] at h
  cases e1 : xs[i]? with
  | none => rw [e1] at h; cases h
  | some x =>
    cases e2 : ys[i]? with
    | none => rw [e1, e2] at h; cases h
    | some y =>
      rw [e1, e2] at h
      cases h
      exact ⟨x, y, rfl, rfl, rfl⟩
theorem pair_new {K : Fr0} {L : List Addr} {H : Hp} {T : Addr} {u v : V} {x y : D} (tr : ∀ a ∈ L, ∃ o, H a = some o) (hT : H T = none) (h1 : Rp K (hide L H) u x) (h2 : Rp K (hide L H) v y) : Rp K (hide L (upd H T (.tup [u, v]))) (.ref T) (.tuple [x, y]) :=
  new_tup tr hT (.cons h1 (.cons h2 .nil))
theorem walks_z {K : Fr0} {a b : Addr} {us vs : List V} {L : List Addr} {H : Hp} {xs ys : List D} (h : SqL K.f (hide L H) a us) (hd : RpAll K (hide L H) us xs) (h' : SqL K.f (hide L H) b vs) (hd' : RpAll K (hide L H) vs ys) :
    Walks K (Itz K.f a b) L H (List.zipWith (fun x y => PyData.tuple [x, y]) xs ys) := by
  intro L2 H2 e tr i
  have g1 : SqL K.f H2 a us := sql_le (Evl.ex_l e h)
  have g2 : SqL K.f H2 b vs := sql_le (Evl.ex_l e h')
  have d1 := dpa_ex e _ _ hd
  have d2 := dpa_ex e _ _ hd'
  refine ⟨fun d hi => ?_, fun hl => ⟨us, vs, g1, g2, ?_⟩⟩
  · obtain ⟨x, y, hx, hy, rfl⟩ := zip_get hi
    obtain ⟨u, hu, du⟩ := dpa_get' d1 hx
    obtain ⟨v, hv, dv⟩ := dpa_get' d2 hy
    refine ⟨⟨us, vs, u, v, g1, g2, hu, hv⟩, fun z H3 ⟨T, u', v', e1, hT, e3, q1, q2⟩ => ?_⟩
    have e4 := q1 us g1
    have e5 := q2 vs g2
    rw [hu] at e4
    rw [hv] at e5
    cases e4
    cases e5
    subst e1 e3
    exact ⟨Ex.new hT, pair_new tr hT du dv⟩
  · rw [List.length_zipWith, ← dpa_len hd, ← dpa_len hd'] at hl
    omega
theorem walks_zt {K : Fr0} {a b : Addr} {us vs : List V} {L : List Addr} {H : Hp} {xs ys : List D} (h : SqT K.f (hide L H) a us) (hd : RpAll K (hide L H) us xs) (h' : SqT K.f (hide L H) b vs) (hd' : RpAll K (hide L H) vs ys) :
    Walks K (RZ.ItzT K.f a b) L H (List.zipWith (fun x y => PyData.tuple [x, y]) xs ys) := by
  intro L2 H2 e tr i
  have g1 : SqT K.f H2 a us := sqt_le (Evl.ex_t e h)
  have g2 : SqT K.f H2 b vs := sqt_le (Evl.ex_t e h')
  have d1 := dpa_ex e _ _ hd
  have d2 := dpa_ex e _ _ hd'
  refine ⟨fun d hi => ?_, fun hl => ⟨us, vs, g1, g2, ?_⟩⟩
  · obtain ⟨x, y, hx, hy, rfl⟩ := zip_get hi
    obtain ⟨u, hu, du⟩ := dpa_get' d1 hx
    obtain ⟨v, hv, dv⟩ := dpa_get' d2 hy
    refine ⟨⟨us, vs, u, v, g1, g2, hu, hv⟩, fun z H3 ⟨T, u', v', e1, hT, e3, q1, q2⟩ => ?_⟩
    have e4 := q1 us g1
    have e5 := q2 vs g2
    rw [hu] at e4
    rw [hv] at e5
    cases e4
    cases e5
    subst e1 e3
    exact ⟨Ex.new hT, pair_new tr hT du dv⟩
  · rw [List.length_zipWith, ← dpa_len hd, ← dpa_len hd'] at hl
    omega
theorem pdi_zip {kk : Nat} {p tpos : Pos} {elts : List Expr} (hg : Gl X "zip") (hm : X.mg "zip" = none) (ha : PDL X M [a, b] fl) (hs : starEach [a, b] X.env = (false, eval a X.env) :: starEach [b] X.env := by rfl) (hpl : (backTo pos (starEach [b] X.env)).any (·.1) = false := by rfl) :
    PDI X M (.Tuple elts kk tpos) (.Call (.Name "zip" p) [a, b] [] pos) (fiZip fl) := by
  refine ⟨PI.wk (RZ.pi_zipA hg hm ha.pa hs hpl) fun σ H Q ⟨P, F, L, ρ, r, k⟩ => ?_, fun ρ k k' h q => ha.mono _ _ _ (fun ds ρ1 ⟨x, y, zs, h1, h2, q⟩ => ⟨x, y, zs, h1, h2, h _ _ q⟩) q⟩
  refine ⟨P, F, L, ρ, r, ha.mono _ _ _ (fun ds ρ1 ⟨x, y, zs, h1, h2, q⟩ vs L1 H1 e1 r1 d1 => ?_) k⟩
  subst h1
  cases d1 with
  | cons g1 g2 =>
    cases g2 with
    | cons g3 g4 =>
      cases g4
      unfold zipD at h2
      split at h2
      · cases h2
        cases g1 with
        | lst a1 a2 =>
          cases g3 with
          | lst b1 b2 => exact ⟨_, _, _, _, rfl, .inl ⟨sql_le a1, sql_le b1, q _ L1 H1 e1 r1 (walks_z a1 a2 b1 b2)⟩⟩
      · cases h2
        cases g1 with
        | tup a1 a2 =>
          cases g3 with
          | tup b1 b2 => exact ⟨_, _, _, _, rfl, .inr ⟨sqt_le a1, sqt_le b1, q _ L1 H1 e1 r1 (walks_zt a1 a2 b1 b2)⟩⟩
      · cases h2
theorem enum_get {xs : List D} {i : Nat} {d : D} (h : (xs.zipIdx.map fun p => PyData.tuple [.int (p.2 : Nat), p.1])[i]? = some d) : ∃ x, xs[i]? = some x ∧ d = .tuple [.int (i : Nat), x] := by
  rw [List.getElem?_map, List.getElem?_zipIdx] at h
  cases e1 : xs[i]? with
  | none => rw [e1] at h; cases h
  | some x =>
    rw [e1] at h
    cases h
    exact ⟨x, rfl, by simp⟩
theorem walks_e {K : Fr0} {a : Addr} {us : List V} {L : List Addr} {H : Hp} {xs : List D} (h : SqL K.f (hide L H) a us) (hd : RpAll K (hide L H) us xs) : Walks K (Ite K.f a) L H (xs.zipIdx.map fun p => PyData.tuple [.int (p.2 : Nat), p.1]) := by
  intro L2 H2 e tr i
  have g1 : SqL K.f H2 a us := sql_le (Evl.ex_l e h)
  have d1 := dpa_ex e _ _ hd
  refine ⟨fun d hi => ?_, fun hl => ⟨us, g1, ?_⟩⟩
  · obtain ⟨x, hx, rfl⟩ := enum_get hi
    obtain ⟨u, hu, du⟩ := dpa_get' d1 hx
    refine ⟨⟨us, u, g1, hu⟩, fun z H3 ⟨T, u', e1, hT, e3, q1⟩ => ?_⟩
    have e4 := q1 us g1
    rw [hu] at e4
    cases e4
    subst e1 e3
    exact ⟨Ex.new hT, pair_new tr hT (.int _) du⟩
  · rw [List.length_map, List.length_zipIdx, ← dpa_len hd] at hl
    exact hl
end
end PD
namespace PD
open PySem L2
open Evl (Ex)
section
variable {X : Cx} {M : Mk0} {a b c e o tg iter elt : Expr} {es rest ifs : List Expr} {fa fb fc fe : FE} {fl : FL} {ft fu : FT} {fn : FN} {fs fs' : FS} {fi : FI} {g : FG} {st : Stmt} {sts body : List Stmt} {pos : Pos}
theorem compD_mono (mg : ∀ d ρ k k', (∀ ρ', k ρ' → k' ρ') → g d ρ k → g d ρ k') (mt : ∀ ρ k k', (∀ d ρ', k d ρ' → k' d ρ') → ft ρ k → ft ρ k') (me : ∀ ρ k k', (∀ d ρ', k d ρ' → k' d ρ') → fe ρ k → fe ρ k') {vs : List Nat} :
    ∀ (ds acc : List D) (ρ : Rho) (k k' : List D → Rho → Prop), (∀ d ρ', k d ρ' → k' d ρ') → compD g ft fe vs ds acc ρ k → compD g ft fe vs ds acc ρ k'
  | [], acc, ρ, k, k', h, q => h _ _ q
  | d :: ds, acc, ρ, k, k', h, q => mg _ _ _ _ (fun ρ1 q => mt _ _ _ (fun t ρ2 q => by
    cases t with
    | true => exact me _ _ _ (fun y ρ3 q => compD_mono mg mt me ds _ _ _ _ h q) q
    | false => exact compD_mono mg mt me ds _ _ _ _ h q) q) q
/-- all lists of one's own aside meanwhile; at most so many items -/
def fnComp (fi : FI) (g : FG) (ft : FT) (fe : FE) (vs : List Nat) : FN := fun ρ k => fi ρ fun ds ρ1 => ds.length ≤ 1000000 ∧ compD g ft fe vs ds [] ⟨ρ1.sl.map dropOwn, ρ1.n⟩ fun out ρ2 => k out ⟨ρ1.sl, ρ2.n⟩
theorem fnComp_mono {vs : List Nat} (mi : ∀ ρ k k', (∀ d ρ', k d ρ' → k' d ρ') → fi ρ k → fi ρ k') (mg : ∀ d ρ k k', (∀ ρ', k ρ' → k' ρ') → g d ρ k → g d ρ k') (mt : ∀ ρ k k', (∀ d ρ', k d ρ' → k' d ρ') → ft ρ k → ft ρ k') (me : ∀ ρ k k', (∀ d ρ', k d ρ' → k' d ρ') → fe ρ k → fe ρ k')
    (ρ : Rho) (k k' : List D → Rho → Prop) (h : ∀ d ρ', k d ρ' → k' d ρ') (q : fnComp fi g ft fe vs ρ k) : fnComp fi g ft fe vs ρ k' :=
  mi _ _ _ (fun ds ρ1 q => ⟨q.1, compD_mono mg mt me ds _ _ _ _ (fun out ρ2 q => h _ _ q) q.2⟩) q
theorem dComp {vs : List Nat} (mi : ∀ ρ k k', (∀ d ρ', k d ρ' → k' d ρ') → fi ρ k → fi ρ k') (mg : ∀ d ρ k k', (∀ ρ', k ρ' → k' ρ') → g d ρ k → g d ρ k') (mt : ∀ ρ k k', (∀ d ρ', k d ρ' → k' d ρ') → ft ρ k → ft ρ k') (me : ∀ ρ k k', (∀ d ρ', k d ρ' → k' d ρ') → fe ρ k → fe ρ k')
    (hgv : ∀ ρ d k, g d ρ k → True) (σ : L2.St) (H : Hp) (Q : VK) (h : DNw X.k0 M (fnComp fi g ft fe vs) σ H Q) : tLc (DI X.k0 M fi) (DGt X.k0 M vs g) (DT X.k0 M ft) (DE X.k0 M fe) vs σ H Q := by
  obtain ⟨P, F, L, ρ, r, k⟩ := h
  refine ⟨P, F, L, ρ, r, mi _ _ _ (fun ds ρ1 q J L1 H1 e1 r1 w => ?_) k⟩
  obtain ⟨hsz, q⟩ := q
  intro A hA
  -- the new list is held; the def's own lists are aside
  have r2 := r1.aside
  have r3 := r2.pinNew (o := HO.lst []) hA
  have e3 : Ex (hide L1 H1) (hide (A :: L1) (upd H1 A (.lst []))) := (new_pin (vs := []) (ds := []) r2 .nil hA).1
  refine ⟨fun i m H' => m = ds.length - i ∧ i ≤ ds.length ∧ ∃ L' n' acc us, Ex (hide L1 H1) (hide L' H') ∧ R X.k0 M P (upd (keepF ρ1 σ F H1) A (.lst us)) L' ⟨ρ1.sl.map dropOwn, n'⟩ σ H' ∧ RpAll X.k0 (hide L' H') us acc ∧ acc.length ≤ i ∧
      compD g ft fe vs (ds.drop i) acc ⟨ρ1.sl.map dropOwn, n'⟩ (fun out ρ2 => ∀ p vs L' H', Ex (hide L H) (hide L' H') → F p = none → R X.k0 M P (upd F p (.lst vs)) L' ⟨ρ1.sl, ρ2.n⟩ σ H' → RpAll X.k0 (hide L' H') vs out → Q (.ref p) H'),
    ⟨ds.length, by simp, Nat.zero_le _, A :: L1, ρ1.n, [], [], e3, r3, .nil, Nat.le_refl _, by simpa using q⟩, ?_⟩
  rintro i m H' ⟨rfl, hi, L', n', acc, us, e', r', d', ha, q'⟩
  have ww := w L' H' e' r'.tr i
  by_cases hlt : i < ds.length
  · have hd : ds[i]? = some ds[i] := List.getElem?_eq_getElem hlt
    obtain ⟨go, yl⟩ := ww.1 _ hd
    rw [List.drop_eq_getElem_cons hlt] at q'
    refine .inr ⟨go, fun H2 => ∃ L2 n2 acc2 us2, Ex (hide L1 H1) (hide L2 H2) ∧ R X.k0 M P (upd (keepF ρ1 σ F H1) A (.lst us2)) L2 ⟨ρ1.sl.map dropOwn, n2⟩ σ H2 ∧ RpAll X.k0 (hide L2 H2) us2 acc2 ∧ acc2.length ≤ i + 1 ∧
      compD g ft fe vs (ds.drop (i + 1)) acc2 ⟨ρ1.sl.map dropOwn, n2⟩ (fun out ρ2 => ∀ p vs L' H', Ex (hide L H) (hide L' H') → F p = none → R X.k0 M P (upd F p (.lst vs)) L' ⟨ρ1.sl, ρ2.n⟩ σ H' → RpAll X.k0 (hide L' H') vs out → Q (.ref p) H'),
      fun H2 ⟨L2, n2, acc2, us2, e2, r2', d2, a2, q2⟩ => ⟨ds.length - (i + 1), by omega, rfl, hlt, L2, n2, acc2, us2, e2, r2', d2, a2, q2⟩, fun x H2 y => ?_⟩
    obtain ⟨e2, d2⟩ := yl x H2 y
    have r4 := (r'.ex e2).wipe vs
    refine ⟨P, _, L', _, ds[i], r4, d2, mg _ _ _ _ (fun ρ5 q5 σ5 L5 H5 e5 r5 o5 => ?_) q'⟩
    refine ⟨by rw [wipe_only o5]; exact wipe_only (wipe_self vs σ), ?_⟩
    have e15 : Ex (hide L1 H1) (hide L5 H5) := (e'.trans (hide_ex e2)).trans e5
    have e'5 : Ex (hide L' H') (hide L5 H5) := (hide_ex e2).trans e5
    -- the state behind a part of the block, back in the comprehension's frame
    have back : ∀ {ρx σx Lx Hx}, Ex (hide L5 H5) (hide Lx Hx) → R X.k0 M P (upd (keepF ρ1 σ F H1) A (.lst us)) Lx ρx σx Hx → R X.k0 M P (upd (keepF ρ1 σ F H1) A (.lst us)) Lx ⟨ρ1.sl.map dropOwn, ρx.n⟩ σ Hx := fun {ρx σx Lx Hx} ex rx => by
      have e6 := (e'5.trans ex)
      refine ⟨r'.len, fun j s u h1 h2 => ?_, rx.fr, rx.tr, fun a b xs ys l _ h => absurd h (bare_drop ρ1.sl n' a xs), fun j xs l h => absurd h (bare_drop ρ1.sl n' j xs), fun p hp => ?_, rx.tb⟩
      · have q := r'.sl j s u h1 h2
        cases s with
        | no => trivial
        | d z =>
          obtain ⟨v, g3, g4⟩ := q
          exact ⟨v, g3, dp_ex e6 _ _ g4⟩
        | own xs => exact absurd h1 (bare_drop ρ1.sl n' j xs)
        | st => exact q
        | raw v => exact q
        | exc a d fl => exact ⟨q.1, q.2.up e6⟩
      · obtain ⟨B, b1, b2, b3⟩ := rx.m p hp
        exact ⟨B, b1, b2, fun j xs l h => absurd h (bare_drop ρ1.sl n' j xs)⟩
    refine ⟨P, _, L5, ρ5, r5, mt _ _ _ (fun t ρ6 q6 L6 H6 e6 r6 => ?_) q5⟩
    cases t with
    | true =>
      refine ⟨P, _, L6, ρ6, r6, me _ _ _ (fun z ρ7 q7 v L7 H7 e7 r7 d7 => ?_) q6⟩
      have pin := r7.pinned
      have d8 : RpAll X.k0 (hide L7 H7) us acc := dpa_ex (e'5.trans (e6.trans e7)) _ _ d'
      refine ⟨us, pin.1, by rw [dpa_len d8, sizeLine_eq]; omega, L7, ρ7.n, acc ++ [z], us ++ [v], ?_, ?_, ?_, by rw [List.length_append, List.length_singleton]; omega, q7⟩
      · rw [hide_repin pin.2]
        exact (e15.trans e6).trans e7
      · exact (back (e6.trans e7) r7).repin
      · rw [hide_repin pin.2]
        exact dpa_app d8 (.cons d7 .nil)
    | false =>
      exact ⟨L6, ρ6.n, acc, us, e15.trans e6, back e6 r6, dpa_ex (e'5.trans e6) _ _ d', by omega, q6⟩
  · have e : ds.length ≤ i := by omega
    rw [List.drop_eq_nil_of_le e] at q'
    refine .inl ⟨ww.2 e, ?_⟩
    -- give it out
    have hFA : F A = none := by
      cases z : F A with
      | none => rfl
      | some o =>
        have := (r1.fr A o z).1
        rw [hA] at this
        cases this
    have hno : ¬ Own ρ1 σ A := fun ⟨j, xs, h1, h2⟩ => by
      obtain ⟨l, vs', g1, g2, g3, _⟩ := r1.getOwn h1
      rw [h2] at g1
      cases g1
      rw [hA] at g3
      cases g3
    have kF : upd (keepF ρ1 σ F H1) A (.lst us) = keepF ρ1 σ (upd F A (.lst us)) H1 := by
      funext z
      by_cases hz : z = A
      · subst hz
        rw [upd_same, keepF_not hno, upd_same]
      · rw [upd_ne hz]
        by_cases ho : Own ρ1 σ z
        · rw [keepF_own ho, keepF_own ho]
        · rw [keepF_not ho, keepF_not ho, upd_ne hz]
    refine q' A us L' H' (e1.trans e') hFA ?_ d'
    -- R.back with A held
    refine ⟨r1.len, fun j s u h1 h2 => ?_, fun z u h => ?_, r'.tr, r1.apart, fun j xs l h1 h2 => ?_, fun p hp => ?_, r'.tb.move (Ex.refl _) fun P' ps k1 k2 k3 => ⟨?_, k2, k3⟩⟩
    · have q := r1.sl j s u h1 h2
      cases s with
      | no => trivial
      | d x =>
        obtain ⟨v, g3, g4⟩ := q
        exact ⟨v, g3, dp_ex e' _ _ g4⟩
      | own xs =>
        obtain ⟨l, vs', g3, g4, g5, g6⟩ := q
        have ho : Own ρ1 σ l := ⟨j, xs, h1, by rw [h2, g3]⟩
        have hf := r'.fr l vs' (by rw [kF, keepF_own ho]; exact g5)
        exact ⟨l, vs', g3, hf.2, hf.1, g6.up e'⟩
      | st => exact q
      | raw v => exact q
      | exc a d fl => exact ⟨q.1, q.2.up e'⟩
    · by_cases hz : z = A
      · subst hz
        rw [upd_same] at h
        cases h
        exact r'.pinned
      · rw [upd_ne hz] at h
        have hno2 : ¬ Own ρ1 σ z := fun ⟨j, xs, h1, h2⟩ => by
          have := r1.ownF j xs z h1 h2
          rw [h] at this
          cases this
        exact r'.fr z u (by rw [upd_ne hz, keepF_not hno2]; exact h)
    · have : l ≠ A := fun z => hno ⟨j, xs, h1, by rw [h2, z]⟩
      rw [upd_ne this]
      exact r1.ownF j xs l h1 h2
    · obtain ⟨B, b1, b2, _⟩ := r'.m p hp
      have hB : ∀ z ∈ B, ¬ Own ρ1 σ z := fun z hz ho => by
        have q := (b2 z hz).2
        rw [kF, keepF_own ho] at q
        obtain ⟨j, xs, h1, h2⟩ := ho
        obtain ⟨l, vs', g6, _, g8, _⟩ := r1.getOwn h1
        rw [h2] at g6
        cases g6
        rw [g8] at q
        cases q
      refine ⟨B, b1, fun z hz => ⟨(b2 z hz).1, ?_⟩, fun j xs l h1 h2 hl => hB l hl ⟨j, xs, h1, h2⟩⟩
      have q := (b2 z hz).2
      rw [kF, keepF_not (hB z hz)] at q
      exact q
    · have hz : P' ≠ A := fun z => by rw [z, upd_same] at k1; cases k1
      rw [upd_ne hz] at k1 ⊢
      cases z : F P' with
      | none => rfl
      | some o =>
        have hno2 : ¬ Own ρ1 σ P' := fun ⟨j, xs, h1, h2⟩ => by
          have := r1.ownF j xs P' h1 h2
          rw [z] at this
          cases this
        rw [keepF_not hno2, z] at k1
        cases k1
/-- the block of a comprehension -/
abbrev Blk (X : Cx) (scope : Scope) (s : Shared) (H : Hp) (C : Addr) (cl : List (Str × Addr)) (fp : List Addr) : Cx := X.blk s H scope (compEnvC scope cl C X.env) fp
structure PTn (X : Cx) (M : Mk0) (ifs : List Expr) (f : FT) : Prop where
  pt : PTs X ifs (DT X.k0 M f)
  mono : ∀ ρ k k', (∀ d ρ', k d ρ' → k' d ρ') → f ρ k → f ρ k'
theorem ptn_nil : PTn X M [] ftYes := ⟨PTs.wk pts_nil fun σ H Q ⟨P, F, L, ρ, r, k⟩ => k L H (Ex.refl _) r, fun ρ k k' h q => h _ _ q⟩
theorem ptn_one (h : PDT X M c ft) : PTn X M [c] ft := ⟨pts_one h.pt, h.mono⟩
theorem pn_lc {scope : Scope} {own : List (Str × Nat)} {vs : List Nat} (hc : X.calm = true) (hN : X.N.Nodup) (hi : PDI X M tg iter fi) (ok : BlkOk X.N X.env.scope scope own) (hv : own.map (·.2) = vs)
    (hg : ∀ s H C cl fp, PG1 (Blk X scope s H C cl fp) M tg vs g) (ht : ∀ s H C cl fp, PTn (Blk X scope s H C cl fp) M ifs ft) (he : ∀ s H C cl fp, PD (Blk X scope s H C cl fp) M elt fe)
    (w0 : Shared) (hs : ∀ x, foldedSetIterable iter X.env x = pure x := by intro _; rfl) : PN X M (.ListComp elt [⟨tg, iter, ifs, 0⟩] scope pos) (fnComp fi g ft fe vs) := by
  subst hv
  have h0 := hg w0 (fun _ => none) 0 [] []
  have t0 := ht w0 (fun _ => none) 0 [] []
  have e0 := he w0 (fun _ => none) 0 [] []
  refine ⟨PE.wk (pe_lc (te := DE X.k0 M fe) (tt := DT X.k0 M ft) (g := DGt X.k0 M (own.map (·.2)) g) hc hN hi.pi ok (fun s H C cl fp => (hg s H C cl fp).pg) (fun s H C cl fp => (ht s H C cl fp).pt) (fun s H C cl fp => (he s H C cl fp).pe) hs) fun σ H Q h => ?_, fnComp_mono hi.mono h0.mono t0.mono e0.mono⟩
  exact dComp hi.mono h0.mono t0.mono e0.mono (fun _ _ _ _ => trivial) σ H Q h
/-- y = [..] on one line: as data -/
theorem pds_setLc {i : Nat} {y : Str} {py spos : Pos} {scope : Scope} {own : List (Str × Nat)} {vs : List Nat} (hc : X.calm = true) (hN : X.N.Nodup) (hy : X.N[i]? = some y) (hyl : X.env.scope.names.lookup y = some .local)
    (hsw : swapsWith (.ListComp elt [⟨tg, iter, ifs, 0⟩] scope pos) (some (.Name y py)) spos.line X.env = pure true) (hi : PDI X M tg iter fi) (ok : BlkOk X.N X.env.scope scope own) (hv : own.map (·.2) = vs)
    (hg : ∀ s H C cl fp, PG1 (Blk X scope s H C cl fp) M tg vs g) (ht : ∀ s H C cl fp, PTn (Blk X scope s H C cl fp) M ifs ft) (he : ∀ s H C cl fp, PD (Blk X scope s H C cl fp) M elt fe)
    (w0 : Shared) (hs : ∀ x, foldedSetIterable iter X.env x = pure x := by intro _; rfl) :
    PDS X M (.Assign [.Name y py] (.ListComp elt [⟨tg, iter, ifs, 0⟩] scope pos) spos) (fsAsg (fOfN (fnComp fi g ft fe vs)) (fgN i)) := by
  subst hv
  have h0 := hg w0 (fun _ => none) 0 [] []
  have t0 := ht w0 (fun _ => none) 0 [] []
  have e0 := he w0 (fun _ => none) 0 [] []
  have mN := fnComp_mono (vs := own.map (·.2)) hi.mono h0.mono t0.mono e0.mono
  refine ⟨PS.wk (ps_setLc (te := DE X.k0 M fe) (tt := DT X.k0 M ft) (g := DGt X.k0 M (own.map (·.2)) g) hc hN hy hyl hsw hi.pi ok (fun s H C cl fp => (hg s H C cl fp).pg) (fun s H C cl fp => (ht s H C cl fp).pt) (fun s H C cl fp => (he s H C cl fp).pe) hs) fun D' σ H h => ?_,
    fsAsg_mono (fun ρ k k' h q => mN _ _ _ (fun ds ρ1 q => h _ _ q) q) fun d ρ k k' h q => h _ q⟩
  obtain ⟨P, F, L, ρ, r, k⟩ := h
  refine dComp hi.mono h0.mono t0.mono e0.mono (fun _ _ _ _ => trivial) σ H _ ?_
  refine dOfN mN σ H _ ⟨P, F, L, ρ, r, mN _ _ _ (fun ds ρ1 q v L1 H1 e1 r1 d1 => ?_) k⟩
  exact q (σ.set i (some v)) L1 H1 e1 (r1.setD i (.d (.list ds)) (some v) ⟨v, rfl, d1⟩ fun xs z => nomatch z)
def fsPar2 (i j : Nat) (fl : FL) : FS := fun ρ P => fl ρ fun ds ρ1 => ∃ x y, ds = [x, y] ∧ P.nx ((ρ1.set i (.d x)).set j (.d y))
def fsPar3 (i j l : Nat) (fl : FL) : FS := fun ρ P => fl ρ fun ds ρ1 => ∃ x y z, ds = [x, y, z] ∧ P.nx (((ρ1.set i (.d x)).set j (.d y)).set l (.d z))
end
end PD
namespace PD
open PySem L2 PyProof.Rows PySem.Spec
open Evl (Ex)
structure FnG (P : Program) (w : World) (K : PySem.W.Frag) (mg : Str → Option Value) (base : Heap) (CX : CXT) (k : Nat) (f : Addr) (fd : FuncData) (ps : List Str) (sp : Sp) : Prop where
  len : ∀ vs H Q E, sp vs H Q E → vs.length = ps.length
  go : ∀ (A : Around) (outer : List Env) (s : Shared) (H : Hp) (args : Args) (us : List Value) (vs : List V) (Q : VK) (E : XK), A.guards = some [] → Room k A → Env0 P w K mg base A outer s H → BindsTo s fd args (ps.zip us) → Vals vs us → sp vs H Q E →
    codeAny (model P w) A (.call (.ref f) args) (CR CX outer P w H s Q E) s
section
variable {P : Program} {w : World} {K : PySem.W.Frag} {mg : Str → Option Value} {base : Heap} {CX : CXT} {j k : Nat} {f : Addr} {fd : FuncData} {ps N : List Str} {sp sp' : Sp}
theorem FnG.mono (G : FnG P w K mg base CX j f fd ps sp) (h : j ≤ k) : FnG P w K mg base CX k f fd ps sp :=
  ⟨G.len, fun A outer s H args us vs Q E hg hr => G.go A outer s H args us vs Q E hg (hr.mono h)⟩
theorem FnG.imp (G : FnG P w K mg base CX k f fd ps sp) (h : ∀ vs H Q E, sp' vs H Q E → sp vs H Q E) : FnG P w K mg base CX k f fd ps sp' :=
  ⟨fun vs H Q E q => G.len vs H Q E (h _ _ _ _ q), fun A outer s H args us vs Q E hg hr he hb hv hs => G.go A outer s H args us vs Q E hg hr he hb hv (h _ _ _ _ hs)⟩
/-- a def of the text, by its body -/
theorem fnG_of {x qual : Str} {st : Stmt} (F : Fun K x qual st f fd) (S : FnScope N ps (defScope st)) (len : ∀ vs H Q E, sp vs H Q E → vs.length = ps.length)
    (body : ∀ (cdv : Value) (A : Around) (outer : List Env) (s : Shared) (H : Hp) (vs : List V) (Q : VK) (E : XK), A.guards = some [] → Room k (A.deeper (envOfC qual (defScope st) s.heap.objs.size f cdv)) → sp vs H Q E →
      ∃ t, PSs (cxOf CX P w K mg base N qual (defScope st) f cdv A outer s H E) (defBody st) t ∧ t { nx := fun _ H' => Q .non H', rt := Q } (start N vs) H) : FnG P w K mg base CX (k + 1) f fd ps sp := by
  obtain ⟨oc, od, kV, doc, pm, an, cdv, ct, osl, efd, lk, hcd⟩ := F.ex
  subst efd
  refine ⟨len, fun A outer s H args us vs Q E hgd hr e0 hbi hva hsp => ?_⟩
  have kin : K.In s.heap := e0.mod.kin.keeps fun b o e => (e0.bs b o e).1
  have nolim : s.heap.NoLimit := e0.mod.nolimit.keeps fun b o e => (e0.bs b o e).1
  have kinds : ∀ y ∈ ps.zip us, (defScope st).names.lookup y.1 = some .local ∨ ((defScope st).names.lookup y.1 = some .cell ∧ ((cellsFrom (s.heap.objs.size + 1) (defScope st).names []).lookup y.1).isSome = true) := by
    intro y hy
    obtain ⟨nm, vl⟩ := y
    rcases S.par nm (List.of_mem_zip hy).1 with loc | cel
    · exact .inl loc
    · exact .inr ⟨cel, PySem.W.cellsFrom_some _ _ _ (.inl cel)⟩
  refine codeAny_call_function hr.depth (kin _ _ lk) rfl S.co S.gen rfl (PySem.W.codeRec_of kin hcd) (hbi _ _ _ _ ?_)
  refine wpAny_newFunctionEnv_cells S.kind kinds fun env henv sA xA => ?_
  subst henv
  refine ⟨nolim.keeps xA.toInCall.keep, codeAny_func ?_⟩
  obtain ⟨t, ht, hq⟩ := body cdv A outer s H vs Q E hgd (hr.deeper _) hsp
  have IA : Inv (cxOf CX P w K mg base N qual (defScope st) f cdv A outer s H E) [] (start N vs) H sA := inv_start S hr.hd e0 (len _ _ _ _ hsp) hva xA
  refine wpAny_mono (ht.run [] sA (start N vs) H _ IA hq) (fun fl sB hs => ?_) fun e sB hs => hs
  cases fl with
  | next =>
    obtain ⟨σB, HB, JB, qB⟩ := hs
    exact ⟨V.non, HB, JB.os, JB.bare, JB.base, JB.hok, rfl, qB⟩
  | ret u =>
    obtain ⟨vB, σB, HB, JB, rB, qB⟩ := hs
    exact ⟨vB, HB, JB.os, JB.bare, JB.base, JB.hok, rB, qB⟩
  | brk =>
    obtain ⟨_, _, _, qB⟩ := hs
    exact qB.elim
  | cont =>
    obtain ⟨_, _, _, qB⟩ := hs
    exact qB.elim
end
section
variable {X : Cx} {CX : CXT} {k : Nat} {f : Addr} {fd : FuncData} {ps : List Str} {sp : Sp} {E : XK} {x : Str} {p pos : Pos} {e : Expr} {es : List Expr} {t : TA}
theorem run_fnG {pins : List (Addr × Obj)} {σ : L2.St} {H : Hp} {s : Shared} {Q : VK} {us : List Value} {vs : List V} (G : FnG X.prog X.w X.K X.mg X.base CX k f fd ps sp) (hgd : X.A.guards = some []) (hr : Room k X.A) (hb : Binds X.K fd ps []) (hx : Passes CX X E)
    (I : Inv X pins σ H s) (r : Vals vs us) (h : sp vs H Q E) : wpAny (model X.prog X.w) X.A (call (.ref f) us) (EP X pins σ Q) X.xe s := by
  have hl : (us ++ []).length = ps.length := by rw [List.append_nil, ← r.length]; exact G.len _ _ _ _ h
  have bi := hb s us I.kIn hl
  rw [List.append_nil] at bi
  refine wpAny_call (codeAny_mono (G.go X.A X.stack s H ⟨us, []⟩ us vs Q E hgd hr I.env0 bi r h) fun res sB hq => ?_)
  cases res with
  | error ex => exact hx pins σ H s ex sB I hq
  | ok fl =>
    cases fl with
    | ret u => exact I.after hq
    | next => exact hq.elim
    | brk => exact hq.elim
    | cont => exact hq.elim
def tCallG (sp : Sp) (E : XK) (t : TA) : TE := fun σ H Q => t σ H fun vs H1 => sp vs H1 Q E
theorem pe_callG (G : FnG X.prog X.w X.K X.mg X.base CX k f fd ps sp) (hgd : X.A.guards = some []) (hr : Room k X.A) (hg : Gl X x) (hm : X.mg x = some (.ref f)) (hk : PySem.W.keepIn X.K (.ref f) = true) (hb : Binds X.K fd ps []) (hx : Passes CX X E)
    (ha : PA X (e :: es) t) (hdb : (x == ("__debug__" : Str)) = false := by decide) (he : starEach (e :: es) X.env = (false, eval e X.env) :: starEach es X.env := by rfl) (hpl : (backTo pos (starEach es X.env)).any (·.1) = false := by rfl) :
    PE X (.Call (.Name x p) (e :: es) [] pos) (tCallG sp E t) := by
  constructor
  intro pins s σ H Q I hw
  refine wpAny_Call_Name_kw (ld_glob I hg hm ?_ hdb)
  exact PySem.W.callWith_K (h₀ := X.base) I.ok.mod.kin hk (thn (ha.run pos pins s σ H _ I hw) fun us sA ⟨vs, HA, IA, rA, qA⟩ => ⟨IA.kIn, run_fnG G hgd hr hb hx IA rA qA⟩) he hpl
end
/-- nothing is raised -/
theorem passF {X : Cx} : Passes (L2.CX X.prog X.w) X (fun _ _ _ => False) := fun _ _ _ _ _ _ _ ⟨_, _, _, _, _, _, _, _, _, _, _, _, z⟩ => z.elim
def spD (K : Fr0) (M : Mk0) (n : Nat) (W : FE) : Sp := fun vs H Q _ => ∃ P F L ρ, R K M P F L ρ (vs.map some) H ∧ Bare ρ ∧ ρ.sl.length = n ∧ W ρ (KV' K M P F L (vs.map some) H Q)
theorem spD_len {K : Fr0} {M : Mk0} {n : Nat} {W : FE} (vs : List V) (H : Hp) (Q : VK) (E : XK) (h : spD K M n W vs H Q E) : vs.length = n := by
  obtain ⟨P, F, L, ρ, r, _, hl, _⟩ := h
  have := r.len
  rw [List.length_map] at this
  omega
/-- only arguments are looked at when a def begins, only its value when it ends -/
def fBody (nN : Nat) (fs : FS) : FE := fun ρ k => fs ⟨ρ.sl ++ List.replicate (nN - ρ.sl.length) .no, ρ.n⟩ { nx := fun ρ' => k .none ⟨ρ.sl, ρ'.n⟩, rt := fun d ρ' => k d ⟨ρ.sl, ρ'.n⟩ }
section
variable {K : Fr0} {M : Mk0} {P : Option Addr} {F : Hp} {L L' : List Addr} {ρ ρ' : Rho} {σ σ' : L2.St} {H H' : Hp}
theorem R.start {vs : List V} (r : R K M P F L ρ (vs.map some) H) (hb : Bare ρ) (N : List Str) : R K M P F L ⟨ρ.sl ++ List.replicate (N.length - ρ.sl.length) .no, ρ.n⟩ (start N vs) H := by
  have hl : vs.length = ρ.sl.length := by simpa using r.len
  have bare : Bare ⟨ρ.sl ++ List.replicate (N.length - ρ.sl.length) .no, ρ.n⟩ := fun i xs h => by
    have h : (ρ.sl ++ List.replicate (N.length - ρ.sl.length) .no)[i]? = some (.own xs) := h
    by_cases hi : i < ρ.sl.length
    · rw [List.getElem?_append_left hi] at h
      exact hb i xs h
    · rw [List.getElem?_append_right (by omega), List.getElem?_replicate] at h
      split at h <;> cases h
  refine ⟨?_, fun i s o h1 h2 => ?_, r.fr, r.tr, fun a b xs ys l _ h => absurd h (bare a xs), fun i xs l h => absurd h (bare i xs), fun p hp => ?_, r.tb⟩
  · unfold L2.start
    simp [hl]
  · have h1 : (ρ.sl ++ List.replicate (N.length - ρ.sl.length) .no)[i]? = some s := h1
    unfold L2.start at h2
    by_cases hi : i < ρ.sl.length
    · rw [List.getElem?_append_left hi] at h1
      rw [List.getElem?_append_left (by simpa [hl] using hi)] at h2
      exact r.sl i s o h1 h2
    · rw [List.getElem?_append_right (by omega), List.getElem?_replicate] at h1
      split at h1
      · cases h1
        trivial
      · cases h1
  · obtain ⟨A, a1, a2, _⟩ := r.m p hp
    exact ⟨A, a1, a2, fun i xs l h => absurd h (bare i xs)⟩
/-- from a later state of another frame, with the same wishes -/
theorem R.swap (r : R K M P F L ρ σ H) (hb : Bare ρ) (r' : R K M P F L' ρ' σ' H') (e : Ex (hide L H) (hide L' H')) : R K M P F L' ⟨ρ.sl, ρ'.n⟩ σ H' := by
  refine ⟨r.len, fun i s o h1 h2 => ?_, r'.fr, r'.tr, fun a b xs ys l _ h => absurd h (hb a xs), fun i xs l h => absurd h (hb i xs), fun p hp => ?_, r'.tb⟩
  · have q := r.sl i s o h1 h2
    cases s with
    | no => trivial
    | d x =>
      obtain ⟨v, g1, g2⟩ := q
      exact ⟨v, g1, dp_ex e _ _ g2⟩
    | own xs => exact absurd h1 (hb i xs)
    | st => exact q
    | raw v => exact q
    | exc a d fl => exact ⟨q.1, q.2.up e⟩
  · obtain ⟨A, a1, a2, _⟩ := r'.m p hp
    exact ⟨A, a1, a2, fun i xs l h => absurd h (hb i xs)⟩
end
section
variable {P : Program} {w : World} {K : PySem.W.Frag} {mg : Str → Option Value} {base : Heap} {k : Nat} {f : Addr} {fd : FuncData} {ps N : List Str} {M : Mk0} {fs : FS}
theorem fnD {x qual : Str} {st : Stmt} (F : Fun K x qual st f fd) (S : FnScope N ps (defScope st))
    (body : ∀ (cdv : Value) (A : Around) (outer : List Env) (s : Shared) (H : Hp) (E : XK), A.guards = some [] → Room k (A.deeper (envOfC qual (defScope st) s.heap.objs.size f cdv)) →
      PDs (cxOf (L2.CX P w) P w K mg base N qual (defScope st) f cdv A outer s H E).nox M (defBody st) fs) : FnG P w K mg base (L2.CX P w) (k + 1) f fd ps (spD ⟨K, w, P⟩ M ps.length (fBody N.length fs)) := by
  refine fnG_of F S (fun vs H Q E h => spD_len vs H Q E h) fun cdv A outer s H vs Q E hg hr ⟨P', F', L, ρ, r, hb, hl, hw⟩ => ?_
  have B := body cdv A outer s H E hg hr
  refine ⟨_, B.ps.nox, P', F', L, _, r.start hb N, B.mono _ _ _ ⟨fun ρ' q σ' L' H' e' r' => ?_, fun d ρ' q v σ' L' H' e' r' d' => ?_, fun _ (q : False) => q.elim, fun _ (q : False) => q.elim⟩ hw⟩
  · exact q .non L' H' e' (r.swap hb r' e') .non
  · exact q v L' H' e' (r.swap hb r' e') d'
end
section
variable {X : Cx} {M : Mk0} {k : Nat} {f : Addr} {fd : FuncData} {ps : List Str} {n : Nat} {W : FE} {x : Str} {p pos : Pos} {e : Expr} {es : List Expr} {fa : FA} {fl : FL}
/-- arguments: all data -/
def faD (fl : FL) : FA := fun ρ k => fl ρ fun ds ρ1 => k (ds.map .d) ρ1
theorem slots_d {K : Fr0} {P : Option Addr} {L : List Addr} {H : Hp} : ∀ {vs : List V} {ds : List D}, RpAll K (hide L H) vs ds → ∀ (i : Nat) (s : Sl) (v : V), (ds.map Sl.d)[i]? = some s → vs[i]? = some v → SlOk K P L H s (some v) := by
  intro vs ds h i s v h1 h2
  rw [List.getElem?_map] at h1
  obtain ⟨d, h3, h4⟩ := dpa_get h h2
  rw [h3] at h1
  cases h1
  exact ⟨v, rfl, h4⟩
theorem map_d_bare (ds : List D) : ∀ (i : Nat) (xs : Ow), (ds.map Sl.d)[i]? ≠ some (.own xs) := fun i xs h => by
  rw [List.getElem?_map] at h
  cases e : ds[i]? with
  | none => rw [e] at h; cases h
  | some d => rw [e] at h; cases h
theorem pda_d (h : PDL X M es fl) : PDA X M es (faD fl) := by
  refine ⟨PA.wk h.pa fun σ H Q ⟨P, F, L, ρ, r, q⟩ => ?_, fun ρ k k' g q => h.mono _ _ _ (fun ds ρ1 q => g _ _ q) q⟩
  refine ⟨P, F, L, ρ, r, h.mono _ _ _ (fun ds ρ1 q vs L1 H1 e1 r1 d1 => ?_) q⟩
  exact q vs L1 H1 e1 r1 (by simp [dpa_len d1]) (slots_d d1) (map_d_bare ds)
/-- .. the first one the object of the draws -/
def faSt (i : Nat) (fl : FL) : FA := fun ρ k => ρ.sl[i]? = some .st ∧ fl ρ fun ds ρ1 => k (.st :: ds.map .d) ρ1
theorem pda_st {i : Nat} {y : Str} {py : Pos} (hv : PE X (.Name y py) (tVar i)) (h : PDL X M es fl) (hs : starEach (.Name y py :: es) X.env = (false, eval (.Name y py) X.env) :: starEach es X.env := by rfl) : PDA X M (.Name y py :: es) (faSt i fl) := by
  refine ⟨PA.wk (pa_cons hv h.pa hs) fun σ H Q ⟨P, F, L, ρ, r, h0, q⟩ => ?_, fun ρ k k' g q => ⟨q.1, h.mono _ _ _ (fun ds ρ1 q => g _ _ q) q.2⟩⟩
  obtain ⟨a, hP, hσ⟩ := r.getSt h0
  refine ⟨.ref a, hσ, P, F, L, ρ, r, h.mono _ _ _ (fun ds ρ1 q vs L1 H1 e1 r1 d1 => ?_) q⟩
  refine q (.ref a :: vs) L1 H1 e1 r1 (by simp [dpa_len d1]) (fun j s v g1 g2 => ?_) fun j xs g => ?_
  · cases j with
    | zero =>
      simp at g1 g2
      subst g1 g2
      exact ⟨a, hP, rfl⟩
    | succ j => exact slots_d d1 j s v (by simpa using g1) (by simpa using g2)
  · cases j with
    | zero => simp at g
    | succ j => exact map_d_bare ds j xs (by simpa using g)
/-- a call: what the def makes of its arguments -/
def fCall (n : Nat) (W : FE) (fa : FA) : FE := fun ρ k => fa ρ fun ss ρ1 => ss.length = n ∧ W ⟨ss, ρ1.n⟩ fun d ρ2 => k d ⟨ρ1.sl, ρ2.n⟩
theorem pd_call (mW : ∀ ρ k k', (∀ d ρ', k d ρ' → k' d ρ') → W ρ k → W ρ k') (G : FnG X.prog X.w X.K X.mg X.base (L2.CX X.prog X.w) k f fd ps (spD X.k0 M n W)) (hgd : X.A.guards = some []) (hr : Room k X.A) (hg : Gl X x) (hm : X.mg x = some (.ref f)) (hk : PySem.W.keepIn X.K (.ref f) = true) (hb : Binds X.K fd ps [])
    (ha : PDA X M (e :: es) fa) (hdb : (x == ("__debug__" : Str)) = false := by decide) (he : starEach (e :: es) X.env = (false, eval e X.env) :: starEach es X.env := by rfl) (hpl : (backTo pos (starEach es X.env)).any (·.1) = false := by rfl) :
    PD X M (.Call (.Name x p) (e :: es) [] pos) (fCall n W fa) := by
  refine ⟨PE.wk (pe_callG (E := E0) G hgd hr hg hm hk hb passF ha.pa hdb he hpl) fun σ H Q ⟨P, F, L, ρ, r, q⟩ => ?_, fun ρ k k' g q => ha.mono _ _ _ (fun ss ρ1 q => ⟨q.1, mW _ _ _ (fun d ρ2 q => g _ _ q) q.2⟩) q⟩
  refine ⟨P, F, L, ρ, r, ha.mono _ _ _ (fun ss ρ1 q vs L1 H1 e1 r1 hl hs hbare => ?_) q⟩
  have bare : Bare ⟨ss, ρ1.n⟩ := hbare
  have r2 : R X.k0 M P (keepF ρ1 σ F H1) L1 ⟨ss, ρ1.n⟩ (vs.map some) H1 := r1.frame bare rfl (by simpa using hl) fun i s o g1 g2 => by
    rw [List.getElem?_map] at g2
    cases ev : vs[i]? with
    | none => rw [ev] at g2; cases g2
    | some v =>
      rw [ev] at g2
      cases g2
      exact hs i s v g1 ev
  refine ⟨P, _, L1, _, r2, bare, q.1, mW _ _ _ (fun d ρ2 q2 v L2 H2 e2 r3 d2 => ?_) q.2⟩
  exact q2 v L2 H2 (e1.trans e2) (r1.back r3 e2) d2
end
end PD
namespace PD
open PySem L2 PyProof.Rows PySem.Spec
open Evl (Ex)
end PD
namespace PySem
open Sem (wp)
open AutoSeq1 (wpAny_loadPart')
/-- enumerate(t), t a tuple: as PyProof.EnumMake has it of a list -/
theorem pd_enum_newT (a : Addr) (items : Array Value) :
    Meets (Builtin.«enumerate.__new__» ⟨[.type "enumerate", .ref a], []⟩) (fun _ R s => s.heap.IsTuple a items ∧
      R (.ok (.ret (.ref (s.heap.push { cls := .type "tuple_iterator", data := .fields #[.ref a, .int 0 0] }).objs.size)))
        { s with heap := (s.heap.push { cls := .type "tuple_iterator", data := .fields #[.ref a, .int 0 0] }).push { cls := .type "enumerate", data := .fields #[.none, .bool false, .ref s.heap.objs.size, rawInt 0, .none, .none] } }) :=
  .of_wp fun prog w A R s h => by
    obtain ⟨hp, g, d, tk, os⟩ := s
    obtain ⟨hT, h⟩ := h
    have hsub := sub_enumerate
    have hT' : Heap.IsTuple (Shared.heap ⟨hp, g, d, tk, os⟩) a items := hT
    obtain ⟨⟨c, dct, dt, sl⟩, hl, hc, n, hd⟩ := hT
    replace hc : c = .type "tuple" := hc
    replace hd : dt = .seq items n := hd
    subst hc hd
    wp_walk using wpAny_loadPart' hl
    refine wpAny_stack_any fun st => wpAny_pure ?_
    split
    · rename_i c _ _ _ _ _
      cases (c == Value.type "enumerate")
      all_goals
        wp_walk using wpAny_loadPart' hl, wpAny_pyIter_tuple hT'
        exact ⟨_, rfl, h⟩
    · wp_walk using wpAny_loadPart' hl, wpAny_pyIter_tuple hT'
      exact ⟨_, rfl, h⟩
section
variable {prog : Program} {w : World} {A : Around} {E : Value → Shared → Prop} {s : Shared}
theorem pd_call_enumT {a : Addr} {items : Array Value} {Q : Value → Shared → Prop} (hT : s.heap.IsTuple a items)
    (h : ∀ h', IsEnum h' (s.heap.objs.size + 1) s.heap.objs.size 0 .none → h'.IsTupleIter s.heap.objs.size a 0 →
      (∀ b o, s.heap.get? b = some o → h'.get? b = some o) → Q (.ref (s.heap.objs.size + 1)) { s with heap := h' }) :
    wpAny (model prog w) A (call (.type "enumerate") [.ref a]) Q E s := by
  refine callType_new F.called_enumerate (by decide) (F.typeCall_enumerate_1 _) (F.newCall_enumerate_1 _) (fun obj => F.args_object_init_2 obj _) F.entry_enumerate_new (pd_enum_newT a items) ⟨hT, ?_⟩
  have hz : (s.heap.push { cls := .type "tuple_iterator", data := .fields #[.ref a, .int 0 0] }).objs.size = s.heap.objs.size + 1 := Heap.size_push ..
  have he := Heap.get?_push_size (s.heap.push { cls := .type "tuple_iterator", data := .fields #[.ref a, .int 0 0] }) (o := { cls := .type "enumerate", data := .fields #[.none, .bool false, .ref s.heap.objs.size, rawInt 0, .none, .none] }) rfl
  rw [hz] at he
  show _ ∧ _
  rw [hz]
  refine ⟨⟨_, he, rfl⟩, h _ he ⟨_, Heap.get?_push_of_some _ (Heap.get?_push_size _ rfl), rfl, rfl⟩ fun b o x => Heap.get?_push_of_some _ (Heap.get?_push_of_some _ x)⟩
end
end PySem
namespace PD
open PySem L2 PyProof.Rows PySem.Spec
open Evl (Ex)
/-- the tuple at a, each item in a new pair with its number -/
def IteT (K : PySem.W.Frag) (a : Addr) : It :=
  ⟨fun i H => ∃ (xs : List V) (x : V), SqT K H a xs ∧ xs[i]? = some x, fun i H v H' => ∃ T x, v = V.ref T ∧ H T = none ∧ H' = upd H T (.tup [.int (i : Nat), x]) ∧ ∀ xs, SqT K H a xs → xs[i]? = some x, fun i H => ∃ xs : List V, SqT K H a xs ∧ xs.length ≤ i⟩
theorem tup_inj {X : Cx} {pins : List (Addr × Obj)} {σ : L2.St} {H : Hp} {s : Shared} {a : Addr} {xs ys : List V} (I : Inv X pins σ H s) (h : SqT X.K H a xs) (h' : SqT X.K H a ys) : xs = ys := by
  obtain ⟨us, r, ⟨o, ho, _, n, hd⟩, _⟩ := I.tuple h
  obtain ⟨ws, r', ⟨o', ho', _, n', hd'⟩, _⟩ := I.tuple h'
  rw [ho] at ho'
  cases ho'
  rw [hd] at hd'
  injection hd' with d1 _
  have e : us = ws := by simpa using congrArg Array.toList d1
  subst e
  exact r.inj r'
theorem turn_enumT {P : Program} {w : World} {K : PySem.W.Frag} {elts : List Expr} {kk : Nat} {tpos : Pos} (a e it : Addr) (hae : a ≠ it) :
    Turn P w K (.Tuple elts kk tpos) (IteT K a) [e, it] e (fun i h => (∃ old, IsEnum h e it ((i : Nat) : Int) old) ∧ h.IsTupleIter it a i ∧ e ≠ it ∧ e ≠ a) where
  mem := List.mem_cons_self
  obj := fun i h st b hb => by
    obtain ⟨⟨old, he⟩, ⟨o, ho, hc, hd⟩, _, _⟩ := st
    rcases List.mem_cons.mp hb with z | z
    · rw [z]
      exact ⟨_, he, fun v q => nomatch q⟩
    · rw [List.mem_singleton.mp z]
      exact ⟨o, ho, fun v q => by rw [hd] at q; cases q⟩
  keep := fun i h h' st k => by
    obtain ⟨⟨old, he⟩, hi, hne, hea⟩ := st
    exact ⟨⟨old, k e List.mem_cons_self _ he⟩, hi.at fun o q => k it (List.mem_cons_of_mem _ (List.mem_singleton.mpr rfl)) o q, hne, hea⟩
  item := by
    intro X hP hw hK hc i pins s σ H E I hf st hg
    subst hP hw hK
    obtain ⟨⟨old, he⟩, hit, hne, hea⟩ := st
    obtain ⟨xs, x, hq, hx⟩ := hg
    obtain ⟨us, rv, tp, _⟩ := I.tuple hq
    obtain ⟨u, hu, ru⟩ := rv.get hx
    have el : e < s.heap.objs.size := Heap.lt_size he
    have il : it < s.heap.objs.size := by
      obtain ⟨_, q, _⟩ := id hit
      exact Heap.lt_size q
    have lt : i < us.toArray.size := by
      have := (List.getElem?_eq_some_iff.mp hu).1
      simpa using this
    have Dr := Draws.tuple (prog := X.prog) (w := X.w) (A := X.A.in1) (I.ok.hd hc) it a hae us.toArray
    refine wpAny_pyNext_enum_itemD Dr he ⟨hit, tp⟩ lt hne (by simp [hne, hea]) fun z h1 tk hz ho1 st1 hT1 _ hk1 => ?_
    have ez : z = u := by
      have : us.toArray[i]? = some z := hz
      rw [List.getElem?_toArray, hu] at this
      cases this
      rfl
    subst ez
    refine ⟨_, rfl, wpAny_letOwnedTupleGo_enum (s := { s with heap := h1, toks := tk + 1 }) ho1 fun h2 he2 sb => ?_⟩
    have hT2 : h2.get? s.heap.objs.size = some { cls := .type "tuple", data := .seq #[.int i tk, z] } := (sb.2 _ (Nat.ne_of_gt el)).trans hT1
    have made : ObjOk X.prog X.w (upd H s.heap.objs.size (.tup [.int (i : Nat), x])) h2 s.heap.objs.size (.tup [.int (i : Nat), x]) :=
      ⟨by show 2 ≤ sizeLine; decide, [.int i tk, z], .cons ⟨_, rfl⟩ (.cons ru .nil), ⟨_, hT2, rfl, _, rfl⟩⟩
    have I2 : Inv X pins σ (upd H s.heap.objs.size (.tup [.int (i : Nat), x])) { s with heap := h2, toks := tk + 1 } := by
      refine I.turnedNew (ch := [e, it]) (fun b ob hb q => ?_) hf (Nat.le_refl _) made
      have b1 : b ≠ e := fun y => hb (by simp [y])
      have b2 : b ≠ it := fun y => hb (by simp [y])
      exact (sb.2 b b1).trans (hk1 b ob b1 b2 q)
    refine ⟨.ref s.heap.objs.size, _, I2, rfl, ⟨_, x, rfl, I.hok.fresh (Nat.le_refl _), rfl, fun ys hy => by rw [tup_inj I hy hq]; exact hx⟩, ⟨⟨z, ?_⟩, st1.1.at fun o q => (sb.2 it (Ne.symm hne)).trans q, hne, hea⟩, fun b hb => ?_⟩
    · have e1 : ((i + 1 : Nat) : Int) = (i : Int) + 1 := by omega
      rw [e1]
      exact he2
    · have lb : b < s.heap.objs.size := by
        rcases List.mem_cons.mp hb with y | y
        · rw [y]; exact el
        · rw [List.mem_singleton.mp y]; exact il
      rw [upd_ne (Nat.ne_of_lt lb)]
      exact (hf b hb).1
  done := by
    intro X hP hw hK hc i pins s σ H E I hf st hg
    subst hP hw hK
    obtain ⟨⟨old, he⟩, hit, hne, hea⟩ := st
    obtain ⟨xs, hq, hx⟩ := hg
    obtain ⟨us, rv, tp, _⟩ := I.tuple hq
    obtain ⟨f0, f1, f2, f3, f4, f5⟩ := hf it (List.mem_cons_of_mem _ (List.mem_singleton.mpr rfl))
    have hl := rv.length
    have Dr := Draws.tuple (prog := X.prog) (w := X.w) (A := X.A.in1) (I.ok.hd hc) it a hae us.toArray
    -- past the end: at any number beyond it the iterator ends
    exact pd_enum_end (I.ok.hd hc) he hit tp (by simp; omega) fun h' eb => ⟨rfl, I.turned (t' := s.toks) (fun b o hb q => eb b o hb q) f0 f1 f3 f4 f5⟩
  self := fun A i s Q E st h => by
    obtain ⟨⟨_, he⟩, _⟩ := st
    exact wpAny_pyIter_enum he h
where
  pd_enum_end {prog : Program} {w : World} {A : Around} {E : Value → Shared → Prop} {s : Shared} {e it t : Addr} {c : Int} {i : Nat} {items : Array Value} {old : Value} {Q : Option Value → Shared → Prop} (hh : A.handled = none)
      (he : IsEnum s.heap e it c old) (hit : s.heap.IsTupleIter it t i) (ht : s.heap.IsTuple t items) (hx : items[i]? = none) (hQ : ∀ h', Heap.ExtBut it s.heap h' → Q none { s with heap := h' }) : wpAny (model prog w) A (pyNext (.ref e)) Q E s := by
    have hT : s.TypeIs (.ref e) "enumerate" := ⟨_, he, rfl⟩
    unfold pyNext
    refine wpAny_bind (wpAny_attempt (wpAny_callSpecial?_slot (name := Str.ofString "__next__") hT F.slot_enumerate_next (wpAny_call_entry F.slot_enumerate_next hT F.entry_enumerate_next ?_ (F.args_enumerate_next_1 _))))
    show wpAny _ _ (field (.ref e) 2 >>= _) _ _ _
    refine wpAny_bind (wpAny_field he rfl (x := .ref it) rfl ?_)
    refine wpAny_bind (wpAny_nextOf_tuple_end hh hit ht hx fun h' y eb hy => ?_)
    obtain ⟨o, ho, hc⟩ := hy
    exact wpAny_bind (wpAny_isInstance (T := "StopIteration") (b := true) ⟨o, ho, hc⟩ isSubtype_stop (wpAny_pure (hQ _ eb)))
section
variable {X : Cx} {M : Mk0} {a e : Expr} {fl : FL} {p pos tpos : Pos} {elts : List Expr} {kk : Nat}
def iEnumA (K : PySem.W.Frag) (ta : TA) : TI := fun σ H R => ta σ H fun vs H1 => ∃ a xs, vs = [V.ref a] ∧ (SqL K H1 a xs ∧ R (Ite K a) H1 ∨ SqT K H1 a xs ∧ R (IteT K a) H1)
theorem pi_enumA {ta : TA} (hg : Gl X "enumerate") (hm : X.mg "enumerate" = none) (ha : PA X [e] ta) (hs : starEach [e] X.env = [(false, eval e X.env)] := by rfl) :
    PI X (.Tuple elts kk tpos) (.Call (.Name "enumerate" p) [e] [] pos) (iEnumA X.K ta) := by
  constructor
  intro pins s σ H R0 I h
  refine Call_ (ld_blt I hg hm boot_enumerate (PyProof.Rows.callWith_type1 (thn (ha.run pos pins s σ H _ I h) fun us s1 ⟨vs, H1, I1, r1, q1⟩ => ?_) hs rfl))
  obtain ⟨a, xs, ex, q1⟩ := q1
  subst ex
  cases r1 with
  | cons r rr =>
    cases rr
    cases r
    have two : ∀ b, b ∈ [s1.heap.objs.size + 1, s1.heap.objs.size] → FpOk X pins H1 b := fun b hb => by
      have hle : s1.heap.objs.size ≤ b := by
        rcases List.mem_cons.mp hb with z | z
        · rw [z]; exact Nat.le_succ _
        · rw [List.mem_singleton.mp z]; exact Nat.le_refl _
      exact I1.fpOk hle (I1.hok.fresh hle)
    rcases q1 with ⟨hq, q⟩ | ⟨hq, q⟩
    · obtain ⟨its, rv, pl, _⟩ := I1.list hq
      refine call_enumerate_list pl.isList fun h' he hit _ hk => wpAny_pyIter_enum he ?_
      exact ⟨_, _, _, _, H1, rfl, I1.kept (t' := s1.toks) hk, turn_enum a (s1.heap.objs.size + 1) s1.heap.objs.size, ⟨⟨.none, he⟩, hit, Nat.succ_ne_self _⟩, two, q⟩
    · obtain ⟨its, rv, tp, _⟩ := I1.tuple hq
      have hal : a < s1.heap.objs.size := by
        obtain ⟨o, ho, _⟩ := id tp
        exact Heap.lt_size ho
      refine pd_call_enumT tp fun h' he hit hk => wpAny_pyIter_enum he ?_
      exact ⟨_, _, _, _, H1, rfl, I1.kept (t' := s1.toks) hk, turn_enumT a (s1.heap.objs.size + 1) s1.heap.objs.size (Nat.ne_of_lt hal), ⟨⟨.none, he⟩, hit, Nat.succ_ne_self _, fun z => by rw [← z] at hal; exact absurd hal (Nat.not_lt.mpr (Nat.le_succ _))⟩, two, q⟩
/-- enumerate(a), a list or a tuple -/
def enumA : D → Option (List D)
  | .list xs => some (xs.zipIdx.map fun p => PyData.tuple [.int (p.2 : Nat), p.1])
  | .tuple xs => some (xs.zipIdx.map fun p => PyData.tuple [.int (p.2 : Nat), p.1])
  | _ => none
def fiEnumA (fl : FL) : FI := fun ρ k => fl ρ fun ds ρ1 => ∃ x zs, ds = [x] ∧ enumA x = some zs ∧ k zs ρ1
theorem walks_et {K : Fr0} {a : Addr} {us : List V} {L : List Addr} {H : Hp} {xs : List D} (h : SqT K.f (hide L H) a us) (hd : RpAll K (hide L H) us xs) : Walks K (IteT K.f a) L H (xs.zipIdx.map fun p => PyData.tuple [.int (p.2 : Nat), p.1]) := by
  intro L2 H2 e tr i
  have g1 : SqT K.f H2 a us := sqt_le (Evl.ex_t e h)
  have d1 := dpa_ex e _ _ hd
  refine ⟨fun d hi => ?_, fun hl => ⟨us, g1, ?_⟩⟩
  · obtain ⟨x, hx, rfl⟩ := enum_get hi
    obtain ⟨u, hu, du⟩ := dpa_get' d1 hx
    refine ⟨⟨us, u, g1, hu⟩, fun z H3 ⟨T, u', e1, hT, e3, q1⟩ => ?_⟩
    have e4 := q1 us g1
    rw [hu] at e4
    cases e4
    subst e1 e3
    exact ⟨Ex.new hT, pair_new tr hT (.int _) du⟩
  · rw [List.length_map, List.length_zipIdx, ← dpa_len hd] at hl
    exact hl
theorem pdi_enumA (hg : Gl X "enumerate") (hm : X.mg "enumerate" = none) (ha : PDL X M [a] fl) (hs : starEach [a] X.env = [(false, eval a X.env)] := by rfl) :
    PDI X M (.Tuple elts kk tpos) (.Call (.Name "enumerate" p) [a] [] pos) (fiEnumA fl) := by
  refine ⟨PI.wk (pi_enumA hg hm ha.pa hs) fun σ H Q ⟨P, F, L, ρ, r, k⟩ => ?_, fun ρ k k' h q => ha.mono _ _ _ (fun ds ρ1 ⟨x, zs, h1, h2, q⟩ => ⟨x, zs, h1, h2, h _ _ q⟩) q⟩
  refine ⟨P, F, L, ρ, r, ha.mono _ _ _ (fun ds ρ1 ⟨x, zs, h1, h2, q⟩ vs L1 H1 e1 r1 d1 => ?_) k⟩
  subst h1
  cases d1 with
  | cons g1 g2 =>
    cases g2
    unfold enumA at h2
    split at h2
    · cases h2
      cases g1 with
      | lst a1 a2 => exact ⟨_, _, rfl, .inl ⟨sql_le a1, q _ L1 H1 e1 r1 (walks_e a1 a2)⟩⟩
    · cases h2
      cases g1 with
      | tup a1 a2 => exact ⟨_, _, rfl, .inr ⟨sqt_le a1, q _ L1 H1 e1 r1 (walks_et a1 a2)⟩⟩
    · cases h2
end
end PD
namespace PD
open PySem L2 PyProof.Rows PySem.Spec
open Evl (Ex)
def tyName : D → String
  | .none => "NoneType"
  | .bool _ => "bool"
  | .int _ => "int"
  | .str _ => "str"
  | .list _ => "list"
  | .tuple _ => "tuple"
  | .dict _ => "dict"
def notDict : D → Bool
  | .dict _ => false
  | _ => true
theorem tyx {K : Fr0} {H : Hp} {v : V} {d : D} (h : Rp K H v d) (hd : notDict d = true) : TyX K.f H v (.type (tyName d)) := by
  cases h with
  | non => exact .base .non
  | bl b => exact .base (.bl b)
  | int i => exact .base (.int i)
  | str x => exact .base (.str x)
  | lst h1 _ =>
    rcases h1 with (h1 | ⟨o, h1⟩) | ⟨o, its, n, h1, h2, _⟩
    · exact .base (.lst h1)
    · exact .base (.frz h1)
    · exact .kList h1 h2
  | tup h1 _ =>
    rcases h1 with (h1 | ⟨o, h1⟩) | ⟨o, its, n, h1, h2, _⟩
    · exact .base (.tup h1)
    · exact .fTuple h1
    · exact .kTuple h1 h2
  | dct _ _ => cases hd
  | dctN _ _ => cases hd
  | obj _ _ => cases hd
  | clo _ _ _ _ _ => cases hd
/-- isinstance of a thing of the first kind -/
def isN (a T : String) : Bool := a == T || (a == "bool" && T == "int")
def isT (T : String) (d : D) : Bool := isN (tyName d) T
def okT (T : String) : Bool := ["bool", "int", "str", "list", "tuple", "dict"].contains T
theorem kit_all : ∀ a ∈ ["NoneType", "bool", "int", "str", "list", "tuple", "dict"], ∀ T ∈ ["bool", "int", "str", "list", "tuple", "dict"], kitB a T = some (isN a T) := by decide +kernel
theorem kit_is {K : Fr0} {T : String} (hT : okT T = true) (d : D) : PySem.W.kitOne K.f (.type (tyName d)) (.type T) = some (isT T d) := by
  refine kit_ty (kit_all _ ?_ T (List.contains_iff_mem.mp hT))
  cases d <;> simp [tyName]
section
variable {X : Cx} {M : Mk0} {a : Expr} {fa : FE} {pos : Pos}
def gIsT (T : String) (d : D) : Option D := if notDict d = true then some (.bool (isT T d)) else none
/-- a built-in type's name as a value -/
theorem pe_tyName {T : String} {x : Str} {px : Pos} (hg : Gl X x) (hm : X.mg x = none) (hv : bootBuiltins x = some (.type T)) (hn : x ≠ "__name__" := by decide) (hd : (x == ("__debug__" : Str)) = false := by decide) : PE X (.Name x px) (tC (.ty T)) :=
  pe_bltn hg hm hv rfl hn hd
def gEqA : D → D → Option D
  | .str a, .str b => some (.bool (decide (a = b)))
  | x, y => gEq x y
def gNeA : D → D → Option D
  | .str a, .str b => some (.bool (!decide (a = b)))
  | x, y => gNe x y
theorem dec_strD {a b : Str} : decide (V.str a = V.str b) = decide (a = b) := by
  by_cases e : a = b
  · subst e; simp
  · rw [decide_eq_false e, decide_eq_false (fun z => e (V.str.inj z))]
theorem op_eqA (hu : X.A.units + 64 < cLine) : OpR X (compareOp .Eq) (opOr rEq (rEqD X.K)) := or_op op_eq (op_eqD hu)
theorem op_neA (hu : X.A.units + 64 < cLine) : OpR X (compareOp .NotEq) (opOr rNe (rNeD X.K)) := or_op op_ne (op_neD hu)
theorem rd_eqA {K : Fr0} : R2D K (opOr rEq (rEqD K.f)) gEqA := by
  intro L H x y dx dy d Q tr hx hy hg k
  unfold gEqA at hg
  split at hg
  · cases hg
    rw [rp_str hx, rp_str hy]
    exact .inl ⟨rfl, by rw [dec_strD]; exact k _ _ (Ex.refl _) (.bl _)⟩
  · exact .inr (rd_eq L H x y dx dy d Q tr hx hy hg k)
theorem rd_neA {K : Fr0} : R2D K (opOr rNe (rNeD K.f)) gNeA := by
  intro L H x y dx dy d Q tr hx hy hg k
  unfold gNeA at hg
  split at hg
  · cases hg
    rw [rp_str hx, rp_str hy]
    exact .inl ⟨rfl, by rw [dec_strD]; exact k _ _ (Ex.refl _) (.bl _)⟩
  · exact .inr (rd_ne L H x y dx dy d Q tr hx hy hg k)
end
end PD
namespace PD
open PySem L2 PyProof.Rows PySem.Spec
open Evl (Ex)
abbrev setObj (w : World) : Obj := { cls := .type "set", dict := none, data := .set #[] 0 (.fresh 0 0 (!w.params.followText "set-order")) }
section
variable {P : Program} {w : World} {A : Around} {E : Value → Shared → Prop} {s : Shared}
theorem call_setL {l : Addr} {items : Array Value} (ns : List Int) {Q : Value → Shared → Prop} (hh : A.handled = none) (hl : s.heap.IsList l items) (hit : IntsAre items.toList ns) (hb : ns.length + 1 < scanBound)
    (fin : ∀ (h' : Heap) (tk c : Nat), SetR w h' s.heap.objs.size (fun j => decide (j ∈ ns)) c → c ≤ ns.length → (∀ b o, s.heap.get? b = some o → h'.get? b = some o) → Q (.ref s.heap.objs.size) { s with heap := h', toks := tk }) :
    wpAny (model P w) A (call (.type "set") [.ref l]) Q E s := by
  have many : items.size = ns.length := by simpa using IntsAre.length hit
  obtain ⟨cls0, tl0, hmro⟩ := F.called_set.mro
  have hmade := F.called_set.made
  have hsub := F.called_set.sub
  refine wpAny_call (codeAny_of_tree ?_)
  show wpAny _ _ (callAny (.type "set") _) _ _ _
  refine wpAny_pure ⟨Code.quiet_builtin _ (by decide +kernel), codeAny_builtin F.entry_type_call ?_⟩
  rw [Around.under_plain (weight_type_call_type "set" [.ref l] []) rfl]
  have no1 := F.called_set.notType
  have no2 := F.called_set.canCreate
  have ct := F.typeCall_set_1 (.ref l)
  repeat (any_goals (first | assumption | wp_step))
  refine codeAny_mono (code_set_led1 (.ref l) (E := E) (Q₁ := fun obj sN => obj = .ref s.heap.objs.size ∧ sN = { s with heap := s.heap.push (setObj w) }) ⟨rfl, rfl⟩) fun r sN hr => ?_
  cases r with
  | error e => exact hr
  | ok fl =>
    cases fl with
    | ret obj =>
      obtain ⟨eo, es⟩ := hr
      subst eo es
      have at0 : (s.heap.push (setObj w)).get? s.heap.objs.size = some (setObj w) := Heap.get?_push_size _ rfl
      have ty0 : Shared.TypeIs { s with heap := s.heap.push (setObj w) } (.ref s.heap.objs.size) "set" := ⟨_, at0, rfl⟩
      have ini1 := F.called_set.init.lookup
      have ini2 := F.called_set.init.bind (.ref s.heap.objs.size)
      repeat (any_goals (first | assumption | wp_step))
      refine codeAny_mono (codeAny_call_builtin (R := wants (fun r sE => r = .none ∧ ∃ h' tk c, sE = { s with heap := h', toks := tk } ∧ SetR w h' s.heap.objs.size (fun j => decide (j ∈ ns)) c ∧ c ≤ ns.length ∧ (∀ b o, s.heap.get? b = some o → h'.get? b = some o)) E)
        F.called_set.init.plain F.entry_set_init (check_set_init_1 ty0 ?_)) fun rE sE hrE => ?_
      · obtain ⟨⟨oc, od, odt, osl⟩, hol, hcl, nl, hdl⟩ := hl
        replace hcl : oc = .type "list" := hcl
        replace hdl : odt = .seq items nl := hdl
        subst hcl hdl
        have atl : (s.heap.push (setObj w)).get? l = some { cls := .type "list", dict := od, data := .seq items nl, slots := osl } := Heap.get?_push_of_some _ hol
        have nots := F.sub_list_set
        have notf := F.sub_list_frozenset
        have nod : (Value.type "list" == Value.type "dict") = false := by decide
        have isl : (s.heap.push (setObj w)).IsList l items := ⟨_, atl, rfl, nl, rfl⟩
        unfold Builtin.«set.__init__» noKeywords Builtin.Frozenset.updateFrom
        generalize hPI : pyIter = PI
        wp_walk
        subst hPI
        refine wpAny_pyIter_list isl (wpAny_bind (wpAny_runValue ?_))
        have lts : l < s.heap.objs.size := Heap.lt_size hol
        have hh3 : A.in1.in1.in1.handled = none := by simp [hh]
        have sz1 : (s.heap.push (setObj w)).objs.size = s.heap.objs.size + 1 := Heap.size_push ..
        have neI : l ≠ (s.heap.push (setObj w)).objs.size := by
          rw [sz1]
          exact Nat.ne_of_lt (Nat.lt_succ_of_lt lts)
        have out2 : s.heap.objs.size ∉ [(s.heap.push (setObj w)).objs.size, l] := by
          rw [sz1]
          intro hm
          rcases List.mem_cons.mp hm with z | z
          · exact absurd z (Nat.ne_of_lt (Nat.lt_succ_self _))
          · exact absurd (List.mem_singleton.mp z) (Nat.ne_of_gt lts)
        have val : ∀ (i : Nat) (v : Value), items[i]? = some v → ∃ k t, ns[i]? = some k ∧ v = .int k t := by
          intro i v hv
          have hi : i < ns.length := by
            rw [← many]
            exact (Array.getElem?_eq_some_iff.mp hv).1
          obtain ⟨t, e⟩ := PyProof.Rows.IntsAre.int_at hit i v (by rw [Array.getElem?_toList]; exact hv)
          have g : ns.getD i 0 = ns[i] := by
            rw [List.getD_eq_getElem?_getD, List.getElem?_eq_getElem hi]
            rfl
          exact ⟨ns[i], t, List.getElem?_eq_getElem hi, by rw [e, g]⟩
        refine set_update_ints ((Walks.list hh3 _ l neI items).toS) s.heap.objs.size out2 ns many hb val (items.size - 0) 0 _ (by omega) (Nat.zero_le _) ⟨⟨_, Heap.get?_push_size _ rfl, rfl, rfl⟩, isl.push _⟩
          ⟨0, Nat.le_refl 0, setR_new_at (Heap.get?_push_of_some _ at0)⟩ fun sF cF hm hcF hSF => ?_
        obtain ⟨hF, gF, dF, tF, oF⟩ := sF
        have e1 : gF = s.gens := hm.gens
        have e2 : dF = s.drawn := hm.drawn
        have e3 : oF = s.os := hm.os
        subst e1 e2 e3
        show wpAny _ _ _ _ _ _
        refine wpAny_pure ?_
        show wpAny _ _ (ret Value.none) _ _ _
        refine wpAny_pure ⟨rfl, hF, tF, cF, rfl, hSF, by rw [many] at hcF; exact hcF, fun b o e => ?_⟩
        have lb : b < s.heap.objs.size := Heap.lt_size e
        refine hm.heap b o (fun z => ?_) (Heap.get?_push_of_some _ (Heap.get?_push_of_some _ e))
        rcases List.mem_cons.mp z with z | z
        · exact absurd z (Nat.ne_of_lt lb)
        · have z := List.mem_singleton.mp z
          rw [sz1] at z
          exact absurd z (Nat.ne_of_lt (Nat.lt_succ_of_lt lb))
      · cases rE with
        | error e => exact hrE
        | ok flE =>
          cases flE with
          | ret r =>
            obtain ⟨rfl, h', tk, c', rfl, hS', hc', hk'⟩ := hrE
            repeat (any_goals (first | assumption | wp_step))
            exact fin _ _ _ hS' hc' hk'
          | _ => exact hrE.elim
    | _ => exact hr.elim
end
end PD
namespace PD
open PySem L2 PyProof.Rows PySem.Spec
open Evl (Ex)
def insU (x : Int) : List Int → List Int
  | [] => [x]
  | y :: r => if x = y then y :: r else x :: y :: r
/-- strictly rising, the members of ns -/
def usort (ns : List Int) : List Int := (isort ns).foldr insU []
theorem strict_unique : ∀ {xs ys : List Int}, xs.Pairwise (· < ·) → ys.Pairwise (· < ·) → (∀ k, k ∈ xs ↔ k ∈ ys) → xs = ys
  | [], [], _, _, _ => rfl
  | [], y :: ys, _, _, h => absurd ((h y).mpr List.mem_cons_self) List.not_mem_nil
  | x :: xs, [], _, _, h => absurd ((h x).mp List.mem_cons_self) List.not_mem_nil
  | x :: xs, y :: ys, hx, hy, h => by
    have hx' := List.pairwise_cons.mp hx
    have hy' := List.pairwise_cons.mp hy
    have e : x = y := by
      have h1 := (h x).mp List.mem_cons_self
      have h2 := (h y).mpr List.mem_cons_self
      rcases List.mem_cons.mp h1 with z | z
      · exact z
      · rcases List.mem_cons.mp h2 with u | u
        · exact u.symm
        · have a := hy'.1 x z
          have b := hx'.1 y u
          omega
    subst e
    congr 1
    refine strict_unique hx'.2 hy'.2 fun k => ⟨fun hk => ?_, fun hk => ?_⟩
    · rcases List.mem_cons.mp ((h k).mp (List.mem_cons_of_mem _ hk)) with z | z
      · have := hx'.1 k hk
        omega
      · exact z
    · rcases List.mem_cons.mp ((h k).mpr (List.mem_cons_of_mem _ hk)) with z | z
      · have := hy'.1 k hk
        omega
      · exact z
theorem dedup_facts : ∀ {l : List Int}, l.Pairwise (· ≤ ·) → (l.foldr insU []).Pairwise (· < ·) ∧ ∀ k, k ∈ l.foldr insU [] ↔ k ∈ l
  | [], _ => ⟨List.Pairwise.nil, fun k => Iff.rfl⟩
  | x :: l, h => by
    have h' := List.pairwise_cons.mp h
    obtain ⟨i1, i2⟩ := dedup_facts h'.2
    rw [List.foldr_cons]
    generalize (l.foldr insU [] : List Int) = r at i1 i2
    cases r with
    | nil => exact ⟨List.pairwise_singleton _ _, fun k => by
        show k ∈ [x] ↔ k ∈ x :: l
        rw [List.mem_singleton, List.mem_cons, ← i2 k]
        simp⟩
    | cons y r =>
      show (if x = y then y :: r else x :: y :: r).Pairwise (· < ·) ∧ ∀ k, k ∈ (if x = y then y :: r else x :: y :: r) ↔ k ∈ x :: l
      by_cases e : x = y
      · subst e
        rw [if_pos rfl]
        exact ⟨i1, fun k => by rw [i2, List.mem_cons]; exact ⟨.inr, fun z => z.elim (fun z => by rw [z]; exact (i2 x).mp List.mem_cons_self) id⟩⟩
      · rw [if_neg e]
        refine ⟨List.pairwise_cons.mpr ⟨fun k hk => ?_, i1⟩, fun k => by rw [List.mem_cons, i2, List.mem_cons]⟩
        have lx : x < y := by
          have := h'.1 y ((i2 y).mp List.mem_cons_self)
          omega
        rcases List.mem_cons.mp hk with z | z
        · omega
        · have := (List.pairwise_cons.mp i1).1 k z
          omega
theorem isort_le (ns : List Int) : (isort ns).Pairwise (· ≤ ·) := by
  have h2 : (isort ns).Pairwise (fun a b => decide (a ≤ b) = true) := List.pairwise_mergeSort (fun a b c h1 h2 => by simp at *; omega) (fun a b => by simp; omega) ns
  exact h2.imp fun h => by simpa using h
theorem isort_perm (ns : List Int) : (isort ns).Perm ns := List.mergeSort_perm _ _
theorem usort_lt (ns : List Int) : (usort ns).Pairwise (· < ·) := (dedup_facts (isort_le ns)).1
theorem usort_mem {ns : List Int} {k : Int} : k ∈ usort ns ↔ k ∈ ns := ((dedup_facts (isort_le ns)).2 k).trans (isort_perm ns).mem_iff
theorem usort_of {ns xs : List Int} (h : xs.Pairwise (· < ·)) (hm : ∀ k, k ∈ xs ↔ k ∈ ns) : xs = usort ns := strict_unique h (usort_lt ns) fun k => (hm k).trans usort_mem.symm
section
variable {X : Cx} {M : Mk0} {a : Expr} {fa : FE} {pos : Pos}
def rSetL (K : PySem.W.Frag) (w : World) : List V → Hp → VK → Prop := fun xs H Q => ∃ (l : Addr) (ns : List Int), xs = [V.ref l] ∧ SqL K H l (ns.map V.int) ∧ ns.length < 64 ∧ ∀ p n, H p = none → n ≤ ns.length → Q (.ref p) (upd H p (SetO w p (fun j => decide (j ∈ ns)) n))
theorem cr_setL (hc : X.calm = true) : CallR X (.type "set") (rSetL X.K X.w) := by
  intro pins s σ H xs us Q I r h
  obtain ⟨l, ns, rfl, hl, h64, q⟩ := h
  obtain ⟨u, rfl, ru⟩ := vals1 r
  cases ru
  obtain ⟨its, rv, pl, _⟩ := I.list hl
  refine call_setL ns (I.ok.hd hc) pl.isList (by simpa using intsAre_of rv) (Nat.lt_of_le_of_lt (Nat.succ_le_of_lt h64) (by decide : (64 : Nat) < scanBound)) fun h' tk c R hcn hk => ?_
  exact ⟨.ref _, _, I.laid (t' := tk) hk (Nat.le_refl _) (setO_new R), rfl, q _ c (I.hok.fresh (Nat.le_refl _)) hcn⟩
def nSortSet : D → Option (List D)
  | .list xs => match intsD xs with
    | some ns => if ns.length < 64 then some ((usort ns).map PyData.int) else none
    | none => none
  | _ => none
theorem pn_sortset {p p2 pos2 : Pos} (hc : X.calm = true) (hg : Gl X "sorted") (hm : X.mg "sorted" = none) (hg2 : Gl X "set") (hm2 : X.mg "set" = none) (ha : PD X M a fa)
    (hs : starEach [a] X.env = (false, eval a X.env) :: starEach [] X.env := by rfl) (hs2 : starEach [.Call (.Name "set" p2) [a] [] pos2] X.env = (false, eval (.Call (.Name "set" p2) [a] [] pos2) X.env) :: starEach [] X.env := by rfl) :
    PN X M (.Call (.Name "sorted" p) [.Call (.Name "set" p2) [a] [] pos2] [] pos) (fn1 nSortSet fa) := by
  have inner := pe_callTy (pos := pos2) (p := p2) (cr_setL hc) hg2 hm2 (by decide +kernel) (pa_cons ha.pe pa_nil hs) (by decide) (by decide) hs
  refine ⟨PE.wk (pe_callB (cr_sortedSet hc) hg hm (by decide +kernel) (pa_cons inner pa_nil hs2) (by decide) (by decide) hs2) fun σ H Q ⟨P, F, L, ρ, r, k⟩ => ?_, fun ρ k k' g q => ha.mono _ _ _ (fun d ρ1 ⟨ds, h1, h2⟩ => ⟨ds, h1, g _ _ h2⟩) q⟩
  refine ⟨P, F, L, ρ, r, ha.mono _ _ _ (fun d ρ1 ⟨ds, hd, q⟩ v L1 H1 e1 r1 d1 => ?_) k⟩
  unfold nSortSet at hd
  split at hd
  · split at hd
    · split at hd
      · cases hd
        rename_i xs ns hi h64
        obtain ⟨b, vs, rfl, h1, h2⟩ := rp_list d1
        rw [intsD_eq hi] at h2
        rw [dpa_ints_eq h2] at h1
        refine ⟨b, ns, rfl, h1, h64, fun s n hs hn => ?_⟩
        refine ⟨s, _, n, rfl, upd_same, by omega, fun us u hp hmem hlen hu => ?_⟩
        have eu : us = usort ns := usort_of hp fun j => by rw [hmem]; simp
        subst eu
        have fresh : H1 u = none := by
          by_cases z : u = s
          · rw [z, upd_same] at hu
            cases hu
          · rw [upd_ne z] at hu
            exact hu
        have r2 := r1.laid (o := SetO X.w s (fun j => decide (j ∈ ns)) n) hs
        obtain ⟨e3, hF, r3, d3⟩ := new_pin (ds := (usort ns).map PyData.int) r2 (dpa_ints _) hu
        exact q u _ _ _ ((e1.trans (hide_ex (Ex.new hs))).trans e3) hF r3 d3
      · cases hd
    · cases hd
  · cases hd
end
end PD
namespace PD
open PySem L2 PyProof.Rows PySem.Spec
open Evl (Ex)
def gNeg : D → Option D
  | .int i => some (.int (-i))
  | _ => none
theorem r1_neg {K : Fr0} : R1D K (rU fun i => .int (-i)) gNeg := by
  intro L H x dx d Q tr hx hg k
  unfold gNeg at hg
  split at hg
  · cases hg
    exact ⟨_, rp_int hx, k _ _ (Ex.refl _) (.int _)⟩
  · cases hg
section
variable {X : Cx} {M : Mk0} {a b c : Expr} {fa fb : FE} {fn fm : FN} {fl : FL} {pos : Pos}
/-- two lists in a row: a new one -/
def nCat : D → D → Option (List D)
  | .list xs, .list ys => if xs.length + ys.length ≤ 1000000 then some (xs ++ ys) else none
  | _, _ => none
def fnCat (fa fb : FE) : FN := fun ρ k => fa ρ fun x ρ1 => fb ρ1 fun y ρ2 => ∃ ds, nCat x y = some ds ∧ k ds ρ2
theorem pn_cat (ha : PD X M a fa) (hb : PD X M b fb) : PN X M (.BinOp a .Add b pos) (fnCat fa fb) := by
  refine ⟨PE.wk (pe_op op_catR ha.pe hb.pe) fun σ H Q ⟨P, F, L, ρ, r, k⟩ => ?_, fun ρ k k' g q => ha.mono _ _ _ (fun x ρ1 q => hb.mono _ _ _ (fun y ρ2 ⟨ds, h1, h2⟩ => ⟨ds, h1, g _ _ h2⟩) q) q⟩
  refine ⟨P, F, L, ρ, r, ha.mono _ _ _ (fun x ρ1 q v L1 H1 e1 r1 d1 => ?_) k⟩
  refine ⟨P, F, L1, ρ1, r1, hb.mono _ _ _ (fun y ρ2 ⟨ds, hd, q⟩ w L2 H2 e2 r2 d2 => ?_) q⟩
  unfold nCat at hd
  split at hd
  · split at hd
    · cases hd
      obtain ⟨l, vs, rfl, h1, h2⟩ := rp_list (dp_ex e2 _ _ d1)
      obtain ⟨l', vs', rfl, h3, h4⟩ := rp_list d2
      refine ⟨l, l', vs, vs', rfl, rfl, h1, h3, by rw [dpa_len h2, dpa_len h4, sizeLine_eq]; omega, fun p hp => ?_⟩
      obtain ⟨e3, hF, r3, d3⟩ := new_pin r2 (dpa_app h2 h4) hp
      exact q p _ _ _ ((e1.trans e2).trans e3) hF r3 d3
    · cases hd
  · cases hd
def fsPar_od (i j : Nat) (fn : FN) (fb : FE) : FS := fun ρ P => fn ρ fun ds ρ1 => fb ρ1 fun d ρ2 => P.nx ((ρ2.set i (.own ds)).set j (.d d))
def fsPar_do (i j : Nat) (fa : FE) (fm : FN) : FS := fun ρ P => fa ρ fun d ρ1 => fm ρ1 fun ds ρ2 => P.nx ((ρ2.set i (.d d)).set j (.own ds))
def fsPar_oo (i j : Nat) (fn fm : FN) : FS := fun ρ P => fn ρ fun ds ρ1 => fm ρ1 fun es ρ2 => P.nx ((ρ2.set j (.own es)).set i (.own ds))
end
end PD
namespace PD
open PySem L2 PyProof.Rows PySem.Spec
open Evl (Ex)
theorem R.drawn {K : Fr0} {M : Mk0} {F : Hp} {L : List Addr} {ρ : Rho} {σ : L2.St} {H H' : Hp} {p : Addr} {A A' : List Addr} {m : Nat} (r : R K M (some p) F L ρ σ H)
    (hA : (∀ a ∈ A, a ∈ L ∧ F a = none) ∧ ∀ (i : Nat) (xs : Ow) (l : Addr), ρ.sl[i]? = some (.own xs) → σ[i]? = some (some (.ref l)) → l ∉ A)
    (nT : NoTb A H) (h : M.holds K p m A' H') (same : ∀ a o, H a = some o → a ∉ A → H' a = some o) (tA : ∀ a ∈ A, ∃ o, H' a = some o) (nA : ∀ a ∈ A', (a ∈ A ∨ H a = none) ∧ ∃ o, H' a = some o) :
    Ex (hide L H) (hide (A' ++ L) H') ∧ R K M (some p) F (A' ++ L) ⟨ρ.sl, m⟩ σ H' := by
  have e : Ex (hide L H) (hide (A' ++ L) H') := fun a o ho => by
    obtain ⟨h1, h2⟩ := hide_some.mp ho
    have n1 : a ∉ A := fun z => h1 (hA.1 a z).1
    refine hide_some.mpr ⟨fun z => ?_, same a o h2 n1⟩
    rcases List.mem_append.mp z with z | z
    · rcases (nA a z).1 with q | q
      · exact n1 q
      · rw [q] at h2; cases h2
    · exact h1 z
  have notA : ∀ {i : Nat} {xs : Ow} {l : Addr}, ρ.sl[i]? = some (.own xs) → σ[i]? = some (some (.ref l)) → ∃ o, H l = some o := fun {i xs l} h1 h2 => by
    obtain ⟨l', vs, g1, g2, g3, _⟩ := r.getOwn h1
    rw [h2] at g1
    cases g1
    exact ⟨_, g3⟩
  refine ⟨e, r.len, fun i s o h1 h2 => ?_, fun a o ho => ?_, fun a ha => ?_, r.apart, r.ownF, fun q hq => ?_, r.tb.move e fun P' ps k1 k2 k3 => ⟨k1, List.mem_append_right _ k2, same P' _ k3 fun z => nT P' z ps k3⟩⟩
  · have g := r.sl i s o h1 h2
    cases s with
    | no => trivial
    | d x =>
      obtain ⟨v, g1, g2⟩ := g
      exact ⟨v, g1, dp_ex e _ _ g2⟩
    | own xs =>
      obtain ⟨l, vs, g1, g2, g3, g4⟩ := g
      subst g1
      exact ⟨l, vs, rfl, List.mem_append_right _ g2, same l _ g3 (hA.2 i xs l h1 h2), g4.up e⟩
    | st => exact g
    | raw v => exact g
    | exc a d fl => exact ⟨g.1, g.2.up e⟩
  · obtain ⟨f1, f2⟩ := r.fr a o ho
    refine ⟨same a o f1 fun z => ?_, List.mem_append_right _ f2⟩
    rw [(hA.1 a z).2] at ho
    cases ho
  · rcases List.mem_append.mp ha with z | z
    · exact (nA a z).2
    · by_cases ia : a ∈ A
      · exact tA a ia
      · obtain ⟨o, ho⟩ := r.tr a z
        exact ⟨o, same a o ho ia⟩
  · cases hq
    refine ⟨A', h, fun a ha => ⟨List.mem_append_left _ ha, ?_⟩, fun i xs l h1 h2 z => ?_⟩
    · rcases (nA a ha).1 with q | q
      · exact (hA.1 a q).2
      · cases f : F a with
        | none => rfl
        | some o =>
          have := (r.fr a o f).1
          rw [q] at this
          cases this
    · rcases (nA l z).1 with q | q
      · exact hA.2 i xs l h1 h2 q
      · obtain ⟨o, ho⟩ := notA h1 h2
        rw [q] at ho
        cases ho
end PD
namespace PD
open PySem L2 PyProof.Rows PySem.Spec
open Evl (Ex)
def noSt (s : Sl) : Sl := match s with
  | .st => .no
  | s => s
/-- the promise of a def that makes an object of draws -/
def spB (K : Fr0) (M : Mk0) (n : Nat) (B : List D → Prop) : Sp := fun vs H Q _ => vs.length = n ∧ ∃ ds, RpAll K H vs ds ∧ B ds ∧ ∀ p A H', (∀ a o, H a = some o → H' a = some o) → (∀ a ∈ A, H a = none ∧ ∃ o, H' a = some o) → M.holds K p 0 A H' → Q (.ref p) H'
def keepA (A0 : List Addr) (F H : Hp) : Hp := fun a => if a ∈ A0 then H a else F a
section
variable {K : Fr0} {M : Mk0} {P : Option Addr} {F : Hp} {L L' : List Addr} {ρ ρ' : Rho} {σ σ' : L2.St} {H H' : Hp}
/-- a new object of draws in a slot, the old one's things are kept -/
theorem R.begin (r : R K M P F L ρ σ H) (i : Nat) (hns : ∀ j : Nat, ρ.sl[j]? ≠ some Sl.st) {p : Addr} {A : List Addr} {H2 : Hp} (hk : ∀ a o, H a = some o → H2 a = some o) (hA : ∀ a ∈ A, H a = none ∧ ∃ o, H2 a = some o) (hm : M.holds K p 0 A H2) :
    ∃ F2, Ex (hide L H) (hide (A ++ L) H2) ∧ R K M (some p) F2 (A ++ L) ⟨ρ.sl.set i .st, 0⟩ (σ.set i (some (.ref p))) H2 ∧
      ∀ L' ρ' σ' H', Ex (hide (A ++ L) H2) (hide L' H') → R K M (some p) F2 L' ρ' σ' H' → R K M P F L' ⟨ρ'.sl.map noSt, ρ.n + ρ'.n⟩ σ' H' := by
  obtain ⟨A0, h0⟩ : ∃ A0 : List Addr, (∀ q, P = some q → M.holds K q ρ.n A0 H) ∧ NoTb A0 H ∧ (∀ a ∈ A0, a ∈ L ∧ F a = none) ∧ ∀ (i : Nat) (xs : Ow) (l : Addr), ρ.sl[i]? = some (.own xs) → σ[i]? = some (some (.ref l)) → l ∉ A0 := by
    cases P with
    | none => exact ⟨[], ⟨fun q z => by (cases z), fun a z => absurd z List.not_mem_nil, fun a z => absurd z List.not_mem_nil, fun _ _ _ _ _ z => absurd z List.not_mem_nil⟩⟩
    | some q =>
      obtain ⟨A0, a1, a2, a3⟩ := r.m q rfl
      exact ⟨A0, fun q' z => by cases z; exact a1, M.nt a1, a2, a3⟩
  obtain ⟨m0, n0, a2, a3⟩ := h0
  have e : Ex (hide L H) (hide (A ++ L) H2) := fun a o ho => by
    obtain ⟨h1, h2⟩ := hide_some.mp ho
    refine hide_some.mpr ⟨fun z => ?_, hk a o h2⟩
    rcases List.mem_append.mp z with z | z
    · rw [(hA a z).1] at h2; cases h2
    · exact h1 z
  have kA : ∀ {a : Addr}, a ∈ A0 → keepA A0 F H a = H a := fun {a} h => by unfold keepA; rw [if_pos h]
  have kN : ∀ {a : Addr}, a ∉ A0 → keepA A0 F H a = F a := fun {a} h => by unfold keepA; rw [if_neg h]
  have inH : ∀ {j : Nat} {xs : Ow} {l : Addr}, ρ.sl[j]? = some (Sl.own xs) → σ[j]? = some (some (V.ref l)) → ∃ o, H l = some o := fun {j xs l} h1 h2 => by
    obtain ⟨l', vs, g1, g2, g3, _⟩ := r.getOwn h1
    rw [h2] at g1
    cases g1
    exact ⟨_, g3⟩
  have slot : ∀ {j : Nat} {s : Sl}, (ρ.sl.set i .st)[j]? = some s → j ≠ i → ρ.sl[j]? = some s := fun {j s} h n => by rwa [List.getElem?_set_ne (fun z => n z.symm)] at h
  have slotσ : ∀ {j : Nat} {o : Option V}, (σ.set i (some (V.ref p)))[j]? = some o → j ≠ i → σ[j]? = some o := fun {j s} h n => by rwa [List.getElem?_set_ne (fun z => n z.symm)] at h
  have here : ∀ {j : Nat} {s : Sl}, (ρ.sl.set i .st)[j]? = some s → j = i → s = .st := fun {j s} h n => by
    subst n
    have hj : j < ρ.sl.length := by
      have := (List.getElem?_eq_some_iff.mp h).1
      simpa using this
    rw [List.getElem?_set_self hj] at h
    cases h
    rfl
  have ownNe : ∀ {j : Nat} {xs : Ow}, (ρ.sl.set i .st)[j]? = some (Sl.own xs) → j ≠ i := fun {j xs} h z => by have := here h z; cases this
  refine ⟨keepA A0 F H, e, ⟨by simp [r.len], fun j s o h1 h2 => ?_, fun a o ho => ?_, fun a ha => ?_, fun a b xs ys l hab h1 h2 h3 h4 => ?_, fun j xs l h1 h2 => ?_, fun q hq => ?_, r.tb.move e fun P' ps k1 k2 k3 => ⟨by rw [kN fun z => n0 P' z ps k3]; exact k1, List.mem_append_right _ k2, hk _ _ k3⟩⟩, fun L' ρ' σ' H' e' r' => ?_⟩
  · have h1 : (ρ.sl.set i .st)[j]? = some s := h1
    by_cases ej : j = i
    · have := here h1 ej
      subst this
      subst ej
      have hj : j < σ.length := by
        have := (List.getElem?_eq_some_iff.mp h2).1
        simpa using this
      rw [List.getElem?_set_self hj] at h2
      cases h2
      exact ⟨p, rfl, rfl⟩
    · have g := r.sl j s o (slot h1 ej) (slotσ h2 ej)
      cases s with
      | no => trivial
      | d x =>
        obtain ⟨v, g1, g2⟩ := g
        exact ⟨v, g1, dp_ex e _ _ g2⟩
      | own xs =>
        obtain ⟨l, vs, g1, g2, g3, g4⟩ := g
        exact ⟨l, vs, g1, List.mem_append_right _ g2, hk l _ g3, g4.up e⟩
      | st => exact absurd (slot h1 ej) (hns j)
      | raw v => exact g
      | exc a d fl => exact ⟨g.1, g.2.up e⟩
  · by_cases ha : a ∈ A0
    · rw [kA ha] at ho
      exact ⟨hk a o ho, List.mem_append_right _ (a2 a ha).1⟩
    · rw [kN ha] at ho
      obtain ⟨f1, f2⟩ := r.fr a o ho
      exact ⟨hk a o f1, List.mem_append_right _ f2⟩
  · rcases List.mem_append.mp ha with z | z
    · exact (hA a z).2
    · obtain ⟨o, ho⟩ := r.tr a z
      exact ⟨o, hk a o ho⟩
  · have n1 := ownNe h1
    have n2 := ownNe h2
    exact r.apart a b xs ys l hab (slot h1 n1) (slot h2 n2) (slotσ h3 n1) (slotσ h4 n2)
  · have n1 := ownNe h1
    have g1 := slot h1 n1
    have g2 := slotσ h2 n1
    rw [kN (a3 j xs l g1 g2)]
    exact r.ownF j xs l g1 g2
  · cases hq
    refine ⟨A, hm, fun a ha => ⟨List.mem_append_left _ ha, ?_⟩, fun j xs l h1 h2 z => ?_⟩
    · have hn := (hA a ha).1
      by_cases i0 : a ∈ A0
      · rw [kA i0]; exact hn
      · rw [kN i0]
        cases f : F a with
        | none => rfl
        | some o =>
          have := (r.fr a o f).1
          rw [hn] at this
          cases this
    · have n1 := ownNe h1
      obtain ⟨o, ho⟩ := inH (slot h1 n1) (slotσ h2 n1)
      rw [(hA l z).1] at ho
      cases ho
  · have frz : ∀ {j : Nat} {s : Sl}, (ρ'.sl.map noSt)[j]? = some s → s = .no ∨ (ρ'.sl[j]? = some s ∧ s ≠ .st) := fun {j s} h => by
      rw [List.getElem?_map] at h
      cases z : ρ'.sl[j]? with
      | none => rw [z] at h; cases h
      | some t =>
        rw [z] at h
        cases t <;> (cases h; first | exact .inl rfl | exact .inr ⟨rfl, by intro q; cases q⟩)
    have own' : ∀ {j : Nat} {xs : Ow}, (ρ'.sl.map noSt)[j]? = some (Sl.own xs) → ρ'.sl[j]? = some (.own xs) := fun {j xs} h => by
      rcases frz h with z | z
      · cases z
      · exact z.1
    have FF : ∀ {a : Addr} {o : HO}, F a = some o → keepA A0 F H a = some o := fun {a o} h => by
      by_cases i0 : a ∈ A0
      · rw [(a2 a i0).2] at h; cases h
      · rw [kN i0]; exact h
    refine ⟨by simp [r'.len], fun j s o h1 h2 => ?_, fun a o ho => r'.fr a o (FF ho), r'.tr, fun a b xs ys l hab h1 h2 h3 h4 => r'.apart a b xs ys l hab (own' h1) (own' h2) h3 h4, fun j xs l h1 h2 => ?_, fun q hq => ?_, r'.tb.move (Ex.refl _) fun P' ps k1 k2 k3 => ⟨by
      cases z : F P' with
      | none => rfl
      | some o => (rw [FF z] at k1; cases k1), k2, k3⟩⟩
    · rcases frz h1 with z | z
      · subst z; trivial
      · have g := r'.sl j s o z.1 h2
        cases s with
        | no => trivial
        | d x => exact g
        | own xs => exact g
        | st => exact absurd rfl z.2
        | raw v => exact g
        | exc a d fl => exact g
    · have g := r'.ownF j xs l (own' h1) h2
      cases f : F l with
      | none => rfl
      | some o =>
        rw [FF f] at g
        cases g
    · have old : ∀ a ∈ A0, ∀ o, H a = some o → H' a = some o ∧ a ∈ L' := fun a ha o ho => r'.fr a o (by rw [kA ha]; exact ho)
      refine ⟨A0, M.le (Nat.le_add_right _ _) (M.loc (fun a ha o ho => (old a ha o ho).1) (m0 q hq)), fun a ha => ⟨?_, (a2 a ha).2⟩, fun j xs l h1 h2 z => ?_⟩
      · obtain ⟨o, ho⟩ := r.tr a (a2 a ha).1
        exact (old a ha o ho).2
      · have g := r'.ownF j xs l (own' h1) h2
        rw [kA z] at g
        obtain ⟨o, ho⟩ := r.tr l (a2 l z).1
        rw [ho] at g
        cases g
end
section
variable {X : Cx} {M : Mk0} {e : Expr} {es : List Expr} {fl : FL} {fs : FS} {pos spos p : Pos} {st : Stmt} {sts : List Stmt} {k : Nat} {f : Addr} {fd : FuncData} {ps : List Str} {n : Nat} {x y : Str} {py : Pos}
def fsBegin (i n : Nat) (B : List D → Prop) (fl : FL) (fs : FS) : FS := fun ρ P => fl ρ fun ds ρ1 => (∀ j : Nat, ρ1.sl[j]? ≠ some Sl.st) ∧ ds.length = n ∧ B ds ∧ fs ⟨ρ1.sl.set i .st, 0⟩
  { nx := fun ρ' => P.nx ⟨ρ'.sl.map noSt, ρ1.n + ρ'.n⟩, rt := fun d ρ' => P.rt d ⟨ρ'.sl.map noSt, ρ1.n + ρ'.n⟩, bk := fun ρ' => P.bk ⟨ρ'.sl.map noSt, ρ1.n + ρ'.n⟩, ct := fun ρ' => P.ct ⟨ρ'.sl.map noSt, ρ1.n + ρ'.n⟩ }
theorem pds_begin {i : Nat} {B : List D → Prop} (G : FnG X.prog X.w X.K X.mg X.base (L2.CX X.prog X.w) k f fd ps (spB X.k0 M n B)) (hgd : X.A.guards = some []) (hr : Room k X.A) (hg : Gl X x) (hm : X.mg x = some (.ref f)) (hk : PySem.W.keepIn X.K (.ref f) = true) (hb : Binds X.K fd ps [])
    (ha : PDL X M (e :: es) fl) (hn : PG X (.Name y py) (gName i)) (hs : PDs X M sts fs) (hdb : (x == ("__debug__" : Str)) = false := by decide) (he : starEach (e :: es) X.env = (false, eval e X.env) :: starEach es X.env := by rfl)
    (hpl : (backTo pos (starEach es X.env)).any (·.1) = false := by rfl)
    (hsw : swapsWithSole [.Name y py] (.Call (.Name x p) (e :: es) [] pos) spos.line X.env = pure false := by rfl) (hw : swappedStores [.Name y py] (.Call (.Name x p) (e :: es) [] pos) X.env = pure none := by rfl)
    (h1 : (assignEach [.Name y py] X.env).map (·.2) = [assign (.Name y py) X.env] := by rfl) :
    PDs X M (.Assign [.Name y py] (.Call (.Name x p) (e :: es) [] pos) spos :: sts) (fsBegin i n B fl fs) := by
  refine ⟨PSs.wk (pss_cons (ps_asg (pe_callG (E := E0) G hgd hr hg hm hk hb passF ha.pa hdb he hpl) hn hsw hw h1) hs.ps) fun D σ H ⟨P, F, L, ρ, r, q⟩ => ?_,
    fun ρ q q' h z => ha.mono _ _ _ (fun ds ρ1 z => ⟨z.1, z.2.1, z.2.2.1, hs.mono _ _ _ ⟨fun _ z => h.nx _ z, fun _ _ z => h.rt _ _ z, fun _ z => h.bk _ z, fun _ z => h.ct _ z⟩ z.2.2.2⟩) z⟩
  refine ⟨P, F, L, ρ, r, ha.mono _ _ _ (fun ds ρ1 z vs L1 H1 e1 r1 d1 => ?_) q⟩
  obtain ⟨z1, z2, z3, z4⟩ := z
  refine ⟨by rw [dpa_len d1]; exact z2, ds, dpa_ex (hide_le L1 H1) _ _ d1, z3, fun pp A H2 hk2 hA hold => ?_⟩
  obtain ⟨F2, e2, r2, back⟩ := r1.begin i z1 hk2 hA hold
  refine ⟨some pp, F2, A ++ L1, _, r2, hs.mono _ _ _ ⟨fun ρ' g σ' L' H' e' r' => ?_, fun d ρ' g v σ' L' H' e' r' d' => ?_, fun ρ' g σ' L' H' e' r' => ?_, fun ρ' g σ' L' H' e' r' => ?_⟩ z4⟩
  · exact g σ' L' H' ((e1.trans e2).trans e') (back _ _ _ _ e' r')
  · exact g v σ' L' H' ((e1.trans e2).trans e') (back _ _ _ _ e' r') d'
  · exact g σ' L' H' ((e1.trans e2).trans e') (back _ _ _ _ e' r')
  · exact g σ' L' H' ((e1.trans e2).trans e') (back _ _ _ _ e' r')
end
end PD
namespace PD
open PySem L2 PyProof.Rows PySem.Spec
open Evl (Ex)
def kvA (c l : Addr) (k : Int) : List (Key × V) := [(.inr "cells", .ref c), (.inr "left", .ref l), (.inr "at", .int k)]
def MAt (T : List Addr) (nm : Nat → Nat → Str) : Mk0 where
  T := T
  nm := nm
  holds _ p n A H := ∃ (c l : Addr) (cs ls : List Int) (k : Int), A = [p, c, l] ∧ c ≠ l ∧ H p = some (.dK (kvA c l k)) ∧ H c = some (.lst (cs.map V.int)) ∧ H l = some (.lst (ls.map V.int)) ∧ 0 ≤ k ∧ k ≤ n ∧ cs.length ≤ 63 ∧ ls.length ≤ 63
  loc := fun {K p n A H H'} h ⟨c, l, cs, ls, k, eA, n1, h1, h2, h3, r⟩ => by
    subst eA
    exact ⟨c, l, cs, ls, k, rfl, n1, h _ (by simp) _ h1, h _ (by simp) _ h2, h _ (by simp) _ h3, r⟩
  le := fun {K p n m A H} hm ⟨c, l, cs, ls, k, eA, n1, h1, h2, h3, a, b, r⟩ => ⟨c, l, cs, ls, k, eA, n1, h1, h2, h3, a, by omega, r⟩
  nt := fun ⟨c, l, cs, ls, k, eA, n1, h1, h2, h3, _⟩ => by subst eA; exact nt3 h1 h2 h3
abbrev MA : Mk0 := MAt [] (fun _ _ => "")
structure SA (H0 : Hp) (p c l0 : Addr) (cs : List Int) (l : Addr) (ls : List Int) (k : Int) (H : Hp) : Prop where
  hp : H p = some (.dK (kvA c l k))
  hc : H c = some (.lst (cs.map V.int))
  hl : H l = some (.lst (ls.map V.int))
  ncl : c ≠ l
  fresh : l = l0 ∨ H0 l = none
  same : ∀ a o, H0 a = some o → a ≠ p → a ≠ l0 → H a = some o
  h0 : ∃ o, H l0 = some o
  cn : c ≠ l0
  ln : ls.length ≤ 63
section
variable {H0 H : Hp} {p c l0 l : Addr} {cs ls : List Int} {k : Int}
theorem SA.new (S : SA H0 p c l0 cs l ls k H) {t : Addr} {o : HO} (ht : H t = none) : SA H0 p c l0 cs l ls k (upd H t o) :=
  ⟨by rw [upd_ne (ne_of_none S.hp ht)]; exact S.hp, by rw [upd_ne (ne_of_none S.hc ht)]; exact S.hc, by rw [upd_ne (ne_of_none S.hl ht)]; exact S.hl, S.ncl, S.fresh,
   fun a o' h n1 n2 => by have := S.same a o' h n1 n2; rw [upd_ne (ne_of_none this ht)]; exact this, by obtain ⟨o', h⟩ := S.h0; exact ⟨o', by rw [upd_ne (ne_of_none h ht)]; exact h⟩, S.cn, S.ln⟩
theorem SA.np (S : SA H0 p c l0 cs l ls k H) : p ≠ l ∧ p ≠ c := by
  constructor
  · intro e
    have h := S.hp
    rw [e, S.hl] at h
    cases h
  · intro e
    have h := S.hp
    rw [e, S.hc] at h
    cases h
theorem kvA_cells : valV (kvA c l k) (.inr "cells" : Key) = some (.ref c) := rfl
theorem kvA_left : valV (kvA c l k) (.inr "left" : Key) = some (.ref l) := rfl
theorem kvA_at : valV (kvA c l k) (.inr "at" : Key) = some (.int k) := rfl
theorem kvA_pleft {l' : Addr} : putK (kvA c l k) (.inr "left" : Key) (.ref l') = kvA c l' k := rfl
theorem kvA_pat {k' : Int} : putK (kvA c l k) (.inr "at" : Key) (.int k') = kvA c l k' := rfl
end
theorem hide_nil (H : Hp) : hide [] H = H := by
  funext a
  unfold hide
  rw [if_neg List.not_mem_nil]
theorem dp_ints {K : PySem.W.Frag} {w : World} {H : Hp} {l : Addr} {ls : List Int} (h : H l = some (.lst (ls.map V.int))) : Dp K H (.ref l) (.list (ls.map PyData.int)) := by
  exact rp_dp (K := ⟨K, w, default⟩) _ _ (SeqAt.canLay_of_shaped (PySem.W.ke_shaped_ints ls)) (.lst (.inl (.inl h)) (dpa_ints _))
/-- o[key] != [], o a dict, a list of ints there -/
theorem t_neNil {K : PySem.W.Frag} (w : World) {σ : L2.St} {H : Hp} {Q : Bool → Hp → Prop} {i : Nat} {p l : Addr} {kvs : List (Key × V)} {x : Str} {ls : List Int} (h0 : σ[i]? = some (some (.ref p))) (hp : H p = some (.dK kvs)) (hv : valV kvs (.inr x : Key) = some (.ref l))
    (hl : H l = some (.lst (ls.map V.int))) (q : ∀ t, H t = none → Q (!decide (ls = [])) (upd H t (.lst []))) : tTest (tOp (rNeD K) (tDGet (tVar i) (tC (.str x))) (tLst tNil)) σ H Q := by
  refine ⟨_, h0, p, .ref l, rfl, by have := DGet.k (k := (.inr x : Key)) hp; rw [hv] at this; exact this, by show 0 ≤ sizeLine; omega, fun t ht => ?_⟩
  refine ⟨_, _, dp_ints (w := w) (by rw [upd_ne (ne_of_none hl ht)]; exact hl), dp_ints (w := w) (ls := []) upd_same, PySem.W.ke_shaped_ints _, PySem.W.ke_shaped_ints [], _, rfl, ?_⟩
  have e : PyData.eqv (.list (ls.map PyData.int)) (.list (([] : List Int).map PyData.int)) = decide (ls = []) := by
    cases ls with
    | nil => rfl
    | cons a b => simp [PyData.eqv, PyData.eqvAll]
  rw [e]
  exact q t ht
/-- o[key] -/
theorem t_get {σ : L2.St} {H : Hp} {Q : VK} {i : Nat} {p : Addr} {kvs : List (Key × V)} {x : Str} {v : V} (h0 : σ[i]? = some (some (.ref p))) (hp : H p = some (.dK kvs)) (hv : valV kvs (.inr x : Key) = some v) (q : Q v H) : tDGet (tVar i) (tC (.str x)) σ H Q :=
  ⟨_, h0, p, v, rfl, by have := DGet.k (k := (.inr x : Key)) hp; rw [hv] at this; exact this, q⟩
def W_nextA : FE := fun ρ k => ∃ t : Int, ρ.sl = [.st, .d (.int t)] ∧ 0 < t ∧ t < 1073741824 ∧ ρ.n < 1000000000000 ∧ ∀ r : Int, 0 ≤ r → r < t → k (.int r) ⟨ρ.sl, ρ.n + 1⟩
theorem mW_nextA (ρ : Rho) (k k' : KD) (h : ∀ d ρ', k d ρ' → k' d ρ') (q : W_nextA ρ k) : W_nextA ρ k' := by
  obtain ⟨t, e, h1, h0, h2, h3⟩ := q
  exact ⟨t, e, h1, h0, h2, fun r a b => h _ _ (h3 r a b)⟩
theorem at0 {α : Type} {x : α} {xs : List α} : atI (x :: xs) 0 = some x := atI_nat (j := 0) rfl
theorem cut1 {x : V} {xs : List V} : cutV (x :: xs) (some 1) none = xs := by
  unfold cutV
  have e1 : HT.sIx (x :: xs).length 0 (some 1) = 1 := by
    simp [HT.sIx]
  have e2 : HT.sIx (x :: xs).length (x :: xs).length none = (x :: xs).length := by simp [HT.sIx]
  rw [e1, e2]
  simp
/-- the end of a draw -/
theorem endA {K : Fr0} {F : Hp} {L : List Addr} {ρ : Rho} {σ : L2.St} {H Hf : Hp} {p c l0 l : Addr} {cs ls : List Int} {k : Int} {Q : VK} {t x : Int} {T : List Addr} {nm : Nat → Nat → Str} (r : R K (MAt T nm) (some p) F L ρ σ H)
    (hA : (∀ a ∈ [p, c, l0], a ∈ L ∧ F a = none) ∧ ∀ (i : Nat) (xs : Ow) (l : Addr), ρ.sl[i]? = some (.own xs) → σ[i]? = some (some (.ref l)) → l ∉ [p, c, l0])
    (S : SA H p c l0 cs l ls k Hf) (hH : NoTb [p, c, l0] H) (hc : cs.length ≤ 63) (h0 : 0 ≤ k) (h1 : k ≤ (ρ.n + 1 : Nat)) (ht : 0 < t)
    (hk : ∀ r : Int, 0 ≤ r → r < t → KV' K (MAt T nm) (some p) F L σ H Q (.int r) ⟨ρ.sl, ρ.n + 1⟩) : Q (.int (x % t)) Hf := by
  obtain ⟨e, r'⟩ := R.drawn (M := MAt T nm) (A' := [p, c, l]) (m := ρ.n + 1) r hA hH ⟨c, l, cs, ls, k, rfl, S.ncl, S.hp, S.hc, S.hl, h0, h1, hc, S.ln⟩ (fun a o ha n => S.same a o ha (fun e => n (by simp [e])) (fun e => n (by simp [e])))
    (fun a ha => by
      rcases List.mem_cons.mp ha with e | ha
      · exact ⟨_, e ▸ S.hp⟩
      · rcases List.mem_cons.mp ha with e | ha
        · exact ⟨_, e ▸ S.hc⟩
        · rcases List.mem_cons.mp ha with e | ha
          · exact e ▸ S.h0
          · cases ha)
    (fun a ha => by
      rcases List.mem_cons.mp ha with e | ha
      · exact ⟨.inl (by simp [e]), _, e ▸ S.hp⟩
      · rcases List.mem_cons.mp ha with e | ha
        · exact ⟨.inl (by simp [e]), _, e ▸ S.hc⟩
        · rcases List.mem_cons.mp ha with e | ha
          · refine ⟨?_, _, e ▸ S.hl⟩
            rcases S.fresh with f | f
            · exact .inl (by simp [e, f])
            · exact .inr (by rw [e]; exact f)
          · cases ha)
  exact hk (x % t) (Int.emod_nonneg _ (by omega)) (Int.emod_lt_of_pos _ ht) _ _ _ e r' (.int _)
theorem comp_big (ns : List Int) : ∀ (acc : List Int) (ρ : Rho) (k : List D → Rho → Prop) (s0 s1 : Sl), ρ.sl = [s0, s1] → (∀ ms : List Int, ms.length ≤ acc.length + ns.length → k (ms.map .int) ρ) →
    compD (fgN 1) (ftB (fOp gGe (fVar 1) (fOp gPow (fC (.int 10)) (fC (.int 18))))) (fVar 1) [1] (ns.map .int) (acc.map .int) ρ k := by
  induction ns with
  | nil => intro acc ρ k s0 s1 e h; exact h acc (by simp)
  | cons x xs ih =>
    intro acc ρ k s0 s1 e h
    obtain ⟨sl, n⟩ := ρ
    simp only at e
    subst e
    refine ⟨.int x, rfl, .int (10 ^ 18), by simp [gPow], _, rfl, _, rfl, ?_⟩
    refine ite2 (fun _ => ?_) (fun _ => ?_)
    · refine ⟨.int x, rfl, ?_⟩
      have := ih (acc ++ [x]) ⟨[s0, s1], n⟩ k s0 s1 rfl fun ms hm => h ms (by simp at hm ⊢; omega)
      rw [List.map_append] at this
      exact this
    · exact ih acc ⟨[s0, s1], n⟩ k s0 s1 rfl fun ms hm => h ms (by simp at hm ⊢; omega)
def B_law : List D → Prop := fun ds => ∃ ns : List Int, ds = [.list (ns.map .int)] ∧ ns.length ≤ 63
end PD
namespace PD
open PySem L2 PyProof.Rows PySem.Spec
open Evl (Ex)
theorem spD_imp {K : Fr0} {M : Mk0} {n : Nat} {W W' : FE} (h : ∀ ρ k, W' ρ k → W ρ k) (vs : List V) (H : Hp) (Q : VK) (E : XK) (q : spD K M n W' vs H Q E) : spD K M n W vs H Q E := by
  obtain ⟨P, F, L, ρ, r, hb, hl, hw⟩ := q
  exact ⟨P, F, L, ρ, r, hb, hl, h _ _ hw⟩
theorem ints_of (ns : List Int) : intsD (ns.map PyData.int) = some ns := by
  induction ns with
  | nil => rfl
  | cons a b ih => simp [intsD, ih]
theorem bools_of (bs : List Bool) : boolsD (bs.map PyData.bool) = some bs := by
  induction bs with
  | nil => rfl
  | cons a b ih => simp [boolsD, ih]
theorem flat_ints (ns : List Int) : (ns.map PyData.int).all flatD = true := by
  induction ns with
  | nil => rfl
  | cons a b ih => simp [flatD]
theorem any_ints (ns : List Int) (x : Int) : ((ns.map PyData.int).any fun y => PyData.eqv y (.int x)) = decide (x ∈ ns) := by
  induction ns with
  | nil => rfl
  | cons a b ih =>
    rw [List.map_cons, List.any_cons, ih]
    by_cases e : a = x
    · subst e; simp [PyData.eqv]
    · have e' : ¬ x = a := fun z => e z.symm
      simp [PyData.eqv, e, e']
theorem gIn_ints (ns : List Int) (x : Int) : gIn (.int x) (.tuple (ns.map .int)) = some (.bool (decide (x ∈ ns))) := by
  show (if flatD (.int x) = true ∧ (ns.map PyData.int).all flatD = true then some (PyData.bool ((ns.map PyData.int).any fun y => PyData.eqv y (.int x))) else none) = _
  rw [if_pos ⟨rfl, flat_ints ns⟩, any_ints]
theorem gIn_intsL (ns : List Int) (x : Int) : gIn (.int x) (.list (ns.map .int)) = some (.bool (decide (x ∈ ns))) := by
  show (if flatD (.int x) = true ∧ (ns.map PyData.int).all flatD = true then some (PyData.bool ((ns.map PyData.int).any fun y => PyData.eqv y (.int x))) else none) = _
  rw [if_pos ⟨rfl, flat_ints ns⟩, any_ints]
theorem gNotIn_ints (ns : List Int) (x : Int) : gNotIn (.int x) (.tuple (ns.map .int)) = some (.bool (!decide (x ∈ ns))) := by
  show (if flatD (.int x) = true ∧ (ns.map PyData.int).all flatD = true then some (PyData.bool (!(ns.map PyData.int).any fun y => PyData.eqv y (.int x))) else none) = _
  rw [if_pos ⟨rfl, flat_ints ns⟩, any_ints]
theorem gNotIn_intsL (ns : List Int) (x : Int) : gNotIn (.int x) (.list (ns.map .int)) = some (.bool (!decide (x ∈ ns))) := by
  show (if flatD (.int x) = true ∧ (ns.map PyData.int).all flatD = true then some (PyData.bool (!(ns.map PyData.int).any fun y => PyData.eqv y (.int x))) else none) = _
  rw [if_pos ⟨rfl, flat_ints ns⟩, any_ints]
theorem gIx_tup {xs : List D} {i : Nat} {d : D} (h : xs[i]? = some d) : gIx (.tuple xs) (.int (i : Int)) = some d := atI_nat h
/-- the same over the pictures of things -/
theorem comp_on {α : Type} {g : FG} {ft : FT} {fe : FE} {vs : List Nat} {ρ : Rho} {k : List D → Rho → Prop} (c : α → D) (p : α → Bool) (f : α → D) : ∀ (xs : List α) (acc : List D),
    (∀ x ∈ xs, ∀ (kt : D → Rho → Prop) (kf : Rho → Prop), (p x = true → ∀ ρ3 : Rho, ρ3.n = ρ.n → kt (f x) ρ3) → (p x = false → ∀ ρ2 : Rho, ρ2.n = ρ.n → kf ρ2) → g (c x) (wipeR vs ρ) fun ρ1 => ft ρ1 fun b ρ2 => if b = true then fe ρ2 kt else kf ρ2) →
    k (acc ++ (xs.filter p).map f) ρ → compD g ft fe vs (xs.map c) acc ρ k
  | [], acc, _, q => by simpa [compD] using q
  | x :: xs, acc, s, q => by
    rw [List.map_cons]
    unfold compD
    refine s x List.mem_cons_self _ _ (fun hp ρ3 e => ?_) (fun hp ρ2 e => ?_)
    · rw [e]
      refine comp_on c p f xs _ (fun y hy => s y (List.mem_cons_of_mem _ hy)) ?_
      rw [List.filter_cons, if_pos hp] at q
      simpa using q
    · rw [e]
      refine comp_on c p f xs _ (fun y hy => s y (List.mem_cons_of_mem _ hy)) ?_
      rw [List.filter_cons, if_neg (by simp [hp])] at q
      exact q
theorem comp_all {α : Type} {g : FG} {fe : FE} {vs : List Nat} {ρ : Rho} {k : List D → Rho → Prop} (c : α → D) (f : α → D) (xs : List α) (s : ∀ x ∈ xs, ∀ kt : D → Rho → Prop, (∀ ρ3 : Rho, ρ3.n = ρ.n → kt (f x) ρ3) → g (c x) (wipeR vs ρ) fun ρ1 => fe ρ1 kt)
    (q : k (xs.map f) ρ) : compD g ftYes fe vs (xs.map c) [] ρ k := by
  refine comp_on c (fun _ => true) f xs [] (fun x hx kt kf h1 h2 => ?_) (by
    rw [show xs.filter (fun _ => true) = xs from List.filter_eq_self.mpr fun _ _ => rfl]
    exact q)
  have := s x hx kt (h1 rfl)
  simpa [ftYes] using this
theorem gEq_ii (i j : Int) : gEq (.int i) (.int j) = some (.bool (decide (i = j))) := by
  show (if SeqAt.shaped (.int i) = true ∧ SeqAt.shaped (.int j) = true then some (PyData.bool (i == j)) else none) = _
  rw [if_pos ⟨rfl, rfl⟩]
  rfl
theorem gNe_ii (i j : Int) : gNe (.int i) (.int j) = some (.bool (!decide (i = j))) := by
  show (if SeqAt.shaped (.int i) = true ∧ SeqAt.shaped (.int j) = true then some (PyData.bool (!(i == j))) else none) = _
  rw [if_pos ⟨rfl, rfl⟩]
  rfl
theorem gAll_bs (bs : List Bool) : gAll (.list (bs.map .bool)) = some (.bool (bs.all id)) := by
  show (boolsD (bs.map PyData.bool)).map _ = _
  rw [bools_of]
  rfl
theorem gAny_bs (bs : List Bool) : gAny (.list (bs.map .bool)) = some (.bool (bs.any id)) := by
  show (boolsD (bs.map PyData.bool)).map _ = _
  rw [bools_of]
  rfl
theorem truD_b (b : Bool) : truD (.bool b) = some b := rfl
theorem truD_i (i : Int) : truD (.int i) = some (i != 0) := rfl
theorem truD_l (xs : List D) : truD (.list xs) = some (!xs.isEmpty) := rfl
theorem truD_t (xs : List D) : truD (.tuple xs) = some (!xs.isEmpty) := rfl
theorem truD_n : truD .none = some false := rfl
theorem gIx_t0 (x : D) (xs : List D) : gIx (.tuple (x :: xs)) (.int 0) = some x := atI_nat (j := 0) rfl
theorem gIx_t1 (x y : D) (xs : List D) : gIx (.tuple (x :: y :: xs)) (.int 1) = some y := atI_nat (j := 1) rfl
theorem gIx_t2 (x y z : D) (xs : List D) : gIx (.tuple (x :: y :: z :: xs)) (.int 2) = some z := atI_nat (j := 2) rfl
theorem cut_from1 (x : D) (xs : List D) : cutD (x :: xs) (some 1) none = xs := by
  unfold cutD
  have e1 : HT.sIx (x :: xs).length 0 (some 1) = 1 := by simp [HT.sIx]
  have e2 : HT.sIx (x :: xs).length (x :: xs).length none = (x :: xs).length := by simp [HT.sIx]
  rw [e1, e2]
  simp
theorem cut_tail (xs : List D) : cutD xs (some 1) none = xs.tail := by
  cases xs with
  | nil => rfl
  | cons x xs => exact cut_from1 x xs
theorem gSl_t (xs : List D) : gSl (.tuple xs) (some 1) none = some (.tuple xs.tail) := by
  show some (PyData.tuple (cutD xs (some 1) none)) = _
  rw [cut_tail]
theorem gSl_l (xs : List D) : gSl (.list xs) (some 1) none = some (.list xs.tail) := by
  show some (PyData.list (cutD xs (some 1) none)) = _
  rw [cut_tail]
theorem zip_ints (ns ms : List Int) : zipD (.tuple (ns.map .int)) (.tuple (ms.map .int)) = some ((ns.zip ms).map fun p => PyData.tuple [.int p.1, .int p.2]) := by
  show some (List.zipWith _ _ _) = _
  rw [List.zipWith_map]
  simp [List.zip, List.map_zipWith]
theorem eqv_ints : ∀ (ns ms : List Int), PyData.eqvAll (ns.map .int) (ms.map .int) = decide (ns = ms)
  | [], [] => rfl
  | [], _ :: _ => rfl
  | _ :: _, [] => rfl
  | a :: as, b :: bs => by
    show (PyData.eqv (.int a) (.int b) && PyData.eqvAll (as.map .int) (bs.map .int)) = _
    rw [eqv_ints as bs]
    by_cases e : a = b
    · subst e; simp [PyData.eqv]
    · simp [PyData.eqv, e]
theorem shaped_tup (ns : List Int) : SeqAt.shaped (.tuple (ns.map PyData.int)) = true := by
  have := PySem.W.ke_shaped_ints ns
  simpa [SeqAt.shaped, PyData.canLay0, PyData.depth] using this
theorem gEq_tt (ns ms : List Int) : gEq (.tuple (ns.map .int)) (.tuple (ms.map .int)) = some (.bool (decide (ns = ms))) := by
  show (if SeqAt.shaped (.tuple (ns.map .int)) = true ∧ SeqAt.shaped (.tuple (ms.map .int)) = true then some (PyData.bool (PyData.eqvAll (ns.map .int) (ms.map .int))) else none) = _
  rw [if_pos ⟨shaped_tup ns, shaped_tup ms⟩, eqv_ints]
theorem gLen_t (xs : List D) : gLen (.tuple xs) = some (.int xs.length) := rfl
theorem gLen_l (xs : List D) : gLen (.list xs) = some (.int xs.length) := rfl
theorem rangeD_nat (n : Nat) : rangeD 0 (n : Int) = (List.range n).map fun i : Nat => PyData.int (i : Int) := by
  unfold rangeD
  rw [show ((n : Int) - 0).toNat = n by omega]
  refine List.map_congr_left fun i _ => ?_
  rw [Int.zero_add]
theorem isort_strict {ns : List Int} (h : ns.Nodup) : (isort ns).Pairwise (· < ·) := by
  have h1 := isort_le ns
  have h2 : (isort ns).Nodup := (isort_perm ns).nodup_iff.mpr h
  exact (h1.and h2).imp fun ⟨a, b⟩ => by
    have b : _ ≠ _ := b
    omega
theorem fnComp_i {fi : FI} {g : FG} {ft : FT} {fe : FE} {vs : List Nat} {ρ : Rho} {k : List D → Rho → Prop} (h : fi ρ fun ds ρ1 => ds.length ≤ 1000000 ∧ compD g ft fe vs ds [] ⟨ρ1.sl.map dropOwn, ρ1.n⟩ fun out ρ2 => k out ⟨ρ1.sl, ρ2.n⟩) : fnComp fi g ft fe vs ρ k := h
/-- a comprehension that draws once for each -/
theorem comp_draw {α : Type} {g : FG} {fe : FE} {vs : List Nat} {k : List D → Rho → Prop} (c : α → D) (t : Int) (N : Nat) (sl : List Sl) : ∀ (xs : List α) (acc : List Int) (n : Nat), n + xs.length ≤ N →
    (∀ x ∈ xs, ∀ n' : Nat, n' < N → ∀ kt : D → Rho → Prop, (∀ r : Int, 0 ≤ r → r < t → ∀ ρ3 : Rho, ρ3.n = n' + 1 → kt (.int r) ρ3) → g (c x) (wipeR vs ⟨sl, n'⟩) fun ρ1 => fe ρ1 kt) →
    (∀ rs : List Int, rs.length = xs.length → (∀ r ∈ rs, 0 ≤ r ∧ r < t) → k ((acc ++ rs).map .int) ⟨sl, n + xs.length⟩) → compD g ftYes fe vs (xs.map c) (acc.map .int) ⟨sl, n⟩ k
  | [], acc, n, _, _, q => by
    have := q [] rfl fun r hr => absurd hr List.not_mem_nil
    simpa [compD] using this
  | x :: xs, acc, n, hn, s, q => by
    rw [List.length_cons] at hn
    rw [List.map_cons]
    unfold compD
    have st := s x List.mem_cons_self n (by omega) (fun y ρ3 => compD g ftYes fe vs (xs.map c) (acc.map .int ++ [y]) ⟨sl, ρ3.n⟩ k) fun r h0 h1 ρ3 e => by
      rw [e]
      have := comp_draw c t N sl xs (acc ++ [r]) (n + 1) (by omega) (fun y hy => s y (List.mem_cons_of_mem _ hy)) fun rs hl hr => by
        have := q (r :: rs) (by rw [List.length_cons, hl, List.length_cons]) fun z hz => by
          rcases List.mem_cons.mp hz with u | u
          · subst u; exact ⟨h0, h1⟩
          · exact hr z u
        rw [List.length_cons] at this
        rw [List.append_assoc, show n + 1 + xs.length = n + (xs.length + 1) by omega]
        exact this
      rw [List.map_append] at this
      exact this
    simpa [ftYes] using st
/-- one whose test draws once for each -/
theorem comp_drawF {α : Type} {g : FG} {ft : FT} {fe : FE} {vs : List Nat} {k : List D → Rho → Prop} (c f : α → D) (N : Nat) (sl : List Sl) : ∀ (xs : List α) (acc : List D) (n : Nat), n + xs.length ≤ N →
    (∀ x ∈ xs, ∀ n' : Nat, n' < N → ∀ (kt : D → Rho → Prop) (kf : Rho → Prop), (∀ ρ3 : Rho, ρ3.n = n' + 1 → kt (f x) ρ3) → (∀ ρ3 : Rho, ρ3.n = n' + 1 → kf ρ3) → g (c x) (wipeR vs ⟨sl, n'⟩) fun ρ1 => ft ρ1 fun b ρ2 => if b = true then fe ρ2 kt else kf ρ2) →
    (∀ ys : List α, ys.length ≤ xs.length → (∀ y ∈ ys, y ∈ xs) → k (acc ++ ys.map f) ⟨sl, n + xs.length⟩) → compD g ft fe vs (xs.map c) acc ⟨sl, n⟩ k
  | [], acc, n, _, _, q => by
    have := q [] (Nat.le_refl _) fun r hr => hr
    simpa [compD] using this
  | x :: xs, acc, n, hn, s, q => by
    rw [List.length_cons] at hn
    rw [List.map_cons]
    unfold compD
    refine s x List.mem_cons_self n (by omega) _ _ (fun ρ3 e => ?_) (fun ρ3 e => ?_)
    · rw [e]
      refine comp_drawF c f N sl xs _ (n + 1) (by omega) (fun y hy => s y (List.mem_cons_of_mem _ hy)) fun ys hl hr => ?_
      have := q (x :: ys) (by rw [List.length_cons, List.length_cons]; omega) fun z hz => by
        rcases List.mem_cons.mp hz with u | u
        · subst u; exact List.mem_cons_self
        · exact List.mem_cons_of_mem _ (hr z u)
      rw [List.length_cons] at this
      rw [List.append_assoc, show n + 1 + xs.length = n + (xs.length + 1) by omega]
      exact this
    · rw [e]
      refine comp_drawF c f N sl xs _ (n + 1) (by omega) (fun y hy => s y (List.mem_cons_of_mem _ hy)) fun ys hl hr => ?_
      have := q ys (by rw [List.length_cons]; omega) fun z hz => List.mem_cons_of_mem _ (hr z hz)
      rw [List.length_cons] at this
      rw [show n + 1 + xs.length = n + (xs.length + 1) by omega]
      exact this
theorem gTuple_l (xs : List D) : gTuple (.list xs) = some (.tuple xs) := rfl
theorem nSortSet_ints {ns : List Int} (h : ns.length < 64) : nSortSet (.list (ns.map .int)) = some ((usort ns).map .int) := by
  show (match intsD (ns.map PyData.int) with | some ns => if ns.length < 64 then some ((usort ns).map PyData.int) else none | none => none) = _
  rw [ints_of]
  show (if ns.length < 64 then some ((usort ns).map PyData.int) else none) = _
  rw [if_pos h]
theorem gAdd_ii (i j : Int) : gAdd (.int i) (.int j) = some (.int (i + j)) := rfl
theorem gAdd_ss (x y : Str) : gAdd (.str x) (.str y) = if x.length + y.length ≤ sizeLine then some (.str (x ++ y)) else none := rfl
theorem gAdd_tt (xs ys : List D) : gAdd (.tuple xs) (.tuple ys) = if xs.length + ys.length ≤ sizeLine then some (.tuple (xs ++ ys)) else none := rfl
theorem gAdd_ll (xs ys : List D) : gAdd (.list xs) (.list ys) = if xs.length + ys.length ≤ sizeLine then some (.list (xs ++ ys)) else none := rfl
theorem fsApp_i {i : Nat} {fa : FE} {ρ : Rho} {P : Post} (h : fa ρ fun d ρ1 => ∃ xs : List D, ρ1.sl[i]? = some (.own xs) ∧ xs.length < 1000000 ∧ P.nx (ρ1.set i (.own (xs ++ [d])))) : fsApp i fa ρ P := h
end PD
namespace PD
open PySem L2 PyProof.Rows PySem.Spec
mutual
def tame : D → Bool
  | .none | .bool _ => true
  | .int i => decide (i.natAbs < 10 ^ 12)
  | .str x => PyData.strOk x
  | .list xs | .tuple xs => tameAll xs
  | .dict _ => false
def tameAll : List D → Bool
  | [] => true
  | x :: xs => tame x && tameAll xs
end
mutual
theorem tame_all : ∀ d : D, tame d = true → d.canLay0 = true ∧ d.showable = true ∧ d.hasDict = false ∧ d.intsShort 13 = true
  | .none, _ => ⟨rfl, rfl, rfl, rfl⟩
  | .bool _, _ => ⟨rfl, rfl, rfl, rfl⟩
  | .int i, h => by
    have h : i.natAbs < 10 ^ 12 := by simpa [tame] using h
    refine ⟨rfl, ?_, rfl, ?_⟩
    · have e : i.natAbs.log2 < 1920 := by
        by_cases z : i.natAbs = 0
        · rw [z]; decide
        · have : i.natAbs.log2 < 40 := (Nat.log2_lt z).mpr (Nat.lt_of_lt_of_le h (by decide))
          omega
      simpa [PyData.showable] using e
    · simpa [PyData.intsShort] using PyData.shown_int_le h
  | .str x, h => ⟨by simpa [tame, PyData.canLay0] using h, rfl, rfl, rfl⟩
  | .list xs, h => by
    obtain ⟨a, b, c, d⟩ := tameAll_all xs (by simpa [tame] using h)
    exact ⟨by simpa [PyData.canLay0] using a, by simpa [PyData.showable] using b, by simpa [PyData.hasDict] using c, by simpa [PyData.intsShort] using d⟩
  | .tuple xs, h => by
    obtain ⟨a, b, c, d⟩ := tameAll_all xs (by simpa [tame] using h)
    exact ⟨by simpa [PyData.canLay0] using a, by simpa [PyData.showable] using b, by simpa [PyData.hasDict] using c, by simpa [PyData.intsShort] using d⟩
theorem tameAll_all : ∀ xs : List D, tameAll xs = true → PyData.canLayAll0 xs = true ∧ PyData.showableAll xs = true ∧ PyData.hasDictAll xs = false ∧ PyData.intsShortAll 13 xs = true
  | [], _ => ⟨rfl, rfl, rfl, rfl⟩
  | x :: xs, h => by
    have h : tame x = true ∧ tameAll xs = true := by simpa [tameAll] using h
    obtain ⟨a, b, c, d⟩ := tame_all x h.1
    obtain ⟨a', b', c', d'⟩ := tameAll_all xs h.2
    refine ⟨?_, ?_, ?_, ?_⟩
    · show (x.canLay0 && _) = true; rw [a, a']; rfl
    · show (x.showable && _) = true; rw [b, b']; rfl
    · show (x.hasDict || _) = false; rw [c, c']; rfl
    · show (x.intsShort 13 && _) = true; rw [d, d']; rfl
end
theorem shaped_tame {d : D} (h : tame d = true) (hd : d.depth ≤ 60) : SeqAt.shaped d = true := by
  unfold SeqAt.shaped
  rw [(tame_all d h).1, decide_eq_true (by omega)]
  rfl
mutual
theorem eqv_self : ∀ d : D, d.hasDict = false → PyData.eqv d d = true
  | .none, _ => rfl
  | .bool b, _ => by simp [PyData.eqv]
  | .int b, _ => by simp [PyData.eqv]
  | .str b, _ => by simp [PyData.eqv]
  | .list xs, h => eqvAll_self xs (by simpa [PyData.hasDict] using h)
  | .tuple xs, h => eqvAll_self xs (by simpa [PyData.hasDict] using h)
  | .dict _, h => by simp [PyData.hasDict] at h
theorem eqvAll_self : ∀ xs : List D, PyData.hasDictAll xs = false → PyData.eqvAll xs xs = true
  | [], _ => rfl
  | x :: xs, h => by
    have h : x.hasDict = false ∧ PyData.hasDictAll xs = false := by simpa [PyData.hasDictAll] using h
    show (PyData.eqv x x && PyData.eqvAll xs xs) = true
    rw [eqv_self x h.1, eqvAll_self xs h.2]
    rfl
end
theorem gNe_self {d : D} (h : tame d = true) (hd : d.depth ≤ 60) : gNe d d = some (.bool false) := by
  unfold gNe
  rw [if_pos ⟨shaped_tame h hd, shaped_tame h hd⟩, eqv_self d (tame_all d h).2.2.1]
  rfl
theorem tame_ints : ∀ {ns : List Int}, (∀ x ∈ ns, x.natAbs < 10 ^ 12) → tameAll (ns.map .int) = true
  | [], _ => rfl
  | x :: xs, h => by
    show (tame (.int x) && tameAll (xs.map .int)) = true
    rw [tame_ints fun y hy => h y (List.mem_cons_of_mem _ hy), show tame (.int x) = true from decide_eq_true (h x List.mem_cons_self)]
    rfl
theorem depth_ints (ns : List Int) : PyData.depthAll (ns.map .int) = 0 := by
  induction ns with
  | nil => rfl
  | cons x xs ih => show max (PyData.depth (.int x)) _ = 0; rw [ih]; rfl
end PD
namespace PD
open PySem L2 PyProof.Rows PySem.Spec
open Evl (Ex)
theorem R.oneT {K : Fr0} {M : Mk0} {H : Hp} {v : V} {d : D} (hT : ∀ t ∈ M.T, H t = some (.tbl #[])) (h : Rp K (hide M.T H) v d) : R K M none (fun _ => none) M.T ⟨[.d d], 0⟩ [some v] H where
  len := rfl
  sl := fun i s o h1 h2 => by
    cases i with
    | zero =>
      cases h1
      cases h2
      exact ⟨v, rfl, h⟩
    | succ i => simp at h1
  fr := fun a o h => nomatch h
  tr := fun a h => ⟨_, hT a h⟩
  apart := fun i j xs ys l _ h1 _ _ _ => by
    cases i with
    | zero => cases h1
    | succ i => simp at h1
  ownF := fun i xs l h1 _ => rfl
  m := fun p h => nomatch h
  tb := fun t ht => ⟨rfl, ht, #[], hT t ht, True.intro, fun pos cv hc => by
    have z : codeAmong pos [] = some cv := hc
    simp [codeAmong] at z⟩
/-- a script of ints, by the promise over data -/
theorem head_ofT {K : Fr0} {M : Mk0} {W : FE} {H : Hp} {a : Addr} {ns : List Int} (hT : ∀ t ∈ M.T, H t = some (.tbl #[])) (hS : SqL K.f H a (ns.map V.int))
    (hW : ∀ k : KD, (∀ n', k (.bool true) ⟨[.d (.list (ns.map .int))], n'⟩) → W ⟨[.d (.list (ns.map .int))], 0⟩ k) :
    spD K M 1 W [.ref a] H (fun v _ => v = .bl true) fun _ _ _ => False := by
  have hS2 : SqL K.f (hide M.T H) a (ns.map V.int) := by
    have nT : ∀ o, H a = some o → (∀ ps, o ≠ .tbl ps) → hide M.T H a = some o := fun o ho no => hide_some.mpr ⟨fun z => by
      have := hT a z
      rw [ho] at this
      exact no _ (Option.some.inj this), ho⟩
    rcases hS with (h | ⟨o, h⟩) | h
    · exact .inl (.inl (nT _ h fun ps z => by cases z))
    · exact .inl (.inr ⟨o, nT _ h fun ps z => by cases z⟩)
    · exact .inr h
  refine ⟨none, fun _ => none, M.T, _, R.oneT hT (.lst hS2 (dpa_ints ns)), fun i xs h => ?_, rfl, hW _ fun n' v L' H' e r d => ?_⟩
  · cases i with
    | zero => cases h
    | succ i => simp at h
  · cases d
    rfl
end PD
namespace PD
open PySem L2 PyProof.Rows PySem.Spec
open Evl (Ex)
def kvB (c l : Addr) (k : Int) : List (Key × V) := [(.inr "cells", .ref c), (.inr "great", .ref l), (.inr "spot", .int k)]
structure SB (H0 : Hp) (p c l0 : Addr) (cs : List Int) (l : Addr) (ls : List Int) (k : Int) (H : Hp) : Prop where
  hp : H p = some (.dK (kvB c l k))
  hc : H c = some (.lst (cs.map V.int))
  hl : H l = some (.lst (ls.map V.int))
  ncl : c ≠ l
  fresh : l = l0 ∨ H0 l = none
  same : ∀ a o, H0 a = some o → a ≠ p → a ≠ l0 → H a = some o
  h0 : ∃ o, H l0 = some o
  cn : c ≠ l0
  ln : ls.length ≤ 63
section
variable {H0 H : Hp} {p c l0 l : Addr} {cs ls : List Int} {k : Int}
theorem SB.new (S : SB H0 p c l0 cs l ls k H) {t : Addr} {o : HO} (ht : H t = none) : SB H0 p c l0 cs l ls k (upd H t o) :=
  ⟨by rw [upd_ne (ne_of_none S.hp ht)]; exact S.hp, by rw [upd_ne (ne_of_none S.hc ht)]; exact S.hc, by rw [upd_ne (ne_of_none S.hl ht)]; exact S.hl, S.ncl, S.fresh,
   fun a o' h n1 n2 => by have := S.same a o' h n1 n2; rw [upd_ne (ne_of_none this ht)]; exact this, by obtain ⟨o', h⟩ := S.h0; exact ⟨o', by rw [upd_ne (ne_of_none h ht)]; exact h⟩, S.cn, S.ln⟩
theorem SB.np (S : SB H0 p c l0 cs l ls k H) : p ≠ l ∧ p ≠ c := by
  constructor
  · intro e
    have h := S.hp
    rw [e, S.hl] at h
    cases h
  · intro e
    have h := S.hp
    rw [e, S.hc] at h
    cases h
end
end PD
namespace PD
open PySem L2 PyProof.Rows PySem.Spec
open Evl (Ex)
section
variable {X : Cx} {M : Mk0} {o e a b : Expr} {fo fa fb : FE} {pos : Pos} {K : Fr0}
def fM0 (g : D → Option D) (fo : FE) : FE := fun ρ k => fo ρ fun x ρ1 => ∃ y, x = .str y ∧ ∃ d, g x = some d ∧ k d ρ1
def fM1 (g : D → D → Option D) (fo fa : FE) : FE := fun ρ k => fo ρ fun x ρ1 => (∃ y, x = .str y) ∧ fa ρ1 fun z ρ2 => ∃ d, g x z = some d ∧ k d ρ2
def fJ : List FE → Str → Rho → (Str → Rho → Prop) → Prop
  | [], acc, ρ, k => k acc ρ
  | f :: fs, acc, ρ, k => f ρ fun d ρ1 => ∃ y : Str, d = .str y ∧ (acc ++ y).length ≤ sizeLine ∧ fJ fs (acc ++ y) ρ1 k
inductive PDJ (X : Cx) (M : Mk0) : List Expr → List FE → Prop where
  | nil : PDJ X M [] []
  | cons {e : Expr} {f : FE} {es : List Expr} {fs : List FE} (h : PD X M e f) (r : PDJ X M es fs) : PDJ X M (e :: es) (f :: fs)
theorem PDJ.mono {es : List Expr} {fs : List FE} (h : PDJ X M es fs) : ∀ (acc : Str) (ρ : Rho) (k k' : Str → Rho → Prop), (∀ d ρ', k d ρ' → k' d ρ') → fJ fs acc ρ k → fJ fs acc ρ k' := by
  induction h with
  | nil => exact fun acc ρ k k' g q => g _ _ q
  | cons h _ ih => exact fun acc ρ k k' g q => h.mono _ _ _ (fun d ρ1 ⟨y, h0, h1, q⟩ => ⟨y, h0, h1, ih _ _ _ _ g q⟩) q
def fJoined (fs : List FE) : FE := fun ρ k => fJ fs Str.empty ρ fun s ρ1 => k (.str s) ρ1
end
end PD
namespace PD
open PySem L2 PyProof.Rows PySem.Spec
open Evl (Ex)
section
variable {X : Cx} {M : Mk0} {a e : Expr} {fa : FE} {pos : Pos} {K : Fr0}
def gTupRg : D → Option D
  | .int n => if 0 ≤ n ∧ n ≤ 1000000 then some (.tuple ((List.range n.toNat).map fun i : Nat => .int (i : Int))) else none
  | _ => none
theorem pd_tupRg {p p2 pos2 : Pos} (hc : X.calm = true) (hg : Gl X "tuple") (hm : X.mg "tuple" = none) (hg2 : Gl X "range") (hm2 : X.mg "range" = none) (ha : PD X M a fa)
    (na : starEach [a] X.env = (false, eval a X.env) :: starEach [] X.env := by rfl) (na2 : starEach [.Call (.Name "range" p2) [a] [] pos2] X.env = (false, eval (.Call (.Name "range" p2) [a] [] pos2) X.env) :: starEach [] X.env := by rfl) :
    PD X M (.Call (.Name "tuple" p) [.Call (.Name "range" p2) [a] [] pos2] [] pos) (fUn gTupRg fa) := by
  refine ⟨PE.wk (pe_tupRg hc hg hm (prg_1 hg2 hm2 ha.pe na) na2) fun σ H Q h => ?_, fUn_mono ha.mono⟩
  refine dUn (r := fun x H Q => ∃ n, x = .int n ∧ RgOk 0 n ∧ ∀ q, H q = none → Q (.ref q) (upd H q (.tup (rgV 0 n)))) ?_ ha.mono σ H Q h
  intro L H x dx d Q tr h1 hg q
  unfold gTupRg at hg
  split at hg
  · split at hg
    · rename_i n c
      cases hg
      obtain rfl := rp_int h1
      refine ⟨n, rfl, ⟨by omega, by omega, by omega, by omega, by omega⟩, fun u hu => q _ _ (Ex.new hu) (new_tup tr hu ?_)⟩
      have e : rgV 0 n = ((List.range n.toNat).map fun i : Nat => (i : Int)).map V.int := by
        unfold rgV
        rw [List.map_map]
        simp
      have e2 : ((List.range n.toNat).map fun i : Nat => PyData.int (i : Int)) = ((List.range n.toNat).map fun i : Nat => (i : Int)).map PyData.int := by
        rw [List.map_map]
        rfl
      rw [e, e2]
      exact dpa_ints _
    · cases hg
  · cases hg
end
end PD
namespace PD
open PySem L2 PyProof.Rows PySem.Spec
open Evl (Ex)
end PD
namespace PD
open PySem L2 PyProof.Rows PySem.Spec
open Evl (Ex)
section
variable {X : Cx} {M : Mk0} {a : Expr} {es : List Expr} {fa : FE} {fl : FL} {p pos : Pos}
/-- *e in a display: the items of a tuple or a list -/
def starD : D → Option (List D)
  | .tuple xs => some xs
  | .list xs => some xs
  | _ => none
def flStar (fa : FE) (fl : FL) : FL := fun ρ k => fa ρ fun d ρ1 => ∃ xs, starD d = some xs ∧ fl ρ1 fun ds ρ2 => k (xs ++ ds) ρ2
end
end PD
namespace PD
open PySem L2 PyProof.Rows PySem.Spec
open Evl (Ex)
section
variable {X : Cx} {M : Mk0} {k : Nat} {f : Addr} {fd : FuncData} {ps : List Str} {n : Nat} {W : FE} {x : Str} {p pos : Pos}
/-- a call without arguments -/
def fCall0 (W : FE) : FE := fun ρ k => W ⟨[], ρ.n⟩ fun d ρ2 => k d ⟨ρ.sl, ρ2.n⟩
end
end PD
namespace PD
open PySem L2 PyProof.Rows PySem.Spec TL
open Evl (Ex)
theorem comp_allD {g : FG} {fe : FE} {vs : List Nat} {ρ : Rho} {k : List D → Rho → Prop} (f : D → D) (xs : List D) (s : ∀ x ∈ xs, ∀ kt : D → Rho → Prop, (∀ ρ3 : Rho, ρ3.n = ρ.n → kt (f x) ρ3) → g x (wipeR vs ρ) fun ρ1 => fe ρ1 kt)
    (q : k (xs.map f) ρ) : compD g ftYes fe vs xs [] ρ k := by
  have := comp_all (g := g) (fe := fe) (vs := vs) (ρ := ρ) (k := k) id f xs s q
  rwa [List.map_id] at this
structure Neat (x : D) (dep wt : Nat) : Prop where
  t : tame x = true
  d : x.depth ≤ dep
  w : x.weight ≤ wt
theorem Neat.mono {d : D} {a b a' b' : Nat} (h : Neat d a b) (ha : a ≤ a') (hb : b ≤ b') : Neat d a' b' := ⟨h.t, Nat.le_trans h.d ha, Nat.le_trans h.w hb⟩
end PD
namespace PD
open PySem L2 PyProof.Rows PySem.Spec
open Evl (Ex)
abbrev XC := Value → List (D × D) → Rho → Prop
abbrev FX := Rho → XC → Prop
def KX (K : Fr0) (M : Mk0) (P : Option Addr) (F : Hp) (L : List Addr) (H : Hp) (W : WX) : XC := fun c fl ρ' => ∀ (σ' : L2.St) (L' : List Addr) (H' : Hp) (d : Option Addr), Ex (hide L H) (hide L' H') → R K M P F L' ρ' σ' H' → XAt K (hide L' H') d fl → W c d σ' H'
def KE (K : Fr0) (M : Mk0) (P : Option Addr) (F : Hp) (L : List Addr) (σ : L2.St) (H : Hp) (E : XK) : XC := fun c fl ρ' => ∀ (L' : List Addr) (H' : Hp) (d : Option Addr), Ex (hide L H) (hide L' H') → R K M P F L' ρ' σ H' → XAt K (hide L' H') d fl → E c d H'
def DX (K : Fr0) (M : Mk0) (W : WX) (f : FX) (σ : L2.St) (H : Hp) : Prop := ∃ P F L ρ, R K M P F L ρ σ H ∧ f ρ (KX K M P F L H W)
/-- an expression that does not end, but raises -/
structure PX (X : Cx) (M : Mk0) (W : WX) (e : Expr) (f : FX) : Prop where
  pe : PE X e (fun σ H _ => DX X.k0 M W f σ H)
  mono : ∀ ρ k k', (∀ c fl ρ', k c fl ρ' → k' c fl ρ') → f ρ k → f ρ k'
structure PR (X : Cx) (M : Mk0) (W : WX) (st : Stmt) (f : FX) : Prop where
  ps : PS X st (fun _ σ H => DX X.k0 M W f σ H)
  mono : ∀ ρ k k', (∀ c fl ρ', k c fl ρ' → k' c fl ρ') → f ρ k → f ρ k'
structure PRs (X : Cx) (M : Mk0) (W : WX) (ss : List Stmt) (f : FX) : Prop where
  ps : PSs X ss (fun _ σ H => DX X.k0 M W f σ H)
  mono : ∀ ρ k k', (∀ c fl ρ', k c fl ρ' → k' c fl ρ') → f ρ k → f ρ k'
theorem pe_or {X : Cx} {e : Expr} {t u : TE} (h : PE X e t) (g : PE X e u) : PE X e (fun σ H Q => t σ H Q ∨ u σ H Q) := ⟨fun pins s σ H Q I q => q.elim (h.run pins s σ H Q I) (g.run pins s σ H Q I)⟩
theorem pss_or {X : Cx} {ss : List Stmt} {t u : TS} (h : PSs X ss t) (g : PSs X ss u) : PSs X ss (fun D σ H => t D σ H ∨ u D σ H) := ⟨fun pins s σ H D I q => q.elim (h.run pins s σ H D I) (g.run pins s σ H D I)⟩
section
variable {K : Fr0} {M : Mk0} {W : WX} {f g : FX}
def fxOr (f g : FX) : FX := fun ρ k => f ρ k ∨ g ρ k
def fxNo : FX := fun _ _ => False
theorem DX.or {σ : L2.St} {H : Hp} (h : DX K M W (fxOr f g) σ H) : DX K M W f σ H ∨ DX K M W g σ H := by
  obtain ⟨P, F, L, ρ, r, q⟩ := h
  exact q.elim (fun z => .inl ⟨P, F, L, ρ, r, z⟩) fun z => .inr ⟨P, F, L, ρ, r, z⟩
theorem KX.later {P : Option Addr} {F : Hp} {L L1 : List Addr} {H H1 : Hp} (e : Ex (hide L H) (hide L1 H1)) (c : Value) (fl : List (D × D)) (ρ' : Rho) (q : KX K M P F L H W c fl ρ') : KX K M P F L1 H1 W c fl ρ' :=
  fun σ' L' H' d e' r x => q σ' L' H' d (e.trans e') r x
end
section
variable {X : Cx} {M : Mk0} {W : WX} {e a b c : Expr} {es : List Expr} {st : Stmt} {ss tt : List Stmt} {fa fb : FE} {ft : FT} {fl : FL} {fs fs' : FS} {f g : FX} {pos p : Pos}
theorem prs_or (h : PRs X M W ss f) (h' : PRs X M W ss g) : PRs X M W ss (fxOr f g) :=
  ⟨PSs.wk (pss_or h.ps h'.ps) fun _ _ _ q => q.or, fun ρ k k' le q => q.elim (fun z => .inl (h.mono ρ k k' le z)) fun z => .inr (h'.mono ρ k k' le z)⟩
theorem prs_no (h : PDs X M ss fs) : PRs X M W ss fxNo := ⟨PSs.wk h.ps fun _ _ _ ⟨_, _, _, _, _, q⟩ => q.elim, fun _ _ _ _ q => q.elim⟩
/-- the first statement raises -/
theorem prs_hd (h : PR X M W st f) (hs : PDs X M ss fs) : PRs X M W (st :: ss) f := ⟨PSs.wk (pss_cons h.ps hs.ps) fun _ _ _ q => q, h.mono⟩
/-- the first one runs through, a later one raises -/
def fxThen (fs : FS) (g : FX) : FX := fun ρ k => fs ρ { nx := fun ρ1 => g ρ1 k, rt := fun _ _ => False }
theorem prs_tl (h : PDS X M st fs) (hs : PRs X M W ss g) : PRs X M W (st :: ss) (fxThen fs g) := by
  refine ⟨PSs.wk (pss_cons h.ps hs.ps) fun D σ H ⟨P, F, L, ρ, r, q⟩ => ?_, fun ρ k k' le q => h.mono ρ { nx := fun ρ1 => g ρ1 k, rt := fun _ _ => False } { nx := fun ρ1 => g ρ1 k', rt := fun _ _ => False } ⟨fun ρ1 z => hs.mono _ _ _ le z, fun _ _ z => z, fun _ z => z, fun _ z => z⟩ q⟩
  refine ⟨P, F, L, ρ, r, h.mono _ _ _ ⟨fun ρ1 z σ1 L1 H1 e1 r1 => ?_, fun _ _ z => False.elim z, fun _ z => False.elim z, fun _ z => False.elim z⟩ q⟩
  exact ⟨P, F, L1, ρ1, r1, hs.mono _ _ _ (KX.later e1) z⟩
/-- if: what its suites raise -/
def fxIf (ft : FT) (f g : FX) : FX := fun ρ k => ft ρ fun b ρ1 => if b = true then f ρ1 k else g ρ1 k
theorem pr_if (ht : PDT X M c ft) (h : PRs X M W ss f) (h' : PRs X M W tt g) : PR X M W (.If c ss tt pos) (fxIf ft f g) := by
  refine ⟨PS.wk (ps_if ht.pt h.ps h'.ps) fun D σ H ⟨P, F, L, ρ, r, q⟩ => ?_, fun ρ k k' le q => ht.mono _ _ _ (fun b ρ1 z => ?_) q⟩
  · refine ⟨P, F, L, ρ, r, ht.mono _ _ _ (fun b ρ1 z L1 H1 e1 r1 => ?_) q⟩
    cases b with
    | true => exact ⟨P, F, L1, ρ1, r1, h.mono _ _ _ (KX.later e1) z⟩
    | false => exact ⟨P, F, L1, ρ1, r1, h'.mono _ _ _ (KX.later e1) z⟩
  · cases b with
    | true => exact h.mono _ _ _ le z
    | false => exact h'.mono _ _ _ le z
theorem pr_expr (h : PX X M W e f) (hs : swapsWith e none pos.line X.env = pure false := by rfl) : PR X M W (.Expr e pos) f := ⟨PS.wk (ps_expr h.pe hs) fun _ _ _ q => q, h.mono⟩
theorem pr_ret (h : PX X M W e f) : PR X M W (.Return (some e) pos) f := ⟨PS.wk (ps_ret h.pe) fun _ _ _ q => q, h.mono⟩
end
def spX (K : Fr0) (M : Mk0) (n : Nat) (V : FE) (U : FX) : Sp := fun vs H Q E => ∃ P F L ρ, R K M P F L ρ (vs.map some) H ∧ Bare ρ ∧ ρ.sl.length = n ∧ (V ρ (KV' K M P F L (vs.map some) H Q) ∨ U ρ (KE K M P F L (vs.map some) H E))
def spU (K : Fr0) (M : Mk0) (n : Nat) (U : FX) : Sp := fun vs H _ E => ∃ P F L ρ, R K M P F L ρ (vs.map some) H ∧ Bare ρ ∧ ρ.sl.length = n ∧ U ρ (KE K M P F L (vs.map some) H E)
section
variable {P : Program} {w : World} {K : PySem.W.Frag} {mg : Str → Option Value} {base : Heap} {k : Nat} {f : Addr} {fd : FuncData} {ps N : List Str} {M : Mk0} {fs : FS} {V V' : FE} {U U' : FX} {n : Nat}
theorem FnG.left (G : FnG P w K mg base (L2.CX P w) k f fd ps (spX ⟨K, w, P⟩ M n V U)) : FnG P w K mg base (L2.CX P w) k f fd ps (spD ⟨K, w, P⟩ M n V) :=
  G.imp fun vs H Q E ⟨P', F, L, ρ, r, hb, hl, q⟩ => ⟨P', F, L, ρ, r, hb, hl, .inl q⟩
theorem FnG.right (G : FnG P w K mg base (L2.CX P w) k f fd ps (spX ⟨K, w, P⟩ M n V U)) : FnG P w K mg base (L2.CX P w) k f fd ps (spU ⟨K, w, P⟩ M n U) :=
  G.imp fun vs H Q E ⟨P', F, L, ρ, r, hb, hl, q⟩ => ⟨P', F, L, ρ, r, hb, hl, .inr q⟩
theorem spX_imp {K : Fr0} (h : ∀ ρ k, V' ρ k → V ρ k) (h' : ∀ ρ k, U' ρ k → U ρ k) (vs : List L2.V) (H : Hp) (Q : VK) (E : XK) (q : spX K M n V' U' vs H Q E) : spX K M n V U vs H Q E := by
  obtain ⟨P, F, L, ρ, r, hb, hl, q⟩ := q
  exact ⟨P, F, L, ρ, r, hb, hl, q.elim (fun z => .inl (h _ _ z)) fun z => .inr (h' _ _ z)⟩
def fBodyX (nN : Nat) (fr : FX) : FX := fun ρ k => fr ⟨ρ.sl ++ List.replicate (nN - ρ.sl.length) .no, ρ.n⟩ fun c fl ρ' => k c fl ⟨ρ.sl, ρ'.n⟩
theorem fnX {x qual : Str} {st : Stmt} {fr : FX} (F : Fun K x qual st f fd) (S : FnScope N ps (defScope st))
    (body : ∀ (X : Cx) (cdv : Value) (A : Around) (outer : List Env) (s : Shared) (H : Hp) (E : XK), X = cxOf (L2.CX P w) P w K mg base N qual (defScope st) f cdv A outer s H E → A.guards = some [] → Room k (A.deeper (envOfC qual (defScope st) s.heap.objs.size f cdv)) →
      Takes X (fun c d _ H' => E c d H') → PassesOwn (model P w) X.A X.env X.xe → PDs X M (defBody st) fs ∧ PRs X M (fun c d _ H' => E c d H') (defBody st) fr) :
    FnG P w K mg base (L2.CX P w) (k + 1) f fd ps (spX ⟨K, w, P⟩ M ps.length (fBody N.length fs) (fBodyX N.length fr)) := by
  refine fnG_of F S (fun vs H Q E ⟨P', F', L, ρ, r, hb, hl, _⟩ => ?_) fun cdv A outer s H vs Q E hg hr ⟨P', F', L, ρ, r, hb, hl, hw⟩ => ?_
  · have := r.len
    rw [List.length_map] at this
    omega
  · obtain ⟨B, C⟩ := body _ cdv A outer s H E rfl hg hr (takes_of rfl rfl rfl rfl) (passes_of rfl)
    refine ⟨_, pss_or B.ps C.ps, ?_⟩
    rcases hw with hw | hw
    · refine .inl ⟨P', F', L, _, r.start hb N, B.mono _ _ _ ⟨fun ρ' q σ' L' H' e' r' => ?_, fun d ρ' q v σ' L' H' e' r' d' => ?_, fun _ (q : False) => q.elim, fun _ (q : False) => q.elim⟩ hw⟩
      · exact q .non L' H' e' (r.swap hb r' e') .non
      · exact q v L' H' e' (r.swap hb r' e') d'
    · exact .inr ⟨P', F', L, _, r.start hb N, C.mono _ _ _ (fun c fl ρ' q σ' L' H' d e' r' x => q L' H' d e' (r.swap hb r' e') x) hw⟩
end
section
variable {X : Cx} {M : Mk0} {W : WX} {k : Nat} {f : Addr} {fd : FuncData} {ps : List Str} {n : Nat} {U : FX} {x : Str} {p pos : Pos} {e : Expr} {es : List Expr} {fa : FA} {sp : Sp} {t : TA}
/-- .. called where a wish about exceptions is known at each state -/
theorem run_fnGW {pins : List (Addr × Obj)} {σ : L2.St} {H : Hp} {s : Shared} {Q : VK} {us : List Value} {vs : List V} {E : XK} (G : FnG X.prog X.w X.K X.mg X.base (L2.CX X.prog X.w) k f fd ps sp) (hgd : X.A.guards = some []) (hr : Room k X.A) (hb : Binds X.K fd ps [])
    (hx : PassesAt (L2.CX X.prog X.w) X σ E) (I : Inv X pins σ H s) (r : Vals vs us) (h : sp vs H Q E) : wpAny (model X.prog X.w) X.A (call (.ref f) us) (EP X pins σ Q) X.xe s := by
  have hl : (us ++ []).length = ps.length := by rw [List.append_nil, ← r.length]; exact G.len _ _ _ _ h
  have bi := hb s us I.kIn hl
  rw [List.append_nil] at bi
  refine wpAny_call (codeAny_mono (G.go X.A X.stack s H ⟨us, []⟩ us vs Q E hgd hr I.env0 bi r h) fun res sB hq => ?_)
  cases res with
  | error ex => exact hx pins H s ex sB I hq
  | ok fl =>
    cases fl with
    | ret u => exact I.after hq
    | next => exact hq.elim
    | brk => exact hq.elim
    | cont => exact hq.elim
def tCallW (sp : Sp) (W : WX) (t : TA) : TE := fun σ H Q => t σ H fun vs H1 => sp vs H1 Q (WE W σ)
theorem pe_callW (tk : Takes X W) (G : FnG X.prog X.w X.K X.mg X.base (L2.CX X.prog X.w) k f fd ps sp) (hgd : X.A.guards = some []) (hr : Room k X.A) (hg : Gl X x) (hm : X.mg x = some (.ref f)) (hk : PySem.W.keepIn X.K (.ref f) = true) (hb : Binds X.K fd ps [])
    (ha : PA X (e :: es) t) (hdb : (x == ("__debug__" : Str)) = false := by decide) (he : starEach (e :: es) X.env = (false, eval e X.env) :: starEach es X.env := by rfl) (hpl : (backTo pos (starEach es X.env)).any (·.1) = false := by rfl) :
    PE X (.Call (.Name x p) (e :: es) [] pos) (tCallW sp W t) := by
  constructor
  intro pins s σ H Q I hw
  refine wpAny_Call_Name_kw (ld_glob I hg hm ?_ hdb)
  exact PySem.W.callWith_K (h₀ := X.base) I.ok.mod.kin hk (thn (ha.run pos pins s σ H _ I hw) fun us sA ⟨vs, HA, IA, rA, qA⟩ => ⟨IA.kIn, run_fnGW G hgd hr hb (passAt tk σ) IA rA qA⟩) he hpl
/-- a call that raises -/
def fxCall (n : Nat) (U : FX) (fa : FA) : FX := fun ρ k => fa ρ fun ss ρ1 => ss.length = n ∧ U ⟨ss, ρ1.n⟩ fun c fl ρ2 => k c fl ⟨ρ1.sl, ρ2.n⟩
theorem px_call (tk : Takes X W) (mU : ∀ ρ k k', (∀ c fl ρ', k c fl ρ' → k' c fl ρ') → U ρ k → U ρ k') (G : FnG X.prog X.w X.K X.mg X.base (L2.CX X.prog X.w) k f fd ps (spU X.k0 M n U)) (hgd : X.A.guards = some []) (hr : Room k X.A) (hg : Gl X x) (hm : X.mg x = some (.ref f))
    (hk : PySem.W.keepIn X.K (.ref f) = true) (hb : Binds X.K fd ps []) (ha : PDA X M (e :: es) fa) (hdb : (x == ("__debug__" : Str)) = false := by decide) (he : starEach (e :: es) X.env = (false, eval e X.env) :: starEach es X.env := by rfl)
    (hpl : (backTo pos (starEach es X.env)).any (·.1) = false := by rfl) : PX X M W (.Call (.Name x p) (e :: es) [] pos) (fxCall n U fa) := by
  refine ⟨PE.wk (pe_callW tk G hgd hr hg hm hk hb ha.pa hdb he hpl) fun σ H Q ⟨P, F, L, ρ, r, q⟩ => ?_, fun ρ k k' g q => ha.mono _ _ _ (fun ss ρ1 q => ⟨q.1, mU _ _ _ (fun c fl ρ2 q => g _ _ _ q) q.2⟩) q⟩
  refine ⟨P, F, L, ρ, r, ha.mono _ _ _ (fun ss ρ1 q vs L1 H1 e1 r1 hl hs hbare => ?_) q⟩
  have r2 : R X.k0 M P (keepF ρ1 σ F H1) L1 ⟨ss, ρ1.n⟩ (vs.map some) H1 := r1.frame hbare rfl (by simpa using hl) fun i s o g1 g2 => by
    rw [List.getElem?_map] at g2
    cases ev : vs[i]? with
    | none => rw [ev] at g2; cases g2
    | some v =>
      rw [ev] at g2
      cases g2
      exact hs i s v g1 ev
  refine ⟨P, _, L1, _, r2, hbare, q.1, mU _ _ _ (fun c fl ρ2 q2 L2' H2 d e2 r3 x2 => ?_) q.2⟩
  exact q2 σ L2' H2 d (e1.trans e2) (r1.back r3 e2) x2
end
end PD
namespace PD
open PySem L2 PyProof.Rows PySem.Spec
open Evl (Ex)
def spExA (C : Addr) (nm : Str) : Sp := fun vs H Q _ => ∃ a v, vs = [.ref a, v] ∧ H a = some (exo a C none) ∧ ∀ dx, H dx = none → dx ≠ a → Q .non (upd (upd H dx (exd dx [(nm, v)])) a (exo a C (some dx)))
def spExN (C : Addr) : Sp := fun vs H Q _ => ∃ a v, vs = [.ref a, v] ∧ H a = some (exo a C none) ∧ Q .non H
/-- what the written part says of such a class and its __init__ -/
structure ExC (K : PySem.W.Frag) (C fI : Addr) : Prop where
  T : OexC K C
  iC : PySem.W.findIn K (.ref C) "__init__" = some (some (.ref fI))
  tI : PySem.W.typeIn K (.ref fI) = some (.type "function")
section
variable {X : Cx} {e : Expr} {es : List Expr} {ta : TA} {p pos : Pos}
/-- made, nothing kept: let go -/
theorem let_go {pins : List (Addr × Obj)} {σ : L2.St} {H1 H2 : Hp} {hp hp2 h2 : Heap} {g1 g2 : Array GenState} {d1 d2 : Drawn} {t1 t2 : Nat} {os1 os2 : OsState} {a C : Addr} (I1 : Inv X pins σ H1 ⟨hp, g1, d1, t1, os1⟩)
    (ha : hp.objs.size ≤ a) (k : ∀ b o, hp.get? b = some o → hp2.get? b = some o) (un : Un (frs X.stack) [] (upd H1 a (exo a C none)) H2 hp2 h2) (hok : HOk X.prog X.w H2 h2) (ho : os2 = os1) (hb : AllBare g2)
    (ea : H2 a = some (exo a C none)) :
    ∃ (t0 : Addr) (G : Heap), Inv X pins σ (L2.del H2 a) ⟨G, g2, d2, t2, os2⟩ ∧ (∀ b o, G.get? b = some o → h2.get? b = some o) ∧ G.get? a = none ∧
      h2.get? a = some ({ cls := .ref C, dict := none, data := .fields #[.ref t0, .none, .none, .none, .bool false, .none] } : Obj) := by
  obtain ⟨t0, hoe⟩ := exo_at hok ea
  have hn : H1 a = none := I1.hok.fresh ha
  obtain ⟨G, onG, offG⟩ := restrict h2 fun b => decide (b ≠ a)
  have gk : ∀ {b}, b ≠ a → G.get? b = h2.get? b := fun {b} hb => onG b (decide_eq_true hb)
  have ge : G.get? a = none := offG a (by simp)
  have away : ∀ {b : Addr} {o : Obj}, hp.get? b = some o → b ≠ a := fun {b o} z => Nat.ne_of_lt (Nat.lt_of_lt_of_le (Heap.lt_size z) ha)
  have up : ∀ {b : Addr}, b ≠ a → H1 b = none → upd H1 a (exo a C none) b = none := fun {b} hb n => (upd_ne hb).trans n
  have away2 : ∀ {b : Addr} {u : HO}, H1 b = some u → b ≠ a := fun {b u} z => ne_of_none z hn
  have U : Un (frs X.stack) [] H1 (L2.del H2 a) hp G := by
    refine ⟨fun b o z n hf hx => (gk (away z)).trans (un.keep b o (k b o z) (up (away z) n) hf hx), fun b o z n hf hx => ?_, fun b o z n hx => (del_ne (away z)).trans (un.free b o (k b o z) (up (away z) n) hx), fun b o z hx => ?_, fun b xs z => ?_, fun b o v z => ?_, fun b ps z => ?_⟩
    · rw [gk (away z)]; exact un.slot b o (k b o z) (up (away z) n) hf hx
    · rw [gk (away z)]; exact un.there b o (k b o z) hx
    · rw [del_ne (away2 z)]; exact un.tups b xs ((upd_ne (away2 z)).trans z)
    · rw [del_ne (away2 z)]; exact un.frzs b o v ((upd_ne (away2 z)).trans z)
    · rw [del_ne (away2 z)]; exact un.tbls b ps ((upd_ne (away2 z)).trans z)
  have noa : ∀ {c b : Addr}, H2 c = some (.own b) → c ≠ a := fun {c b} hc => at_ne ea hc exo_own
  have hok3 : HOk X.prog X.w (L2.del H2 a) G := fun b o z => by
    have hba : b ≠ a := fun e => by rw [e, del_same] at z; cases z
    rw [del_ne hba] at z
    refine (hok b o z).stay (fun c v hc y => ?_) (fun c hc => (del_ne (noa hc)).trans hc) (fun c xs hc => (del_ne (at_ne ea hc exo_tup)).trans hc)
    rw [gk (hc.elim (fun hc => hc ▸ hba) fun hc => noa hc)]
    exact y
  have J : Inv X pins σ (L2.del H2 a) ⟨G, g2, d2, t2, os2⟩ := I1.call' (ch := []) ho U hok3 hb (fun b z => absurd z (by simp))
  refine ⟨t0, G, J, fun b o z => ?_, ge, hoe⟩
  by_cases hba : b = a
  · rw [hba, ge] at z; cases z
  · exact (gk hba).symm.trans z
def tMkN (C : Addr) (sp : Sp) (ta : TA) : L2.St → Hp → XK → Prop := fun σ H Q => ta σ H fun vs H1 => vs.length ≤ 1000 ∧ ∀ a, H1 a = none → sp (.ref a :: vs) (upd H1 a (exo a C none))
  (fun v H2 => v = .non ∧ H2 a = some (exo a C none) ∧ Q (.ref C) none (L2.del H2 a)) (fun _ _ _ => False)
theorem pmk_bare {CX : CXT} {x : Str} {C fI : Addr} {k : Nat} {fd : FuncData} {ps : List Str} {sp : Sp} (Z : ExC X.K C fI) (F1 : FnOk X.prog X.w X.K X.mg X.base CX k fI fd ps sp) (hr : Room (k + 1) X.A) (hb : Binds X.K fd ps [])
    (hx : Passes CX X (fun _ _ _ => False)) (hg : Gl X x) (hm : X.mg x = some (.ref C)) (ha : PA X (e :: es) ta)
    (hdb : (x == ("__debug__" : Str)) = false := by decide) (he : starEach (e :: es) X.env = (false, eval e X.env) :: starEach es X.env := by rfl) (hpl : (backTo pos (starEach es X.env)).any (·.1) = false := by rfl) :
    PMk X (.Call (.Name x p) (e :: es) [] pos) (tMkN C sp ta) := by
  intro pins s σ H Q I hw
  obtain ⟨nm, q, N, bs, bm, sn, sub, ab, col, dd, k0, k1, k2, k3, k5, hC, hbm⟩ := Z.T.cls
  refine wpAny_Call_Name_kw (ld_glob I hg hm ?_ hdb)
  refine PySem.W.callWith_K (h₀ := X.base) I.ok.mod.kin Z.T.kC (thn (ha.run pos pins s σ H _ I hw) fun us sA ⟨vs, HA, IA, rA, hz, qA⟩ => ⟨IA.kIn, ?_⟩) he hpl
  show wpAny _ _ (call (.ref C) us) _ _ _
  obtain ⟨hp, g, dr, tk, os⟩ := sA
  have big : hp.objs.size ≤ hp.objs.size + 1 := Nat.le_succ _
  have fresh : HA (hp.objs.size + 1) = none := IA.hok.fresh big
  have hq := qA (hp.objs.size + 1) fresh
  have kk : ∀ b o, hp.get? b = some o → ((hp.push (PySem.W.kdv_tup us)).push (PySem.HandSPX.excO C hp.objs.size)).get? b = some o := fun b o z => Heap.get?_push_of_some _ (Heap.get?_push_of_some _ z)
  have here : ((hp.push (PySem.W.kdv_tup us)).push (PySem.HandSPX.excO C hp.objs.size)).get? (hp.objs.size + 1) = some (PySem.HandSPX.excO C hp.objs.size) := by heap_get
  have IB : Inv X pins σ (upd HA (hp.objs.size + 1) (exo (hp.objs.size + 1) C none)) ⟨(hp.push (PySem.W.kdv_tup us)).push (PySem.HandSPX.excO C hp.objs.size), g, dr, tk, os⟩ :=
    IA.laid (t' := tk) (a := hp.objs.size + 1) (o := exo (hp.objs.size + 1) C none) (h' := (hp.push (PySem.W.kdv_tup us)).push (PySem.HandSPX.excO C hp.objs.size)) kk big (exo_ok here)
  have rB : Vals (V.ref (hp.objs.size + 1) :: vs) (Value.ref (hp.objs.size + 1) :: us) := .cons rfl rA
  have hl : ((Value.ref (hp.objs.size + 1) :: us) ++ []).length = ps.length := by
    rw [List.append_nil, ← rB.length]
    exact F1.len _ _ _ _ hq
  have bi := hb _ (Value.ref (hp.objs.size + 1) :: us) IB.kIn hl
  rw [List.append_nil] at bi
  have hus : us.length ≤ sizeLine := by
    rw [← Paired.length rA, sizeLine_eq]
    omega
  refine wpAny_call (PySem.HandSPX.call_own F.excBase_ValueError (fun Y => PySem.HandSPX.refsVE_contains Y bm hbm) (IA.kIn _ _ hC) (PySem.W.looks_findIn IA.kIn Z.iC) (fun self => PySem.W.bind_fn IA.kIn self Z.tI) hus
    (codeAny_mono (F1.run _ X.stack _ _ ⟨Value.ref (hp.objs.size + 1) :: us, []⟩ (Value.ref (hp.objs.size + 1) :: us) _ _ (fun _ _ _ => False) (hr.make C us []) (IB.env0.make C us []) bi rB hq) fun r sC hq' => ?_))
  cases r with
  | error er => exact hx pins σ _ _ er sC IB hq'
  | ok fl =>
    cases fl with
    | ret u =>
      obtain ⟨v, H2, os2, bare2, un2, hok2, rv, ev, ea, q2⟩ := hq'
      subst ev
      obtain ⟨h2, g2, d2, t2, os'⟩ := sC
      obtain ⟨t0, G, J, kG, ge, hoe⟩ := let_go (d2 := d2) (t2 := t2) IA big kk un2 hok2 os2 bare2 ea
      exact ⟨rv, _, _, _, ⟨G, g2, d2, t2, os'⟩, _, .ref C, none, rfl, J, kG, ge, hoe, ⟨rfl, rfl⟩, rfl, rfl, del_same, rfl, bare2, raises_own Z.T.exC Z.T.tyC, q2⟩
    | next => exact False.elim hq'
    | brk => exact False.elim hq'
    | cont => exact False.elim hq'
end
section
variable {X : Cx} {M : Mk0} {W : WX} {e : Expr} {fa : FE} {p pos rpos : Pos} {K : Fr0} {P : Option Addr} {F : Hp} {L : List Addr} {ρ : Rho} {σ : L2.St} {H : Hp}
/-- an object that comes and goes -/
theorem R.around {a : Addr} {o : HO} {H2 : Hp} (r : R K M P F L ρ σ H) (hn : H a = none) (e : ∀ b, b ≠ a → H2 b = H b) : R K M P F L ρ σ (L2.del H2 a) ∧ Ex (hide L H) (hide L (L2.del H2 a)) := by
  have z : L2.del H2 a = H := by
    funext b
    by_cases hb : b = a
    · rw [hb, del_same, hn]
    · rw [del_ne hb, e b hb]
  rw [z]
  exact ⟨r, Ex.refl _⟩
def fxRaise (c : Value) (nm : Option Str) (fa : FE) : FX := fun ρ k => fa ρ fun d ρ1 => k c (match nm with | some n => [(.str n, d)] | none => []) ρ1
theorem pr_raise {x nm : Str} {C fI : Addr} {fd : FuncData} {ps : List Str} {k : Nat} (hc : X.calm = true) (tk : Takes X W) (Z : ExC X.K C fI) (F1 : FnOk X.prog X.w X.K X.mg X.base (L2.CX X.prog X.w) k fI fd ps (spExA C nm)) (hr : Room (k + 1) X.A)
    (hb : Binds X.K fd ps []) (hg : Gl X x) (hm : X.mg x = some (.ref C)) (ha : PD X M e fa)
    (hdb : (x == ("__debug__" : Str)) = false := by decide) (he : starEach [e] X.env = (false, eval e X.env) :: starEach [] X.env := by rfl) :
    PR X M W (.Raise (some (.Call (.Name x p) [e] [] pos)) none rpos) (fxRaise (.ref C) (some nm) fa) := by
  refine ⟨PS.wk (ps_raise hc tk (pmk_oex (dvs := []) Z.T Z.iC Z.tI F1 hr hb .nil passF hg hm (pa_cons ha.pe pa_nil he) hdb he rfl)) fun D σ H ⟨P, F, L, ρ, r, q⟩ => ?_, fun ρ k k' le q => ha.mono _ _ _ (fun d ρ1 q => le _ _ _ q) q⟩
  refine ⟨P, F, L, ρ, r, ha.mono _ _ _ (fun d ρ1 q v L1 H1 e1 r1 d1 => ?_) q⟩
  refine ⟨by simp, fun a hn => ?_⟩
  refine ⟨a, v, rfl, upd_same, fun dx hdx ne => ?_⟩
  have hdx1 : H1 dx = none := by rw [upd_ne ne] at hdx; exact hdx
  refine ⟨rfl, dx, [(nm, v)], upd_same, by rw [upd_ne ne, upd_same], hdx1, ?_⟩
  have hz : upd (L2.del (upd (upd (upd H1 a (exo a C none)) dx (exd dx [(nm, v)])) a (exo a C (some dx))) a) dx (.xd [(nm, v)]) = upd H1 dx (.xd [(nm, v)]) := by
    funext b
    by_cases hb : b = dx
    · rw [hb, upd_same, upd_same]
    · rw [upd_ne hb, upd_ne hb]
      by_cases hba : b = a
      · rw [hba, del_same, hn]
      · rw [del_ne hba, upd_ne hba, upd_ne hb, upd_ne hba]
  rw [hz]
  have ex : Ex (hide L1 H1) (hide L1 (upd H1 dx (.xd [(nm, v)]))) := hide_ex (Ex.new hdx1)
  refine q σ L1 _ (some dx) (e1.trans ex) (r1.ex (Ex.new hdx1)) (.inr ⟨dx, _, rfl, ?_, .cons (dp_ex ex _ _ d1) .nil⟩)
  exact hide_some.mpr ⟨r1.notL hdx1, upd_same⟩
theorem pr_raise0 {x : Str} {C fI : Addr} {fd : FuncData} {ps : List Str} {k : Nat} (hc : X.calm = true) (tk : Takes X W) (Z : ExC X.K C fI) (F1 : FnOk X.prog X.w X.K X.mg X.base (L2.CX X.prog X.w) k fI fd ps (spExN C)) (hr : Room (k + 1) X.A)
    (hb : Binds X.K fd ps []) (hg : Gl X x) (hm : X.mg x = some (.ref C)) (ha : PD X M e fa)
    (hdb : (x == ("__debug__" : Str)) = false := by decide) (he : starEach [e] X.env = (false, eval e X.env) :: starEach [] X.env := by rfl) :
    PR X M W (.Raise (some (.Call (.Name x p) [e] [] pos)) none rpos) (fxRaise (.ref C) none fa) := by
  refine ⟨PS.wk (ps_raise hc tk (pmk_bare Z F1 hr hb passF hg hm (pa_cons ha.pe pa_nil he) hdb he rfl)) fun D σ H ⟨P, F, L, ρ, r, q⟩ => ?_, fun ρ k k' le q => ha.mono _ _ _ (fun d ρ1 q => le _ _ _ q) q⟩
  refine ⟨P, F, L, ρ, r, ha.mono _ _ _ (fun d ρ1 q v L1 H1 e1 r1 d1 => ?_) q⟩
  refine ⟨by simp, fun a hn => ?_⟩
  refine ⟨a, v, rfl, upd_same, rfl, upd_same, ?_⟩
  obtain ⟨r2, e2⟩ := r1.around (o := exo a C none) hn (H2 := upd H1 a (exo a C none)) fun b hb => upd_ne hb
  exact q σ L1 _ none (e1.trans e2) r2 (.inl ⟨rfl, rfl⟩)
end
end PD
namespace PD
open PySem L2 PyProof.Rows PySem.Spec
open Evl (Ex)
abbrev Cl := Value × Option Nat × (Addr → Value → Option Addr → TS)
/-- behind a named clause its name is gone -/
def unN (D : Ends) (i : Nat) : Ends := { nx := fun σ H => D.nx (σ.set i none) H, rt := D.rt, bk := fun σ H => D.bk (σ.set i none) H, ct := fun σ H => D.ct (σ.set i none) H }
def runCl (D : Ends) (oi : Option Nat) (ts : Addr → Value → Option Addr → TS) (a : Addr) (cls : Value) (d : Option Addr) (σ : L2.St) (H : Hp) : Prop := match oi with
  | none => ts a cls d D σ H
  | some i => ts a cls d (unN D i) (σ.set i (some (.ref a))) H
def wMix (K : PySem.W.Frag) (D : Ends) : List Cl → WX
  | [] => fun _ _ _ _ => False
  | (c, oi, ts) :: r => fun cls d σ H => ∃ b, PySem.W.exmOne K cls c = some b ∧ (b = true → ∀ a, H a = none → runCl D oi ts a cls d σ H) ∧ (b = false → wMix K D r cls d σ H)
inductive HdMix (X : Cx) : List ExceptHandler → List Cl → Prop
  | nil : HdMix X [] []
  | plain {x : Str} {c : Value} {ts : Addr → Value → Option Addr → TS} {b₀ : Stmt} {suite : List Stmt} {np hp : Pos} {hds : List ExceptHandler} {l : List Cl} (hc : Names X x c)
      (hsu : ∀ (a : Addr) (oe : Obj) (cls : Value) (d : Option Addr) (pn : List (Addr × Obj)), Zc cls d oe → (∃ vs, oe.data = .fields vs) → PSs (X.suite a ((a, oe) :: pn)) (b₀ :: suite) (ts a cls d)) (r : HdMix X hds l) :
      HdMix X (.ExceptHandler (some (.Name x np)) none (b₀ :: suite) hp :: hds) ((c, none, ts) :: l)
  | named {x n : Str} {i : Nat} {c : Value} {ts : Addr → Value → Option Addr → TS} {b₀ : Stmt} {suite : List Stmt} {np hp : Pos} {hds : List ExceptHandler} {l : List Cl} (hc : Names X x c) (hN : X.N.Nodup) (hi : X.N[i]? = some n) (hln : X.env.kindOf n = some .local)
      (hsu : ∀ (a : Addr) (oe : Obj) (cls : Value) (d : Option Addr) (pn : List (Addr × Obj)), Zc cls d oe → (∃ vs, oe.data = .fields vs) → PSs (X.suite a ((a, oe) :: pn)) (b₀ :: suite) (ts a cls d)) (r : HdMix X hds l) :
      HdMix X (.ExceptHandler (some (.Name x np)) (some n) (b₀ :: suite) hp :: hds) ((c, some i, ts) :: l)
section
variable {X : Cx} {body : List Stmt} {h₀ : ExceptHandler} {hds : List ExceptHandler} {l : List Cl} {pos : Pos} {tb : WX → TS}
/-- what a suite in hand needs of the state: the exception on the ground -/
structure Ground (X : Cx) (pins : List (Addr × Obj)) (σ : L2.St) (H : Hp) (sI : Shared) (B : Heap) (a : Addr) (cls : Value) (d : Option Addr) (h0 : Heap) (s : Shared) : Prop where
  J : Inv X pins σ H sI
  nb : ∀ b o, sI.heap.get? b = some o → b ∉ frs X.stack → B.get? b = some o
  up : sI.heap.UpToSlots h0
  fl : HandSPX.FlyingZ B (X.env :: X.outer) a (Zc cls d) h0
  os : s.os = sI.os
  ag : AllBare s.gens
  na : H a = none
theorem Ground.inv {pins : List (Addr × Obj)} {σ : L2.St} {H : Hp} {sI s : Shared} {B h0 : Heap} {a : Addr} {cls : Value} {d : Option Addr} (G : Ground X pins σ H sI B a cls d h0 s) : Inv X pins σ H { s with heap := h0 } :=
  G.J.landed G.nb G.fl.1 G.up G.os G.ag
theorem Ground.suite {pins : List (Addr × Obj)} {σ : L2.St} {H : Hp} {sI s : Shared} {B h0 : Heap} {a : Addr} {cls : Value} {d : Option Addr} (hf : X.env.frame = some X.env.locals) (G : Ground X pins σ H sI B a cls d h0 s) :
    ∃ oe, h0.get? a = some oe ∧ Zc cls d oe ∧ (∃ vs, oe.data = .fields vs) ∧ Inv (X.suite a ((a, oe) :: (X.pn ++ pins))) [] σ H { s with heap := h0 } := by
  obtain ⟨oe, vs, he, hz, hd⟩ := G.fl.there
  have off : a ∉ frs (X.env :: X.outer) := fun hm => by
    obtain ⟨_, ob, eb, hnf⟩ := G.fl.2.2.1.mem hm
    rw [he] at eb
    cases eb
    exact hnf vs hd
  have nL : a ≠ X.env.locals := fun z => off (List.mem_filterMap.mpr ⟨X.env, List.mem_cons_self, by rw [hf, z]⟩)
  have nF : a ∉ X.fs := fun hm => by
    obtain ⟨env, hin, q⟩ := List.mem_filterMap.mp hm
    exact off (List.mem_filterMap.mpr ⟨env, List.mem_cons_of_mem _ hin, q⟩)
  exact ⟨oe, he, hz, ⟨vs, hd⟩, G.inv.suite he hd G.na nL nF⟩
theorem handle_mix (hf : X.env.frame = some X.env.locals) {pins : List (Addr × Obj)} {σ : L2.St} {H : Hp} {sI s : Shared} {B h0 : Heap} {a : Addr} {cls : Value} {d : Option Addr} {D : Ends} (ok : X.Ok) (G : Ground X pins σ H sI B a cls d h0 s)
    (hk : HdMix X hds l) (wq : wMix X.K D l cls d σ H) : wpAny (model X.prog X.w) X.A (handleBy (.ref a) X.env hds) (SP X pins D) X.xe { s with heap := h0 } := by
  obtain ⟨oe3, he3, hz3, hd3, S3⟩ := G.suite hf
  have LT : PySem.W.Looks (model X.prog X.w) h0 (typeOf (.ref a)) cls := fun A Q E s' kp q => wpAny_typeOf_ref (kp _ _ he3) (by rw [hz3.1]; exact q)
  have asks : ∀ {x : Str} {np : Pos} {c : Value} {Q E : Value → Shared → Prop}, Names X x c → Q c { s with heap := h0 } → wpAny (model X.prog X.w) (X.A.mark (some (.ref a))) (eval (.Name x np) X.env) Q E { s with heap := h0 } := fun {x np c Q E} hc q => by
    obtain ⟨hg, hdbg, hm | ⟨hm, hv, hnn⟩⟩ := hc
    · exact ld_glob (X := X.suite a ((a, oe3) :: (X.pn ++ pins))) S3 hg hm q hdbg
    · exact ld_blt (X := X.suite a ((a, oe3) :: (X.pn ++ pins))) S3 hg hm hv q hnn hdbg
  induction hk with
  | nil => exact False.elim wq
  | @plain x c ts b₀ suite np hp hds2 l2 hc hsu r ih =>
    obtain ⟨b, hb1, hyes, hno⟩ := wq
    refine wpAny_handleBy_cons (codeAny_handlers_test (asks hc ((PySem.W.exm_one (M := model X.prog X.w) S3.kIn LT hb1).here ?_))) (by intro q; cases q)
    cases b with
    | false => exact ih (hno rfl)
    | true =>
      refine codeAny_handlers_suite (HandSPX.lands_againZ G.fl fun h4 fl4 up4 => ?_)
      have G4 : Ground X pins σ H sI B a cls d h4 s := ⟨G.J, G.nb, G.up.trans up4, fl4, G.os, G.ag, G.na⟩
      obtain ⟨oe4, he4, hz4, hd4, S4⟩ := G4.suite hf
      refine wpAny_mono ((hsu a oe4 cls d (X.pn ++ pins) hz4 hd4).run [] _ _ H _ S4 (hyes rfl a G.na)) (fun fo s6 hsp => ?_) (fun _ _ z => False.elim z)
      cases fo with
      | ret u =>
        obtain ⟨v6, σ6, H6, S6, r6, q6⟩ := hsp
        exact ⟨v6, σ6, H6, S6.unsuite ok, r6, q6⟩
      | next =>
        obtain ⟨σ6, H6, S6, q6⟩ := hsp
        exact ⟨σ6, H6, S6.unsuite ok, q6⟩
      | brk =>
        obtain ⟨σ6, H6, S6, q6⟩ := hsp
        exact ⟨σ6, H6, S6.unsuite ok, q6⟩
      | cont =>
        obtain ⟨σ6, H6, S6, q6⟩ := hsp
        exact ⟨σ6, H6, S6.unsuite ok, q6⟩
  | @named x n i c ts b₀ suite np hp hds2 l2 hc hN hi hln hsu r ih =>
    obtain ⟨b, hb1, hyes, hno⟩ := wq
    refine wpAny_handleBy_cons (codeAny_handlers_test (asks hc ((PySem.W.exm_one (M := model X.prog X.w) S3.kIn LT hb1).here ?_))) (by intro q; cases q)
    cases b with
    | false => exact ih (hno rfl)
    | true =>
      refine codeAny_handlers_suite_as (HandSPX.lands_againZ G.fl fun h4 fl4 up4 => ?_)
      have G4 : Ground X pins σ H sI B a cls d h4 s := ⟨G.J, G.nb, G.up.trans up4, fl4, G.os, G.ag, G.na⟩
      obtain ⟨oe4, he4, hz4, hd4, S4⟩ := G4.suite hf
      refine store_ok (X := X.suite a ((a, oe4) :: (X.pn ++ pins))) (v := .ref a) S4 hN hi (.inl hln) rfl (fun s5 S5 => ?_) (.inr hln)
      refine wpAny_mono ((hsu a oe4 cls d (X.pn ++ pins) hz4 hd4).run [] s5 _ H _ S5 (hyes rfl a G.na)) (fun fo s6 hsp => ?_) (fun _ _ z => False.elim z)
      have ends : ∀ {σ6 : L2.St} {H6 : Hp} {Q : Shared → Prop}, Inv (X.suite a ((a, oe4) :: (X.pn ++ pins))) [] σ6 H6 s6 → (∀ s7, Inv X pins (σ6.set i none) H6 s7 → Q s7) →
          wpAny (model X.prog X.w) X.A (do bindName X.env n .none; unbindBehindTheSuite X.env n hp) (fun _ s7 => Q s7) X.xe s6 := fun S6 hq => gone_ok (S6.unsuite ok) hN hi hln hq
      cases fo with
      | ret u =>
        obtain ⟨v6, σ6, H6, S6, r6, q6⟩ := hsp
        exact ends S6 fun s7 J7 => ⟨v6, _, H6, J7, r6, q6⟩
      | next =>
        obtain ⟨σ6, H6, S6, q6⟩ := hsp
        exact ends S6 fun s7 J7 => ⟨_, H6, J7, q6⟩
      | brk =>
        obtain ⟨σ6, H6, S6, q6⟩ := hsp
        exact ends S6 fun s7 J7 => ⟨_, H6, J7, q6⟩
      | cont =>
        obtain ⟨σ6, H6, S6, q6⟩ := hsp
        exact ends S6 fun s7 J7 => ⟨_, H6, J7, q6⟩
theorem ps_try_mix (hs : X.stack = X.env :: X.outer) (hf : X.env.frame = some X.env.locals)
    (hb : ∀ (W : WX) (pn : List (Addr × Obj)) (xe : Value → Shared → Prop), Takes (X.tr pn xe) W → PassesOwn (model X.prog X.w) X.A X.env xe → PSs (X.tr pn xe) body (tb W))
    (hh : HdMix X (h₀ :: hds) l) : PS X (.Try body (h₀ :: hds) [] [] pos) (fun D σ H => tb (wMix X.K D l) D σ H) := by
  constructor
  intro pins s σ H D I hw
  have ok := I.ok
  refine wpAny_Try_except (wpAny_mono ((hb (wMix X.K D l) (X.pn ++ pins) (fun e sA => wpAny (model X.prog X.w) X.A (noteFrame e X.env) (fun _ sB => wpAny (model X.prog X.w) X.A (setFlight e none) (fun _ sC =>
    wpAny (model X.prog X.w) X.A (handleBy e X.env (h₀ :: hds)) (SP X pins D) X.xe sC) X.xe sB) X.xe sA) (fun u sA xx => ?_) PassesOwn.looking).run [] s σ H D (I.toTry _) hw) (fun fo s1 hsp => ?_) (fun e s1 he => he))
  · obtain ⟨a, B, sI, pins', σ', H', cls, d, rfl, J', nb, up, sky, na, os, ag, w⟩ := xx
    have sky' : Sky B (X.env :: X.outer) a (Zc cls d) X.env.locals sA.heap := by rw [← hs]; exact sky
    exact Sky.land Zc.steady (by rw [ok.frames, hs]) hf sky' fun h3 fl3 up3 => handle_mix hf ok ⟨J'.ofTry ok, nb, up.trans up3, fl3, os, ag, na⟩ hh w
  · cases fo with
    | ret v =>
      obtain ⟨v, σ', H', J', r, q⟩ := hsp
      exact ⟨v, σ', H', J'.ofTry ok, r, q⟩
    | next =>
      obtain ⟨σ', H', J', q⟩ := hsp
      exact wpAny_execs_nil ⟨σ', H', J'.ofTry ok, q⟩
    | brk =>
      obtain ⟨σ', H', J', q⟩ := hsp
      exact ⟨σ', H', J'.ofTry ok, q⟩
    | cont =>
      obtain ⟨σ', H', J', q⟩ := hsp
      exact ⟨σ', H', J'.ofTry ok, q⟩
end
end PD
namespace PD
open PySem L2 PyProof.Rows PySem.Spec
open Evl (Ex)
abbrev ClD := Value × Option Nat × (Addr → Value → Option Addr → FS)
def fsUn (i : Nat) (P : Post) : Post := { nx := fun ρ => P.nx (ρ.set i .no), rt := P.rt, bk := fun ρ => P.bk (ρ.set i .no), ct := fun ρ => P.ct (ρ.set i .no) }
def fsClause (oi : Option Nat) (fs : Addr → Value → Option Addr → FS) (c : Value) (fl : List (D × D)) (ρ : Rho) (P : Post) : Prop := match oi with
  | none => ∀ a d, fs a c d ρ P
  | some i => ∀ a d, fs a c d (ρ.set i (.exc a d fl)) (fsUn i P)
def pick (K : PySem.W.Frag) : List ClD → Value → List (D × D) → Rho → Post → Prop
  | [], _, _, _, _ => False
  | (c0, oi, fs) :: r, c, fl, ρ, P => ∃ b, PySem.W.exmOne K c c0 = some b ∧ (b = true → fsClause oi fs c fl ρ P) ∧ (b = false → pick K r c fl ρ P)
def fsTry (K : PySem.W.Frag) (fb : FS) (fx : FX) (l : List ClD) : FS := fun ρ P => fb ρ P ∨ fx ρ fun c fl ρ1 => pick K l c fl ρ1 P
inductive HdD (X : Cx) (M : Mk0) : List ExceptHandler → List ClD → Prop
  | nil : HdD X M [] []
  | plain {x : Str} {c : Value} {fs : Addr → Value → Option Addr → FS} {b₀ : Stmt} {suite : List Stmt} {np hp : Pos} {hds : List ExceptHandler} {l : List ClD} (hc : Names X x c)
      (hsu : ∀ (a : Addr) (oe : Obj) (cls : Value) (d : Option Addr) (pn : List (Addr × Obj)), Zc cls d oe → (∃ vs, oe.data = .fields vs) → PDs (X.suite a ((a, oe) :: pn)) M (b₀ :: suite) (fs a cls d)) (r : HdD X M hds l) :
      HdD X M (.ExceptHandler (some (.Name x np)) none (b₀ :: suite) hp :: hds) ((c, none, fs) :: l)
  | named {x n : Str} {i : Nat} {c : Value} {fs : Addr → Value → Option Addr → FS} {b₀ : Stmt} {suite : List Stmt} {np hp : Pos} {hds : List ExceptHandler} {l : List ClD} (hc : Names X x c) (hN : X.N.Nodup) (hi : X.N[i]? = some n) (hln : X.env.kindOf n = some .local)
      (hsu : ∀ (a : Addr) (oe : Obj) (cls : Value) (d : Option Addr) (pn : List (Addr × Obj)), Zc cls d oe → (∃ vs, oe.data = .fields vs) → PDs (X.suite a ((a, oe) :: pn)) M (b₀ :: suite) (fs a cls d)) (r : HdD X M hds l) :
      HdD X M (.ExceptHandler (some (.Name x np)) (some n) (b₀ :: suite) hp :: hds) ((c, some i, fs) :: l)
def clV (K : Fr0) (M : Mk0) (l : List ClD) : List Cl := l.map fun z => (z.1, z.2.1, fun a cls d => DS K M (z.2.2 a cls d))
theorem HdD.mix {X : Cx} {M : Mk0} {hds : List ExceptHandler} {l : List ClD} (h : HdD X M hds l) : HdMix X hds (clV X.k0 M l) := by
  induction h with
  | nil => exact .nil
  | plain hc hsu r ih => exact .plain hc (fun a oe cls d pn z1 z2 => (hsu a oe cls d pn z1 z2).ps) ih
  | named hc hN hi hln hsu r ih => exact .named hc hN hi hln (fun a oe cls d pn z1 z2 => (hsu a oe cls d pn z1 z2).ps) ih
theorem fsUn_le {i : Nat} {P Q : Post} (h : Post.Le P Q) : Post.Le (fsUn i P) (fsUn i Q) := ⟨fun _ q => h.nx _ q, h.rt, fun _ q => h.bk _ q, fun _ q => h.ct _ q⟩
/-- each clause's reading grows with what is wished -/
def Grows (l : List ClD) : Prop := ∀ z ∈ l, ∀ a c d ρ P Q, Post.Le P Q → z.2.2 a c d ρ P → z.2.2 a c d ρ Q
theorem HdD.grows {X : Cx} {M : Mk0} {hds : List ExceptHandler} {l : List ClD} (h : HdD X M hds l) : Grows l := by
  have ob : ∀ (cls : Value) (d : Option Addr), Zc cls d ({ cls := cls, dict := d, data := .fields #[] } : Obj) := fun cls d => ⟨rfl, rfl⟩
  induction h with
  | nil => exact fun z hz => absurd hz List.not_mem_nil
  | plain hc hsu r ih =>
    intro z hz a c d
    rcases List.mem_cons.mp hz with e | hz
    · subst e
      exact (hsu a _ c d [] (ob c d) ⟨_, rfl⟩).mono
    · exact ih z hz a c d
  | named hc hN hi hln hsu r ih =>
    intro z hz a c d
    rcases List.mem_cons.mp hz with e | hz
    · subst e
      exact (hsu a _ c d [] (ob c d) ⟨_, rfl⟩).mono
    · exact ih z hz a c d
theorem pick_mono {K : PySem.W.Frag} {c : Value} {fl : List (D × D)} {ρ : Rho} {P Q : Post} (le : Post.Le P Q) : ∀ {l : List ClD}, Grows l → pick K l c fl ρ P → pick K l c fl ρ Q
  | [], _, q => q
  | (c0, oi, fs) :: r, g, ⟨b, h1, h2, h3⟩ => by
    refine ⟨b, h1, fun hb => ?_, fun hb => pick_mono le (fun z hz => g z (List.mem_cons_of_mem _ hz)) (h3 hb)⟩
    have q := h2 hb
    have m := g _ List.mem_cons_self
    cases oi with
    | none => exact fun a d => m a c d _ _ _ le (q a d)
    | some i => exact fun a d => m a c d _ _ _ (fsUn_le le) (q a d)
theorem pick_ok {K : Fr0} {M : Mk0} {P : Option Addr} {F : Hp} {L : List Addr} {H : Hp} {D : Ends} {c : Value} {fl : List (PD.D × PD.D)} {ρ : Rho} : ∀ {l : List ClD}, Grows l → pick K.f l c fl ρ (postOf K M P F L H D) → KX K M P F L H (wMix K.f D (clV K M l)) c fl ρ
  | [], _, q => q.elim
  | (c0, oi, fs) :: r, g, ⟨b, h1, h2, h3⟩ => by
    intro σ' L' H' d e rr x
    refine ⟨b, h1, fun hb a na => ?_, fun hb => pick_ok (fun z hz => g z (List.mem_cons_of_mem _ hz)) (h3 hb) σ' L' H' d e rr x⟩
    have q := h2 hb
    have m := g _ List.mem_cons_self
    cases oi with
    | none => exact ⟨P, F, L', ρ, rr, m a c d _ _ _ (postLe_frz e D) (q a d)⟩
    | some i =>
      refine ⟨P, F, L', _, rr.setD i (.exc a d fl) (some (.ref a)) ⟨rfl, x⟩ (fun xs z => nomatch z), m a c d _ _ _ ?_ (q a d)⟩
      have gone : ∀ {ρ2 : Rho} {σ2 : L2.St} {L2' : List Addr} {H2 : Hp}, R K M P F L2' ρ2 σ2 H2 → R K M P F L2' (ρ2.set i .no) (σ2.set i none) H2 := fun r2 => r2.setD i .no none trivial fun xs z => nomatch z
      exact ⟨fun ρ2 z σ2 L2' H2 e2 r2 => z _ L2' H2 (e.trans e2) (gone r2), fun d2 ρ2 z v σ2 L2' H2 e2 r2 dd => z v σ2 L2' H2 (e.trans e2) r2 dd, fun ρ2 z σ2 L2' H2 e2 r2 => z _ L2' H2 (e.trans e2) (gone r2), fun ρ2 z σ2 L2' H2 e2 r2 => z _ L2' H2 (e.trans e2) (gone r2)⟩
section
variable {X : Cx} {M : Mk0} {body : List Stmt} {h₀ : ExceptHandler} {hds : List ExceptHandler} {l : List ClD} {pos : Pos} {fb : FS} {fx : FX}
theorem pds_try (hs : X.stack = X.env :: X.outer) (hf : X.env.frame = some X.env.locals)
    (hb : ∀ (Y : Cx) (W : WX) (pn : List (Addr × Obj)) (xe : Value → Shared → Prop), Y = X.tr pn xe → Takes Y W → PassesOwn (model X.prog X.w) X.A X.env xe → PDs Y M body fb ∧ PRs Y M W body fx)
    (hh : HdD X M (h₀ :: hds) l) : PDS X M (.Try body (h₀ :: hds) [] [] pos) (fsTry X.K fb fx l) := by
  have gr := hh.grows
  obtain ⟨mb, mx⟩ : (∀ ρ k k', Post.Le k k' → fb ρ k → fb ρ k') ∧ ∀ ρ k k', (∀ c fl ρ', k c fl ρ' → k' c fl ρ') → fx ρ k → fx ρ k' := by
    obtain ⟨b1, b2⟩ := hb _ (fun _ _ _ _ => False) X.pn (fun _ _ => False) rfl takes_none5 PassesOwn.never
    exact ⟨b1.mono, b2.mono⟩
  refine ⟨PS.wk (ps_try_mix (tb := fun W D σ H => DS X.k0 M fb D σ H ∨ DX X.k0 M W fx σ H) hs hf (fun W pn xe tk po => ?_) hh.mix) fun D σ H ⟨P, F, L, ρ, r, q⟩ => ?_, fun ρ k k' le q => ?_⟩
  · obtain ⟨b1, b2⟩ := hb _ W pn xe rfl tk po
    exact pss_or b1.ps b2.ps
  · rcases q with q | q
    · exact .inl ⟨P, F, L, ρ, r, q⟩
    · exact .inr ⟨P, F, L, ρ, r, mx _ _ _ (fun c fl ρ1 z => pick_ok (K := X.k0) gr z) q⟩
  · exact q.elim (fun z => .inl (mb _ _ _ le z)) fun z => .inr (mx _ _ _ (fun c fl ρ1 y => pick_mono le gr y) z)
/-- e.f, e the caught exception -/
def lookF (n : Str) : List (D × D) → Option D
  | [] => none
  | (.str m, d) :: r => if m = n then some d else lookF n r
  | _ :: r => lookF n r
theorem lookF_ok {K : Fr0} {H : Hp} {n : Str} {x : D} : ∀ {fs : List (Str × V)} {fl : List (D × D)}, RpF K H fs fl → lookF n fl = some x → ∃ v, fs.lookup n = some v ∧ Rp K H v x
  | _, [], h, e => by cases e
  | _, (k, d) :: r, h, e => by
    cases h with
    | @cons m v fs _ _ h1 h2 =>
      have e : (if m = n then some d else lookF n r) = some x := e
      by_cases hm : m = n
      · rw [if_pos hm] at e
        cases e
        exact ⟨v, by simp [List.lookup, hm], h1⟩
      · rw [if_neg hm] at e
        obtain ⟨v', g1, g2⟩ := lookF_ok h2 e
        refine ⟨v', ?_, g2⟩
        have : (n == m) = false := by
          rw [beq_eq_false_iff_ne]
          exact fun z => hm z.symm
        simp [List.lookup, this, g1]
def fXf (a : Addr) (cls : Value) (d : Option Addr) (C : Addr) (i : Nat) (n : Str) : FE := fun ρ k => cls = .ref C ∧ ∃ fl x, ρ.sl[i]? = some (.exc a d fl) ∧ lookF n fl = some x ∧ k x ρ
theorem pd_xf {a C : Addr} {oe : Obj} {cls : Value} {d : Option Addr} {pn : List (Addr × Obj)} {i : Nat} {y n : Str} {py apos : Pos} (T : XfC X.K C) (hno : PySem.W.findIn X.K (.ref C) n = some none) (hz : Zc cls d oe) (hf : ∃ vs, oe.data = .fields vs)
    (he : PE (X.suite a ((a, oe) :: pn)) (.Name y py) (tVar i)) (hb : attributeBase (.Name y py) n X.env (eval (.Name y py) X.env) = eval (.Name y py) X.env := by rfl) :
    PD (X.suite a ((a, oe) :: pn)) M (.Attribute (.Name y py) n apos) (fXf a cls d C i n) := by
  refine ⟨PE.wk (pe_xf T hno hz hf he hb) fun σ H Q ⟨P, F, L, ρ, r, ec, fl, x, h1, h2, q⟩ => ?_, fun ρ k k' g ⟨ec, fl, x, h1, h2, q⟩ => ⟨ec, fl, x, h1, h2, g _ _ q⟩⟩
  have hi : i < σ.length := by rw [r.len]; exact (List.getElem?_eq_some_iff.mp h1).1
  obtain ⟨e1, e2⟩ := r.sl i _ _ h1 (List.getElem?_eq_getElem hi)
  refine ⟨.ref a, by rw [List.getElem?_eq_getElem hi, e1], rfl, ec, ?_⟩
  rcases e2 with ⟨z, _⟩ | ⟨dd, fs, g1, g2, g3⟩
  · subst z
    cases h2
  · obtain ⟨v, k1, k2⟩ := lookF_ok g3 h2
    exact ⟨dd, fs, v, g1, (hide_some.mp g2).2, k1, q v L H (Ex.refl _) r k2⟩
end
end PD
namespace PD
open PySem L2 PyProof.Rows PySem.Spec
open Evl (Ex)
section
variable {X : Cx} {pins : List (Addr × Obj)} {σ : L2.St} {H : Hp} {s : Shared}
def dAt (ps : List (D × D)) (k : NestedKey) : Option D := (ps.find? fun p => decide (keyN p.1 = some k)).map (·.2)
def dPut (ps : List (D × D)) (kd : D) (k : NestedKey) (v : D) : List (D × D) := if (dAt ps k).isSome then ps.map fun p => if keyN p.1 = some k then (p.1, v) else p else ps ++ [(kd, v)]
end
end PD
namespace PD
open PySem L2 PyProof.Rows PySem.Spec
open Evl (Ex)
def isTupK : D → Bool
  | .tuple _ => true
  | _ => false
/-- ints and texts -/
def isFlatK : D → Bool
  | .int _ => true
  | .str _ => true
  | _ => false
/-- a key of this depth, of the kind of the dict's keys -/
def keyOk (kd : D) (ps : List (D × D)) : Option NestedKey := match keyN kd with
  | some k => if (isTupK kd && ps.all fun p => isTupK p.1) || (isFlatK kd && ps.all fun p => isFlatK p.1) then (if k.depth ≤ 8 then some k else none) else none
  | none => none
end PD
namespace PD
open PySem L2 PyProof.Rows PySem.Spec
open Evl (Ex)
def gInD (neg : Bool) : D → D → Option D
  | kd, .dict ps => (keyOk kd ps).map fun k => .bool (if neg = true then !(dAt ps k).isSome else (dAt ps k).isSome)
  | _, _ => none
def gInX (x y : D) : Option D := match y with
  | .dict _ => gInD false x y
  | _ => gIn x y
def gNotInX (x y : D) : Option D := match y with
  | .dict _ => gInD true x y
  | _ => gNotIn x y
def gIxX (x y : D) : Option D := match x with
  | .dict ps => (keyOk y ps).bind (dAt ps)
  | _ => gIx x y
end PD
namespace PD
open PySem L2 PyProof.Rows PySem.Spec
open Evl (Ex)
end PD
namespace PD
open PySem L2 PyProof.Rows PySem.Spec
open Evl (Ex)
section
variable {X : Cx} {M : Mk0} {e i o value : Expr} {fa fb : FE} {pos pos' : Pos}
/-- x = {} -/
def fsOwnD (i : Nat) (kd : Bool) : FS := fun ρ P => P.nx (ρ.set i (.own (.d kd [])))
def fsPut (i : Nat) (fk fv : FE) : FS := fun ρ P => fv ρ fun dv ρ1 => (∃ c, ρ1.sl[i]? = some (.own c)) ∧ fk ρ1 fun dk ρ2 => ∃ kd ps k, ρ2.sl[i]? = some (.own (.d kd ps)) ∧ keyN dk = some k ∧ k.depth ≤ 8 ∧ (if kd = true then isTupK dk else isFlatK dk) = true ∧ ps.length < 1000000 ∧
  P.nx (ρ2.set i (.own (.d kd (dPut ps dk k dv))))
/-- x[k], x a dict of the def's own -/
def fOwnIx (i : Nat) (fk : FE) : FE := fun ρ q => (∃ c, ρ.sl[i]? = some (.own c)) ∧ fk ρ fun dk ρ1 => ∃ kd ps k d, ρ1.sl[i]? = some (.own (.d kd ps)) ∧ keyOk dk ps = some k ∧ dAt ps k = some d ∧ q d ρ1
end
end PD
namespace PD
open PySem L2 PyProof.Rows PySem.Spec
open Evl (Ex)
/-- what stands at d is a dict, by the object o: its keys, its values, in their order -/
structure DEnt (d : Addr) (o : Obj) (u : HO) (es : Array DictEntry) (ep : Nat) (ks vs : List V) : Prop where
  sys : (d == sysModules) = false
  ex : o.ExactDict
  dat : o.data = .dict es ep
  lk : es.size = ks.length
  lv : es.size = vs.length
  key : ∀ (i : Nat) (hi : i < es.size) (x : V), ks[i]? = some x → RelV x es[i].key
  val : ∀ (i : Nat) (hi : i < es.size) (x : V), vs[i]? = some x → RelV x es[i].val
  at_ : ∀ (P : Program) (w : World) (H : Hp) (h : Heap), ObjOk P w H h d u → h.get? d = some o
theorem DEnt.raw {P : Program} {w : World} {H : Hp} {h : Heap} {d : Addr} {o : Obj} {u : HO} {es : Array DictEntry} {ep : Nat} {ks vs : List V} (E : DEnt d o u es ep ks vs) (ok : HOk P w H h) (e : H d = some u) : h.DictRaw d es ep := ⟨o, E.at_ P w H h (ok d u e), E.ex, E.dat⟩
end PD
namespace PD
open PySem L2 PyProof.Rows PySem.Spec
open Evl (Ex)
def kk (kvs : List (Key × V)) : List V := kvs.map fun x => kV x.1
def kv (kvs : List (Key × V)) : List V := kvs.map fun x => x.2
section
variable {K : Fr0} {L : List Addr} {H : Hp} {d : Addr} {u : HO}
/-- keys of one kind -/
def keysOk (ps : List (D × D)) : Bool := (ps.all fun p => isTupK p.1) || ps.all fun p => isFlatK p.1
end
def fiOver (g : List (D × D) → List D) (fa : FE) : FI := fun ρ k => fa ρ fun d ρ1 => ∃ ps, d = .dict ps ∧ keysOk ps = true ∧ k (g ps) ρ1
section
variable {X : Cx} {M : Mk0} {tg e : Expr} {fa : FE} {apos cpos : Pos}
def dKeys (ps : List (D × D)) : List D := ps.map (·.1)
def dVals (ps : List (D × D)) : List D := ps.map (·.2)
def dPairs (ps : List (D × D)) : List D := ps.map fun p => .tuple [p.1, p.2]
end
end PD
namespace PD
open PySem L2 PyProof.Rows PySem.Spec
open Evl (Ex)
section
variable {X : Cx} {M : Mk0} {W : WX} {a b e : Expr} {es : List Expr} {fa fb : FE} {fl : FL} {fs : FS} {f g : FX} {pos p : Pos}
theorem px_ixl {r : R2} (hr : IxR X r) (h : PX X M W a f) (h' : PD X M b fb) (hs : PlainIx b) : PX X M W (.Subscript a b pos) f := ⟨PE.wk (pe_ix hr h.pe h'.pe hs) fun _ _ _ q => q, h.mono⟩
theorem px_cmpl {op : CmpOp} {r : R2} (ho : OpR X (compareOp op) r) (h : PX X M W a f) (h' : PD X M b fb) (hm : behindInMarks op b = false) : PX X M W (.Compare a [op] [b] pos) f := ⟨PE.wk (pe_cmpR ho h.pe h'.pe hm) fun _ _ _ q => q, h.mono⟩
theorem px_slc {p2 : Pos} {lo hi : Option Expr} {fl fh : FO} (h : PX X M W a f) (hl : PDO X M lo fl) (hh : PDO X M hi fh) : PX X M W (.Subscript a (.Slice lo hi none p2) pos) f := ⟨PE.wk (pe_slice sl_any h.pe hl.po hh.po) fun _ _ _ q => q, h.mono⟩
theorem pr_asg {tg : Expr} {gg : FG} {vs : List Nat} (h : PX X M W e f) (hg : PG1 X M tg vs gg) (hs : swapsWithSole [tg] e pos.line X.env = pure false := by rfl) (hw : swappedStores [tg] e X.env = pure none := by rfl) (h1 : (assignEach [tg] X.env).map (·.2) = [assign tg X.env] := by rfl) :
    PR X M W (.Assign [tg] e pos) f := ⟨PS.wk (ps_asg h.pe hg.pg hs hw h1) fun _ _ _ q => q, h.mono⟩
end
end PD
namespace PD
open PySem L2 PyProof.Rows PySem.Spec
open Evl (Ex)
section
variable {X : Cx} {M : Mk0} {e : Expr} {fa : FE} {fn : FN} {pos : Pos} {K : Fr0} {P : Option Addr} {F : Hp} {L : List Addr} {ρ : Rho} {σ : L2.St} {H : Hp}
/-- x.pop(), x a list of the def's own -/
def fPop (i : Nat) : FE := fun ρ k => ∃ (xs : List D) (y : D), ρ.sl[i]? = some (.own (.l (xs ++ [y]))) ∧ k y (ρ.set i (.own (.l xs)))
/-- x.extend(a new list) -/
def fsExt (i : Nat) (fn : FN) : FS := fun ρ P => (∃ xs : List D, ρ.sl[i]? = some (.own xs)) ∧ fn ρ fun ds ρ1 => ∃ xs : List D, ρ1.sl[i]? = some (.own xs) ∧ xs.length + ds.length < 1000000 ∧ P.nx (ρ1.set i (.own (.l (xs ++ ds))))
end
end PD
namespace PD
open PySem L2 PyProof.Rows PySem.Spec
open Evl (Ex)
/-- an instance of the class at C, as data -/
@[reducible] def oD (C : Addr) (ps : List (D × D)) : D := .dict ((.list [], .int (C : Nat)) :: ps)
def lookD (f : Str) : List (D × D) → Option D
  | [] => none
  | (.str g, x) :: r => if f = g then some x else lookD f r
  | _ :: r => lookD f r
def putD (f : Str) (d : D) : List (D × D) → List (D × D)
  | [] => [(.str f, d)]
  | (.str g, x) :: r => if g = f then (.str g, d) :: r else (.str g, x) :: putD f d r
  | e :: r => e :: putD f d r
section
variable {X : Cx} {M : Mk0} {e o : Expr} {es : List Expr} {fa fo : FE} {fA : FA} {pos p apos : Pos} {C : Addr} {f m : Str}
/-- e.f, e an instance of the class at C -/
def fFld (C : Addr) (f : Str) (fa : FE) : FE := fun ρ k => fa ρ fun d ρ1 => ∃ ps x, d = oD C ps ∧ lookD f ps = some x ∧ k x ρ1
/-- x.f = e, x an instance of the def's own -/
def fsFld (i : Nat) (C : Addr) (f : Str) (fa : FE) : FS := fun ρ P => fa ρ fun d ρ1 => ∃ p ps, ρ1.sl[i]? = some (.own (.o p C ps)) ∧ ps.length < 1000 ∧ P.nx (ρ1.set i (.own (.o p C (putD f d ps))))
end
section
variable {X : Cx} {M : Mk0} {k : Nat} {C f : Addr} {fd : FuncData} {ps : List Str} {n : Nat} {W : FE} {m : Str} {apos pos : Pos} {o e : Expr} {es : List Expr} {fo : FE} {fa : FA} {pl : Sem Bool}
/-- a call of the method m of an instance (data) of the class at C -/
def fMeth (C : Addr) (m : Str) (n : Nat) (W : FE) (fo : FE) (fa : FA) : FE := fun ρ k => fo ρ fun d ρ1 => ∃ ps, d = oD C ps ∧ lookD m ps = none ∧
  fa ρ1 fun ss ρ2 => ss.length + 1 = n ∧ W ⟨.d d :: ss, ρ2.n⟩ fun y ρ3 => k y ⟨ρ2.sl, ρ3.n⟩
def faNil : FA := fun ρ k => k [] ρ
end
end PD
namespace PD
open PySem L2 PyProof.Rows PySem.Spec
open Evl (Ex)
def tagD (C : Nat) : D → D → Bool
  | .list [], .int i => decide (i = (C : Int))
  | _, _ => false
mutual
def noO (C : Nat) : D → Bool
  | .list ds => noOs C ds
  | .tuple ds => noOs C ds
  | .dict ps => noOk C ps
  | .none | .bool _ | .int _ | .str _ => true
def noOs (C : Nat) : List D → Bool
  | [] => true
  | d :: ds => noO C d && noOs C ds
def noOk (C : Nat) : List (D × D) → Bool
  | [] => true
  | (k, v) :: ps => noO C k && noO C v && !tagD C k v && noOk C ps
end
section
variable {X : Cx} {M : Mk0} {e : Expr} {fa : FE} {C : Addr}
def fLendO (i : Nat) (C : Addr) (fa : FE) : FE := fun ρ k => (∃ p ps, ρ.sl[i]? = some (.own (.o p C ps))) ∧ fa (lendR i ρ) fun d ρ' => noO C d = true ∧ k d ⟨ρ.sl, ρ'.n⟩
end
abbrev VI := List Sl → Nat → (List (D × D) → Nat → Prop) → Prop
section
variable {X : Cx} {M : Mk0} {k : Nat} {C f : Addr} {fd : FuncData} {ps : List Str} {n : Nat} {V : VI} {x : Str} {p pos : Pos} {e : Expr} {es : List Expr} {fa : FA}
/-- C(..), the instance as data -/
def fMake (C : Addr) (n : Nat) (V : VI) (fa : FA) : FE := fun ρ k => fa ρ fun ss ρ1 => ss.length + 1 = n ∧ V ss ρ1.n fun ps m => k (oD C ps) ⟨ρ1.sl, m⟩
end
end PD
namespace PD
open PySem L2 PyProof.Rows PySem.Spec
open Evl (Ex)
end PD
namespace PD
open PySem L2 PyProof.Rows PySem.Spec
open Evl (Ex)
/-- a dict comprehension: what is put so far, one by one -/
def compK (kd : Bool) (g : FG) (ft : FT) (fk fv : FE) (vs : List Nat) : List D → List (D × D) → Rho → (List (D × D) → Rho → Prop) → Prop
  | [], acc, ρ, k => k acc ρ
  | x :: xs, acc, ρ, k => g x (wipeR vs ρ) fun ρ1 => ft ρ1 fun b ρ2 => if b = true then fk ρ2 fun y ρ3 => fv ρ3 fun z ρ4 => ∃ kk, keyN y = some kk ∧ kk.depth ≤ 8 ∧ (if kd = true then isTupK y else isFlatK y) = true ∧ compK kd g ft fk fv vs xs (dPut acc y kk z) ⟨ρ.sl, ρ4.n⟩ k
      else compK kd g ft fk fv vs xs acc ⟨ρ.sl, ρ2.n⟩ k
section
variable {X : Cx} {M : Mk0} {tg iter kx vx : Expr} {ifs : List Expr} {fi : FI} {g : FG} {ft : FT} {fk fv : FE} {kd : Bool} {pos : Pos}
def fDc (kd : Bool) (fi : FI) (g : FG) (ft : FT) (fk fv : FE) (vs : List Nat) : FE := fun ρ k => fi ρ fun ds ρ1 => ds.length ≤ 1000000 ∧ compK kd g ft fk fv vs ds [] ⟨ρ1.sl.map dropOwn, ρ1.n⟩ fun out ρ2 => k (.dict out) ⟨ρ1.sl, ρ2.n⟩
end
end PD
namespace PD
open PySem L2 PyProof.Rows PySem.Spec
open Evl (Ex)
abbrev FP := Rho → (List (D × D) → Rho → Prop) → Prop
/-- the pairs, one by one into what is there -/
def putAll (kd : Bool) : List (D × D) → List (D × D) → Option (List (D × D))
  | acc, [] => some acc
  | acc, (y, z) :: r => match keyN y with
    | some kk => if kk.depth ≤ 8 ∧ (if kd = true then isTupK y else isFlatK y) = true then putAll kd (dPut acc y kk z) r else none
    | none => none
section
variable {X : Cx} {M : Mk0} {pos : Pos} {ke ve : Expr} {ks : List (Option Expr)} {vs : List Expr} {fk fv : FE} {fp : FP}
def fpNil : FP := fun ρ k => k [] ρ
def fpCons (fk fv : FE) (fp : FP) : FP := fun ρ k => fk ρ fun y ρ1 => fv ρ1 fun z ρ2 => fp ρ2 fun ps ρ3 => k ((y, z) :: ps) ρ3
end
section
variable {X : Cx} {M : Mk0} {pos : Pos} {keys : List (Option Expr)} {values : List Expr} {fp : FP}
def fDisp (kd : Bool) (fp : FP) : FE := fun ρ k => fp ρ fun ps ρ1 => ∃ out, putAll kd [] ps = some out ∧ ps.length ≤ 1000000 ∧ k (.dict out) ρ1
/-- {}, as data -/
def fDict0 : FE := fun ρ k => k (.dict []) ρ
end
end PD
namespace PD
open PySem L2 PyProof.Rows PySem.Spec
open Evl (Ex)
section
variable {X : Cx} {M : Mk0} {o e f : Expr} {fo fk fx : FE} {apos cpos : Pos}
/-- d.get(k, x), d a dict that is not empty -/
def fGet (fo fk fx : FE) : FE := fun ρ q => fo ρ fun d ρ1 => ∃ ps, d = .dict ps ∧ ps ≠ [] ∧ ((ps.all fun p => isTupK p.1) = true ∨ (ps.all fun p => isFlatK p.1) = true) ∧ fk ρ1 fun dk ρ2 => ∃ k, keyOk dk ps = some k ∧ fx ρ2 fun dx ρ3 => q ((dAt ps k).getD dx) ρ3
end
end PD
namespace PD
open PySem L2 PyProof.Rows PySem.Spec
open Evl (Ex)
section
variable {X : Cx} {M : Mk0} {a : Expr} {fa : FE} {pos : Pos}
/-- over a list, a tuple, or the keys of a dict -/
def walkD : D → Option (List D)
  | .list xs => some xs
  | .tuple xs => some xs
  | .dict ps => if keysOk ps = true then some (dKeys ps) else none
  | _ => none
def fiAny (fa : FE) : FI := fun ρ k => fa ρ fun d ρ1 => ∃ ds, walkD d = some ds ∧ k ds ρ1
variable {tg e : Expr} {td : TE}
end
end PD
namespace PD
open PySem L2 PyProof.Rows PySem.Spec
open Evl (Ex)
/-- no instance of a class -/
def noInst : D → Bool
  | .dict ((.list _, _) :: _) => false
  | _ => true
section
variable {X : Cx} {M : Mk0} {a : Expr} {fa : FE} {pos : Pos}
theorem noInst_rp {K : Fr0} {H : Hp} {v : V} {ps : List (D × D)} (h : Rp K H v (.dict ps)) (hn : noInst (.dict ps) = true) : ∃ a, v = .ref a ∧ ((∃ o kvs, H a = some (KdO K.w a o kvs)) ∨ ∃ o xs, H a = some (NdO K.w a o xs)) := by
  cases h with
  | dct h1 _ => exact ⟨_, rfl, .inl ⟨_, _, h1⟩⟩
  | dctN h1 _ => exact ⟨_, rfl, .inr ⟨_, _, h1⟩⟩
  | obj h1 _ => cases hn
  | clo _ _ _ _ _ => cases hn
def rIsiD (K : Fr0) (T : String) : List V → Hp → VK → Prop := fun xs H Q => ∃ x d, xs = [x, .ty T] ∧ okT T = true ∧ Rp K H x d ∧ noInst d = true ∧ Q (.bl (isT T d)) H
theorem call_isiD {T : String} : CallR X (.builtin "isinstance") (rIsiD X.k0 T) := by
  intro pins s σ H xs us Q I r h
  obtain ⟨x, d, rfl, hT, hx, hn, q⟩ := h
  by_cases hd : notDict d = true
  · exact call_isi pins s σ H _ us Q I r ⟨x, .ty T, _, _, isT T d, rfl, .ty T, tyx hx hd, kit_is (K := X.k0) hT d, q⟩
  · cases d with
    | dict ps =>
      obtain ⟨u1, u2, rfl, r1, r2⟩ := vals2 r
      obtain ⟨b, rfl, hb⟩ := noInst_rp hx hn
      cases (show u1 = Value.ref b from r1)
      cases (show u2 = Value.type T from r2)
      have ed : ∃ o, s.heap.get? b = some o ∧ o.ExactDict := by
        rcases hb with ⟨o, kvs, hb⟩ | ⟨o, xs, hb⟩
        · exact ⟨o, (I.hok b _ hb).1.1, (I.hok b _ hb).1.2.2.1⟩
        · exact ⟨o, (I.hok b _ hb).1.1, (I.hok b _ hb).1.2.2.1⟩
      obtain ⟨o, h1, h2⟩ := ed
      exact PySem.W.kia_one PySem.W.kitx_dict I.kIn ⟨o, h1, h2.1⟩ (kit_is (K := X.k0) hT (.dict ps)) (fun z => nomatch z) fun tk => ⟨.bl _, H, I.tok tk, rfl, q⟩
    | none => exact absurd rfl hd
    | bool _ => exact absurd rfl hd
    | int _ => exact absurd rfl hd
    | str _ => exact absurd rfl hd
    | list _ => exact absurd rfl hd
    | tuple _ => exact absurd rfl hd
def gIsTX (T : String) (d : D) : Option D := if noInst d = true then some (.bool (isT T d)) else none
theorem pd_isiX {T : String} {x : Str} {p px : Pos} (hT : okT T = true) (hg : Gl X "isinstance") (hm : X.mg "isinstance" = none) (hx : PE X (.Name x px) (tC (.ty T))) (ha : PD X M a fa)
    (hs : starEach [a, .Name x px] X.env = (false, eval a X.env) :: starEach [.Name x px] X.env := by rfl) (hs2 : starEach [.Name x px] X.env = (false, eval (.Name x px) X.env) :: starEach [] X.env := by rfl)
    (hpl : (backTo pos (starEach [.Name x px] X.env)).any (·.1) = false := by rfl) :
    PD X M (.Call (.Name "isinstance" p) [a, .Name x px] [] pos) (fUn (gIsTX T) fa) := by
  refine ⟨PE.wk (pe_callB (call_isiD (T := T)) hg hm (by decide +kernel) (pa_cons ha.pe (pa_cons hx pa_nil hs2) hs) (by decide) (by decide) hs hpl) fun σ H Q ⟨P, F, L, ρ, r, k⟩ => ?_, fUn_mono ha.mono⟩
  refine ⟨P, F, L, ρ, r, ha.mono _ _ _ (fun d ρ1 ⟨e, he, q⟩ v L1 H1 e1 r1 d1 => ?_) k⟩
  unfold gIsTX at he
  split at he
  · rename_i hd
    cases he
    exact ⟨v, d, rfl, hT, dp_ex (hide_le L1 H1) _ _ d1, hd, q _ L1 H1 e1 r1 (.bl _)⟩
  · cases he
end
end PD
namespace PD
open PySem L2 PyProof.Rows PySem.Spec TL
open Evl (Ex)
theorem noInst_n : noInst .none = true := rfl
theorem noInst_b (b : Bool) : noInst (.bool b) = true := rfl
theorem noInst_i (b : Int) : noInst (.int b) = true := rfl
theorem noInst_s (b : Str) : noInst (.str b) = true := rfl
theorem noInst_l (b : List D) : noInst (.list b) = true := rfl
theorem noInst_t (b : List D) : noInst (.tuple b) = true := rfl
end PD
namespace GM
open PD PySem
abbrev tupI (ns : List Int) : D := .tuple (ns.map .int)
abbrev tupT (T : List (List Int)) : D := .tuple (T.map tupI)
abbrev wishD (q : Int) (T : List (List Int)) (G : List Int) : D := .tuple [.int q, tupT T, tupI G]
abbrev kindD (h a : Int) (lo : List Int) : D := .tuple [.int h, .int a, tupI lo]
structure WOK (q : Int) (T : List (List Int)) (G : List Int) : Prop where
  q1 : 1 ≤ q
  q4 : q ≤ 4
  t1 : 1 ≤ T.length
  t6 : T.length ≤ 6
  row : ∀ r ∈ T, (r.length : Int) = q ∧ ∀ x ∈ r, 0 ≤ x ∧ x ≤ (T.length : Int) - 1
  gs : G.Pairwise (· < ·)
  gr : ∀ x ∈ G, 0 ≤ x ∧ x ≤ (T.length : Int) - 1
  g0 : 0 ∈ G
structure KOK (q h a : Int) (lo : List Int) : Prop where
  h0 : 0 ≤ h
  h3 : h ≤ 3
  a0 : 0 ≤ a
  a2 : a ≤ 2
  ls : lo.Pairwise (· < ·)
  lr : ∀ x ∈ lo, 0 ≤ x ∧ x ≤ q - 1
theorem asc_len : ∀ {G : List Int} {lo hi : Int}, G.Pairwise (· < ·) → (∀ x ∈ G, lo ≤ x ∧ x ≤ hi) → (G.length : Int) ≤ max 0 (hi - lo + 1)
  | [], _, _, _, _ => by simp; omega
  | x :: xs, lo, hi, h, hr => by
    have h' := List.pairwise_cons.mp h
    have hx := hr x List.mem_cons_self
    have := asc_len (lo := x + 1) (hi := hi) h'.2 fun y hy => ⟨by have := h'.1 y hy; omega, (hr y (List.mem_cons_of_mem _ hy)).2⟩
    rw [List.length_cons]
    omega
/-- a step, a way -/
def stp (T : List (List Int)) (s d : Int) : Int := (T.getD s.toNat []).getD d.toNat 0
def walkT (T : List (List Int)) (s : Int) (r : List Int) : Int := r.foldl (stp T) s
abbrev St (T : List (List Int)) (s : Int) : Prop := 0 ≤ s ∧ s ≤ (T.length : Int) - 1
abbrev Dd (q : Int) (d : Int) : Prop := 0 ≤ d ∧ d ≤ q - 1
theorem WOK.at {q : Int} {T : List (List Int)} {G : List Int} (h : WOK q T G) {s : Int} (hs : St T s) : ∃ (i : Nat) (hi : i < T.length), s = i ∧ T.getD s.toNat [] = T[i] ∧ (T[i].length : Int) = q ∧ ∀ x ∈ T[i], St T x := by
  obtain ⟨i, rfl⟩ := Int.eq_ofNat_of_zero_le hs.1
  have hi : i < T.length := by have := hs.2; omega
  have hr := h.row T[i] (List.getElem_mem hi)
  exact ⟨i, hi, rfl, by simp [List.getD, hi], hr.1, hr.2⟩
theorem WOK.stp {q : Int} {T : List (List Int)} {G : List Int} (h : WOK q T G) {s d : Int} (hs : St T s) (hd : Dd q d) : St T (stp T s d) := by
  obtain ⟨i, hi, _, e, hl, hx⟩ := h.at hs
  obtain ⟨j, rfl⟩ := Int.eq_ofNat_of_zero_le hd.1
  have hj : j < T[i].length := by have := hd.2; omega
  unfold GM.stp
  rw [e]
  simp [List.getD, hj]
  exact hx _ (List.getElem_mem hj)
structure IsLive (T : List (List Int)) (G S : List Int) : Prop where
  asc : S.Pairwise (· < ·)
  rng : ∀ x ∈ S, 0 ≤ x ∧ x ≤ (T.length : Int) - 1
  sup : ∀ x ∈ G, x ∈ S
  clo : ∀ (i : Nat) (h : i < T.length), (∃ b ∈ T[i], b ∈ S) → (i : Int) ∈ S
  min : ∀ A : Int → Prop, (∀ x ∈ G, A x) → (∀ (i : Nat) (h : i < T.length), (∃ b ∈ T[i], A b) → A i) → ∀ x ∈ S, A x
structure Ru where
  q : Int
  T : List (List Int)
  G : List Int
  L : List Int
  h : Int
  a : Int
  lo : List Int
structure RuOK (r : Ru) : Prop where
  w : WOK r.q r.T r.G
  l : IsLive r.T r.G r.L
  k : KOK r.q r.h r.a r.lo
inductive Po where
  | even (s : Int)
  | behind (s : Int) (x : List Int)
  | ahead (s : Int) (t : List Int)
  | off (s : Int)
  deriving DecidableEq
def Po.d : Po → D
  | .even s => .tuple [.str "even", .int s]
  | .behind s x => .tuple [.str "behind", .int s, tupI x]
  | .ahead s t => .tuple [.str "ahead", .int s, tupI t]
  | .off s => .tuple [.str "off", .int s]
/-- the order of rows -/
abbrev Lx (x y : List Int) : Prop := x < y
/-- a position by its form -/
def POK (r : Ru) : Po → Prop
  | .even s => s ∈ r.G
  | .off s => s ∈ r.G
  | .behind s x => s ∈ r.G ∧ 1 ≤ x.length ∧ (x.length : Int) ≤ r.h ∧ (∀ d ∈ x, Dd r.q d ∧ d ∉ r.lo) ∧ (∀ n, 1 ≤ n → n ≤ x.length → walkT r.T s (x.take n) ∉ r.G) ∧ walkT r.T s x ∈ r.L
  | .ahead s t => St r.T s ∧ s ∉ r.G ∧ (t.length : Int) ≤ r.a ∧ (∀ d ∈ t, Dd r.q d) ∧ walkT r.T s t ∈ r.G
end GM
namespace GM
open PD PySem
section
variable {r : Ru}
theorem RuOK.st_g (K : RuOK r) {s : Int} (h : s ∈ r.G) : St r.T s := K.w.gr s h
theorem POK.st (K : RuOK r) : ∀ {p : Po}, POK r p → St r.T (match p with | .even s => s | .behind s _ => s | .ahead s _ => s | .off s => s)
  | .even _, h => K.st_g h
  | .off _, h => K.st_g h
  | .behind _ _, h => K.st_g h.1
  | .ahead _ _, h => h.1
end
end GM
namespace GM
open PD PySem
end GM
namespace GM
open PD PySem L2
end GM
namespace GP
open PySem L2 PyProof.Rows PySem.Spec PD GM
open Evl (Ex)
def cntB : D → Bool
  | .int x => decide (0 ≤ x)
  | _ => false
def intB (d : D) (a b : Int) : Bool := match d with
  | .int x => decide (0 ≤ x ∧ a ≤ x ∧ x ≤ b)
  | _ => false
def numsB (d : D) (m : Int) : Bool := match d with
  | .tuple xs => xs.all fun x => intB x 0 (m - 1)
  | _ => false
/-- small enough, and no instances right below -/
def okD : D → Prop
  | .tuple xs => xs.length ≤ 100000 ∧ ∀ x ∈ xs, noInst x = true
  | d => noInst d = true
def w_is_count : FS := fsSeq (fsIf (ftOr (ftT (fUn (gIsTX "bool") (fVar 0))) (ftNot (ftT (fUn (gIsTX "int") (fVar 0))))) (fsRet (fC (.bool false))) (fsNext))
  (fsRet (fOp gGe (fVar 0) (fC (.int 0))))
def W_is_count : FE := fun ρ k => ∃ (d : D), ρ.sl = [.d d] ∧ (noInst d = true) ∧ k (.bool (cntB d)) ρ
theorem mW_is_count (ρ : Rho) (k k' : KD) (hM : ∀ d ρ', k d ρ' → k' d ρ') (q : W_is_count ρ k) : W_is_count ρ k' := by
  obtain ⟨d, e1, e2, e3⟩ := q
  exact ⟨d, e1, e2, hM _ _ e3⟩
theorem ok_is_count : ∀ ρ k, W_is_count ρ k → fBody 1 w_is_count ρ k := by
  rintro ⟨sl, n⟩ k ⟨d, e, hn, q⟩
  simp only at e
  subst e
  cases d <;> simp [w_is_count] <;> simp [and_assoc, Rho.set, dropOwn, ftLend, fLend, lendR, frz, ow, nList, -forall_exists_index, fBody, fsSeq, fsIf, fsRet, fsNext, fsDrop, fsAsg, fsNever, fsFor, fsOwn, fsPar2, fsPar3, fsPar_od, fsPar_do, fsPar_oo, fVar, fC, fUn, fOp, fChain, fTup, fLst, fCall, faD, faSt, flCons, flNil, fSl, foSome, foNone, fAnd, fOr, fNot, fIf, fOfN, fn1, fnLst, fnCat, fgN, fgTup, fgCons, fgNil, fiSeq, fiRange1, fiRange2, fiEnumA, fiZip, ftOr, ftAnd, ftNot, ftB, ftT, ftYes, truD_b, truD_i, truD_l, truD_t, truD_n, gIx_t0, gIx_t1, gIx_t2, gSl_t, gSl_l, gIsT, notDict, isT, isN, tyName, gLen_t, gLen_l, gTuple_l, gCmp, gAdd_ii, gAdd_ll, PD.gSub, gNeg, gMod, seqD, forD, wipeR, gEqA, gNeA, gEq_ii, gNe_ii, gEq_tt, gIn_ints, gIn_intsL, gNotIn_ints, gNotIn_intsL, fM0, fM1, fJoined, fJ, flStar, starD, fCall0, gIsTX, noInst_n, noInst_b, noInst_i, noInst_s, noInst_l, noInst_t, fFld, fMeth, fMake, faNil, fsFld, fLendO, fDisp, fpCons, fpNil, fDict0, fiAny, walkD, fiOver, dKeys, dVals, dPairs, fsOwnD, fsPut, fOwnIx, fPop, fsExt, fDc, compK, gInX, gNotInX, gIxX, fGet] <;> first | exact q | exact ⟨hn, q⟩
def w_is_integer : FS := fsRet (fAnd (fCall 1 W_is_count (faD (flCons (fVar 0) (flNil)))) (fChain gLe gLe (fVar 1) (fVar 0) (fVar 2)))
def W_is_integer : FE := fun ρ k => ∃ (d : D) (a b : Int), ρ.sl = [.d d, .d (.int a), .d (.int b)] ∧ (noInst d = true) ∧ k (.bool (intB d a b)) ρ
theorem mW_is_integer (ρ : Rho) (k k' : KD) (hM : ∀ d ρ', k d ρ' → k' d ρ') (q : W_is_integer ρ k) : W_is_integer ρ k' := by
  obtain ⟨d, a, b, e1, e2, e3⟩ := q
  exact ⟨d, a, b, e1, e2, hM _ _ e3⟩
theorem ok_is_integer : ∀ ρ k, W_is_integer ρ k → fBody 3 w_is_integer ρ k := by
  rintro ⟨sl, n⟩ k ⟨d, a, b, e, hn, q⟩
  simp only at e
  subst e
  simp [w_is_integer]
  simp [and_assoc, Rho.set, dropOwn, ftLend, fLend, lendR, frz, ow, nList, -forall_exists_index, fBody, fsSeq, fsIf, fsRet, fsNext, fsDrop, fsAsg, fsNever, fsFor, fsOwn, fsPar2, fsPar3, fsPar_od, fsPar_do, fsPar_oo, fVar, fC, fUn, fOp, fChain, fTup, fLst, fCall, faD, faSt, flCons, flNil, fSl, foSome, foNone, fAnd, fOr, fNot, fIf, fOfN, fn1, fnLst, fnCat, fgN, fgTup, fgCons, fgNil, fiSeq, fiRange1, fiRange2, fiEnumA, fiZip, ftOr, ftAnd, ftNot, ftB, ftT, ftYes, truD_b, truD_i, truD_l, truD_t, truD_n, gIx_t0, gIx_t1, gIx_t2, gSl_t, gSl_l, gIsT, notDict, isT, isN, tyName, gLen_t, gLen_l, gTuple_l, gCmp, gAdd_ii, gAdd_ll, PD.gSub, gNeg, gMod, seqD, forD, wipeR, gEqA, gNeA, gEq_ii, gNe_ii, gEq_tt, gIn_ints, gIn_intsL, gNotIn_ints, gNotIn_intsL, fM0, fM1, fJoined, fJ, flStar, starD, fCall0, gIsTX, noInst_n, noInst_b, noInst_i, noInst_s, noInst_l, noInst_t, fFld, fMeth, fMake, faNil, fsFld, fLendO, fDisp, fpCons, fpNil, fDict0, fiAny, walkD, fiOver, dKeys, dVals, dPairs, fsOwnD, fsPut, fOwnIx, fPop, fsExt, fDc, compK, gInX, gNotInX, gIxX, fGet]
  refine ⟨d, rfl, hn, ?_⟩
  cases d <;> simp [cntB, intB] at q ⊢ <;> first | exact q | skip
  rename_i x
  by_cases h1 : 0 ≤ x
  · by_cases h2 : a ≤ x <;> by_cases h3 : x ≤ b <;> simp [h1, h2, h3, gLe, gCmp] at q ⊢ <;> first | exact q | (exact .inr q) | skip
    all_goals exact ⟨by omega, q⟩
  · simp [h1] at q
    exact .inl ⟨by omega, q⟩
theorem tru_int {x a b : Int} (h : 0 ≤ x ∧ a ≤ x ∧ x ≤ b) : truD (.bool (intB (.int x) a b)) = some true := by
  show some (decide (0 ≤ x ∧ a ≤ x ∧ x ≤ b)) = _
  rw [decide_eq_true h]
def is3B : D → Bool
  | .tuple [_, _, _] => true
  | _ => false
theorem is3_len (xs : List D) : is3B (.tuple xs) = decide ((xs.length : Int) = 3) := by
  match xs with
  | [] => rfl
  | [_] => rfl
  | [_, _] => rfl
  | [_, _, _] => rfl
  | _ :: _ :: _ :: _ :: xs => simp [is3B]; omega
def w_is_triple : FS := fsRet (fAnd (fUn (gIsTX "tuple") (fVar 0)) (fOp gEqA (fUn gLen (fVar 0)) (fC (.int 3))))
def W_is_triple : FE := fun ρ k => ∃ (d : D), ρ.sl = [.d d] ∧ (noInst d = true) ∧ k (.bool (is3B d)) ρ
theorem mW_is_triple (ρ : Rho) (k k' : KD) (hM : ∀ d ρ', k d ρ' → k' d ρ') (q : W_is_triple ρ k) : W_is_triple ρ k' := by
  obtain ⟨d, e1, e2, e3⟩ := q
  exact ⟨d, e1, e2, hM _ _ e3⟩
theorem ok_is_triple : ∀ ρ k, W_is_triple ρ k → fBody 1 w_is_triple ρ k := by
  rintro ⟨sl, n⟩ k ⟨d, e, hn, q⟩
  simp only at e
  subst e
  cases d <;> simp [w_is_triple] <;> simp [and_assoc, Rho.set, dropOwn, ftLend, fLend, lendR, frz, ow, nList, -forall_exists_index, fBody, fsSeq, fsIf, fsRet, fsNext, fsDrop, fsAsg, fsNever, fsFor, fsOwn, fsPar2, fsPar3, fsPar_od, fsPar_do, fsPar_oo, fVar, fC, fUn, fOp, fChain, fTup, fLst, fCall, faD, faSt, flCons, flNil, fSl, foSome, foNone, fAnd, fOr, fNot, fIf, fOfN, fn1, fnLst, fnCat, fgN, fgTup, fgCons, fgNil, fiSeq, fiRange1, fiRange2, fiEnumA, fiZip, ftOr, ftAnd, ftNot, ftB, ftT, ftYes, truD_b, truD_i, truD_l, truD_t, truD_n, gIx_t0, gIx_t1, gIx_t2, gSl_t, gSl_l, gIsT, notDict, isT, isN, tyName, gLen_t, gLen_l, gTuple_l, gCmp, gAdd_ii, gAdd_ll, PD.gSub, gNeg, gMod, seqD, forD, wipeR, gEqA, gNeA, gEq_ii, gNe_ii, gEq_tt, gIn_ints, gIn_intsL, gNotIn_ints, gNotIn_intsL, fM0, fM1, fJoined, fJ, flStar, starD, fCall0, gIsTX, noInst_n, noInst_b, noInst_i, noInst_s, noInst_l, noInst_t, fFld, fMeth, fMake, faNil, fsFld, fLendO, fDisp, fpCons, fpNil, fDict0, fiAny, walkD, fiOver, dKeys, dVals, dPairs, fsOwnD, fsPut, fOwnIx, fPop, fsExt, fDc, compK, gInX, gNotInX, gIxX, fGet] <;> first | exact q | exact ⟨hn, q⟩ | skip
  rw [is3_len] at q
  exact q
def w_are_numbers : FS := fsSeq (fsIf (ftNot (ftT (fUn (gIsTX "tuple") (fVar 0)))) (fsRet (fC (.bool false))) (fsNext))
  (fsRet (fUn gAll (fOfN (fnComp (fiSeq (fVar 0)) (fgN 2) (ftYes) (fCall 3 W_is_integer (faD (flCons (fVar 2) (flCons (fC (.int 0)) (flCons (fOp gSub (fVar 1) (fC (.int 1))) (flNil)))))) [2]))))
def W_are_numbers : FE := fun ρ k => ∃ (d : D) (m : Int), ρ.sl = [.d d, .d (.int m)] ∧ (okD d) ∧ k (.bool (numsB d m)) ρ
theorem mW_are_numbers (ρ : Rho) (k k' : KD) (hM : ∀ d ρ', k d ρ' → k' d ρ') (q : W_are_numbers ρ k) : W_are_numbers ρ k' := by
  obtain ⟨d, m, e1, e2, e3⟩ := q
  exact ⟨d, m, e1, e2, hM _ _ e3⟩
theorem ok_are_numbers : ∀ ρ k, W_are_numbers ρ k → fBody 3 w_are_numbers ρ k := by
  rintro ⟨sl, n⟩ k ⟨d, m, e, hn, q⟩
  simp only at e
  subst e
  cases d <;> simp [w_are_numbers] <;> simp [and_assoc, Rho.set, dropOwn, ftLend, fLend, lendR, frz, ow, nList, -forall_exists_index, fBody, fsSeq, fsIf, fsRet, fsNext, fsDrop, fsAsg, fsNever, fsFor, fsOwn, fsPar2, fsPar3, fsPar_od, fsPar_do, fsPar_oo, fVar, fC, fUn, fOp, fChain, fTup, fLst, fCall, faD, faSt, flCons, flNil, fSl, foSome, foNone, fAnd, fOr, fNot, fIf, fOfN, fn1, fnLst, fnCat, fgN, fgTup, fgCons, fgNil, fiSeq, fiRange1, fiRange2, fiEnumA, fiZip, ftOr, ftAnd, ftNot, ftB, ftT, ftYes, truD_b, truD_i, truD_l, truD_t, truD_n, gIx_t0, gIx_t1, gIx_t2, gSl_t, gSl_l, gIsT, notDict, isT, isN, tyName, gLen_t, gLen_l, gTuple_l, gCmp, gAdd_ii, gAdd_ll, PD.gSub, gNeg, gMod, seqD, forD, wipeR, gEqA, gNeA, gEq_ii, gNe_ii, gEq_tt, gIn_ints, gIn_intsL, gNotIn_ints, gNotIn_intsL, fM0, fM1, fJoined, fJ, flStar, starD, fCall0, gIsTX, noInst_n, noInst_b, noInst_i, noInst_s, noInst_l, noInst_t, fFld, fMeth, fMake, faNil, fsFld, fLendO, fDisp, fpCons, fpNil, fDict0, fiAny, walkD, fiOver, dKeys, dVals, dPairs, fsOwnD, fsPut, fOwnIx, fPop, fsExt, fDc, compK, gInX, gNotInX, gIxX, fGet] <;> first | exact q | exact ⟨hn, q⟩ | skip
  rename_i xs
  refine fnComp_i ?_
  simp [and_assoc, Rho.set, dropOwn, ftLend, fLend, lendR, frz, ow, nList, -forall_exists_index, fBody, fsSeq, fsIf, fsRet, fsNext, fsDrop, fsAsg, fsNever, fsFor, fsOwn, fsPar2, fsPar3, fsPar_od, fsPar_do, fsPar_oo, fVar, fC, fUn, fOp, fChain, fTup, fLst, fCall, faD, faSt, flCons, flNil, fSl, foSome, foNone, fAnd, fOr, fNot, fIf, fOfN, fn1, fnLst, fnCat, fgN, fgTup, fgCons, fgNil, fiSeq, fiRange1, fiRange2, fiEnumA, fiZip, ftOr, ftAnd, ftNot, ftB, ftT, ftYes, truD_b, truD_i, truD_l, truD_t, truD_n, gIx_t0, gIx_t1, gIx_t2, gSl_t, gSl_l, gIsT, notDict, isT, isN, tyName, gLen_t, gLen_l, gTuple_l, gCmp, gAdd_ii, gAdd_ll, PD.gSub, gNeg, gMod, seqD, forD, wipeR, gEqA, gNeA, gEq_ii, gNe_ii, gEq_tt, gIn_ints, gIn_intsL, gNotIn_ints, gNotIn_intsL, fM0, fM1, fJoined, fJ, flStar, starD, fCall0, gIsTX, noInst_n, noInst_b, noInst_i, noInst_s, noInst_l, noInst_t, fFld, fMeth, fMake, faNil, fsFld, fLendO, fDisp, fpCons, fpNil, fDict0, fiAny, walkD, fiOver, dKeys, dVals, dPairs, fsOwnD, fsPut, fOwnIx, fPop, fsExt, fDc, compK, gInX, gNotInX, gIxX, fGet]
  refine ⟨by have := hn.1; omega, comp_allD (fun x => .bool (intB x 0 (m - 1))) xs (fun x hx kt h => ?_) ?_⟩
  · simp [and_assoc, Rho.set, dropOwn, ftLend, fLend, lendR, frz, ow, nList, -forall_exists_index, fBody, fsSeq, fsIf, fsRet, fsNext, fsDrop, fsAsg, fsNever, fsFor, fsOwn, fsPar2, fsPar3, fsPar_od, fsPar_do, fsPar_oo, fVar, fC, fUn, fOp, fChain, fTup, fLst, fCall, faD, faSt, flCons, flNil, fSl, foSome, foNone, fAnd, fOr, fNot, fIf, fOfN, fn1, fnLst, fnCat, fgN, fgTup, fgCons, fgNil, fiSeq, fiRange1, fiRange2, fiEnumA, fiZip, ftOr, ftAnd, ftNot, ftB, ftT, ftYes, truD_b, truD_i, truD_l, truD_t, truD_n, gIx_t0, gIx_t1, gIx_t2, gSl_t, gSl_l, gIsT, notDict, isT, isN, tyName, gLen_t, gLen_l, gTuple_l, gCmp, gAdd_ii, gAdd_ll, PD.gSub, gNeg, gMod, seqD, forD, wipeR, gEqA, gNeA, gEq_ii, gNe_ii, gEq_tt, gIn_ints, gIn_intsL, gNotIn_ints, gNotIn_intsL, fM0, fM1, fJoined, fJ, flStar, starD, fCall0, gIsTX, noInst_n, noInst_b, noInst_i, noInst_s, noInst_l, noInst_t, fFld, fMeth, fMake, faNil, fsFld, fLendO, fDisp, fpCons, fpNil, fDict0, fiAny, walkD, fiOver, dKeys, dVals, dPairs, fsOwnD, fsPut, fOwnIx, fPop, fsExt, fDc, compK, gInX, gNotInX, gIxX, fGet]
    exact ⟨x, 0, m - 1, rfl, hn.2 x hx, h _ rfl⟩
  · refine ⟨.bool (xs.all fun x => intB x 0 (m - 1)), ?_, q⟩
    rw [show xs.map (fun x => PyData.bool (intB x 0 (m - 1))) = (xs.map fun x => intB x 0 (m - 1)).map .bool by rw [List.map_map]; rfl, gAll_bs, List.all_map]
    rfl
/-- ints, each greater than the one ahead -/
def risB (ns : List Int) : Bool := (ns.zip ns.tail).all fun p => decide (p.1 < p.2)
theorem risB_iff : ∀ {ns : List Int}, risB ns = true ↔ ns.Pairwise (· < ·)
  | [] => by simp [risB]
  | [a] => by simp [risB]
  | a :: b :: ns => by
    have ih := risB_iff (ns := b :: ns)
    unfold risB at ih ⊢
    rw [List.tail_cons, List.zip_cons_cons, List.all_cons, Bool.and_eq_true, decide_eq_true_eq]
    rw [List.tail_cons] at ih
    rw [ih, List.pairwise_cons (a := a)]
    constructor
    · rintro ⟨h1, h2⟩
      refine ⟨fun x hx => ?_, h2⟩
      rcases List.mem_cons.mp hx with z | z
      · rw [z]; exact h1
      · have := (List.pairwise_cons.mp h2).1 x z
        omega
    · rintro ⟨h1, h2⟩
      exact ⟨h1 b List.mem_cons_self, h2⟩
def w_are_rising : FS := fsRet (fUn gAll (fOfN (fnComp (fiZip (flCons (fVar 0) (flCons (fSl gSl (fVar 0) (foSome (fC (.int 1))) (foNone)) (flNil)))) (fgTup 2 (fgCons (fgN 1) (fgCons (fgN 2) (fgNil)))) (ftYes) (fOp gLt (fVar 1) (fVar 2)) [1, 2])))
def W_are_rising : FE := fun ρ k => ∃ (ns : List Int), ρ.sl = [.d (tupI ns)] ∧ (ns.length ≤ 100000) ∧ k (.bool (risB ns)) ρ
theorem mW_are_rising (ρ : Rho) (k k' : KD) (hM : ∀ d ρ', k d ρ' → k' d ρ') (q : W_are_rising ρ k) : W_are_rising ρ k' := by
  obtain ⟨ns, e1, e2, e3⟩ := q
  exact ⟨ns, e1, e2, hM _ _ e3⟩
theorem ok_are_rising : ∀ ρ k, W_are_rising ρ k → fBody 3 w_are_rising ρ k := by
  rintro ⟨sl, n⟩ k ⟨ns, e, hl, q⟩
  simp only at e
  subst e
  simp [w_are_rising]
  simp [and_assoc, Rho.set, dropOwn, ftLend, fLend, lendR, frz, ow, nList, -forall_exists_index, fBody, fsSeq, fsIf, fsRet, fsNext, fsDrop, fsAsg, fsNever, fsFor, fsOwn, fsPar2, fsPar3, fsPar_od, fsPar_do, fsPar_oo, fVar, fC, fUn, fOp, fChain, fTup, fLst, fCall, faD, faSt, flCons, flNil, fSl, foSome, foNone, fAnd, fOr, fNot, fIf, fOfN, fn1, fnLst, fnCat, fgN, fgTup, fgCons, fgNil, fiSeq, fiRange1, fiRange2, fiEnumA, fiZip, ftOr, ftAnd, ftNot, ftB, ftT, ftYes, truD_b, truD_i, truD_l, truD_t, truD_n, gIx_t0, gIx_t1, gIx_t2, gSl_t, gSl_l, gIsT, notDict, isT, isN, tyName, gLen_t, gLen_l, gTuple_l, gCmp, gAdd_ii, gAdd_ll, PD.gSub, gNeg, gMod, seqD, forD, wipeR, gEqA, gNeA, gEq_ii, gNe_ii, gEq_tt, gIn_ints, gIn_intsL, gNotIn_ints, gNotIn_intsL, fM0, fM1, fJoined, fJ, flStar, starD, fCall0, gIsTX, noInst_n, noInst_b, noInst_i, noInst_s, noInst_l, noInst_t, fFld, fMeth, fMake, faNil, fsFld, fLendO, fDisp, fpCons, fpNil, fDict0, fiAny, walkD, fiOver, dKeys, dVals, dPairs, fsOwnD, fsPut, fOwnIx, fPop, fsExt, fDc, compK, gInX, gNotInX, gIxX, fGet]
  refine fnComp_i ?_
  simp [and_assoc, Rho.set, dropOwn, ftLend, fLend, lendR, frz, ow, nList, -forall_exists_index, fBody, fsSeq, fsIf, fsRet, fsNext, fsDrop, fsAsg, fsNever, fsFor, fsOwn, fsPar2, fsPar3, fsPar_od, fsPar_do, fsPar_oo, fVar, fC, fUn, fOp, fChain, fTup, fLst, fCall, faD, faSt, flCons, flNil, fSl, foSome, foNone, fAnd, fOr, fNot, fIf, fOfN, fn1, fnLst, fnCat, fgN, fgTup, fgCons, fgNil, fiSeq, fiRange1, fiRange2, fiEnumA, fiZip, ftOr, ftAnd, ftNot, ftB, ftT, ftYes, truD_b, truD_i, truD_l, truD_t, truD_n, gIx_t0, gIx_t1, gIx_t2, gSl_t, gSl_l, gIsT, notDict, isT, isN, tyName, gLen_t, gLen_l, gTuple_l, gCmp, gAdd_ii, gAdd_ll, PD.gSub, gNeg, gMod, seqD, forD, wipeR, gEqA, gNeA, gEq_ii, gNe_ii, gEq_tt, gIn_ints, gIn_intsL, gNotIn_ints, gNotIn_intsL, fM0, fM1, fJoined, fJ, flStar, starD, fCall0, gIsTX, noInst_n, noInst_b, noInst_i, noInst_s, noInst_l, noInst_t, fFld, fMeth, fMake, faNil, fsFld, fLendO, fDisp, fpCons, fpNil, fDict0, fiAny, walkD, fiOver, dKeys, dVals, dPairs, fsOwnD, fsPut, fOwnIx, fPop, fsExt, fDc, compK, gInX, gNotInX, gIxX, fGet]
  refine ⟨_, by rw [← List.map_tail]; exact zip_ints ns ns.tail, by simp; omega, comp_all (fun p => PyData.tuple [.int p.1, .int p.2]) (fun p => .bool (decide (p.1 < p.2))) (ns.zip ns.tail) (fun p hp kt h => ?_) ?_⟩
  · simp [and_assoc, Rho.set, dropOwn, ftLend, fLend, lendR, frz, ow, nList, -forall_exists_index, fBody, fsSeq, fsIf, fsRet, fsNext, fsDrop, fsAsg, fsNever, fsFor, fsOwn, fsPar2, fsPar3, fsPar_od, fsPar_do, fsPar_oo, fVar, fC, fUn, fOp, fChain, fTup, fLst, fCall, faD, faSt, flCons, flNil, fSl, foSome, foNone, fAnd, fOr, fNot, fIf, fOfN, fn1, fnLst, fnCat, fgN, fgTup, fgCons, fgNil, fiSeq, fiRange1, fiRange2, fiEnumA, fiZip, ftOr, ftAnd, ftNot, ftB, ftT, ftYes, truD_b, truD_i, truD_l, truD_t, truD_n, gIx_t0, gIx_t1, gIx_t2, gSl_t, gSl_l, gIsT, notDict, isT, isN, tyName, gLen_t, gLen_l, gTuple_l, gCmp, gAdd_ii, gAdd_ll, PD.gSub, gNeg, gMod, seqD, forD, wipeR, gEqA, gNeA, gEq_ii, gNe_ii, gEq_tt, gIn_ints, gIn_intsL, gNotIn_ints, gNotIn_intsL, fM0, fM1, fJoined, fJ, flStar, starD, fCall0, gIsTX, noInst_n, noInst_b, noInst_i, noInst_s, noInst_l, noInst_t, fFld, fMeth, fMake, faNil, fsFld, fLendO, fDisp, fpCons, fpNil, fDict0, fiAny, walkD, fiOver, dKeys, dVals, dPairs, fsOwnD, fsPut, fOwnIx, fPop, fsExt, fDc, compK, gInX, gNotInX, gIxX, fGet]
    exact h _ rfl
  · refine ⟨.bool (risB ns), ?_, q⟩
    rw [show (ns.zip ns.tail).map (fun p => PyData.bool (decide (p.1 < p.2))) = ((ns.zip ns.tail).map fun p => decide (p.1 < p.2)).map .bool by rw [List.map_map]; rfl, gAll_bs, List.all_map]
    rfl
/-- the ints of a tuple -/
def intsOfD : D → List Int
  | .tuple xs => xs.map fun x => match x with | .int i => i | _ => 0
  | _ => []
theorem numsB_ints {d : D} {m : Int} (h : numsB d m = true) : d = tupI (intsOfD d) ∧ ∀ x ∈ intsOfD d, Dd m x := by
  cases d with
  | tuple xs =>
    have h : (xs.all fun x => intB x 0 (m - 1)) = true := h
    have h := List.all_eq_true.mp h
    refine ⟨?_, fun y hy => ?_⟩
    · show PyData.tuple xs = .tuple ((xs.map fun x => match x with | .int i => i | _ => 0).map .int)
      rw [List.map_map]
      congr 1
      conv => lhs; rw [← List.map_id xs]
      refine List.map_congr_left fun x hx => ?_
      have := h x hx
      cases x <;> simp [intB] at this
      rfl
    · obtain ⟨x, hx, rfl⟩ := List.mem_map.mp hy
      have := h x hx
      cases x <;> simp [intB] at this
      exact ⟨this.1, this.2⟩
  | none => cases h
  | bool _ => cases h
  | int _ => cases h
  | str _ => cases h
  | list _ => cases h
  | dict _ => cases h
theorem numsB_of {ns : List Int} {m : Int} : numsB (tupI ns) m = ns.all fun x => decide (0 ≤ x ∧ x ≤ m - 1) := by
  show ((ns.map PyData.int).all fun x => intB x 0 (m - 1)) = _
  rw [List.all_map]
  congr 1
  funext x
  show decide (0 ≤ x ∧ 0 ≤ x ∧ x ≤ m - 1) = _
  congr 1
  simp
theorem numsB_yes {ns : List Int} {m : Int} (h : ∀ x ∈ ns, Dd m x) : numsB (tupI ns) m = true := by
  rw [numsB_of]
  exact List.all_eq_true.mpr fun x hx => decide_eq_true (h x hx)
theorem okD_tupI {ns : List Int} (h : ns.length ≤ 100000) : okD (tupI ns) := ⟨by rw [List.length_map]; exact h, fun x hx => by obtain ⟨i, _, rfl⟩ := List.mem_map.mp hx; rfl⟩
theorem okD_len {d : D} {m : Int} (h : okD d) (hn : numsB d m = true) : (intsOfD d).length ≤ 100000 := by
  cases d <;> simp [intsOfD]
  exact h.1
def ascB (d : D) (m : Int) : Bool := numsB d m && risB (intsOfD d)
theorem intsOf_tupI (ns : List Int) : intsOfD (tupI ns) = ns := by
  show (ns.map PyData.int).map _ = ns
  rw [List.map_map]
  exact List.map_id ns
def w_are_ascending : FS := fsSeq (fsIf (ftNot (ftT (fCall 2 W_are_numbers (faD (flCons (fVar 0) (flCons (fVar 1) (flNil))))))) (fsRet (fC (.bool false))) (fsNext))
  (fsRet (fCall 1 W_are_rising (faD (flCons (fVar 0) (flNil)))))
def W_are_ascending : FE := fun ρ k => ∃ (d : D) (m : Int), ρ.sl = [.d d, .d (.int m)] ∧ (okD d) ∧ k (.bool (ascB d m)) ρ
theorem mW_are_ascending (ρ : Rho) (k k' : KD) (hM : ∀ d ρ', k d ρ' → k' d ρ') (q : W_are_ascending ρ k) : W_are_ascending ρ k' := by
  obtain ⟨d, m, e1, e2, e3⟩ := q
  exact ⟨d, m, e1, e2, hM _ _ e3⟩
theorem ok_are_ascending : ∀ ρ k, W_are_ascending ρ k → fBody 2 w_are_ascending ρ k := by
  rintro ⟨sl, n⟩ k ⟨d, m, e, hn, q⟩
  simp only at e
  subst e
  simp [w_are_ascending]
  simp [and_assoc, Rho.set, dropOwn, ftLend, fLend, lendR, frz, ow, nList, -forall_exists_index, fBody, fsSeq, fsIf, fsRet, fsNext, fsDrop, fsAsg, fsNever, fsFor, fsOwn, fsPar2, fsPar3, fsPar_od, fsPar_do, fsPar_oo, fVar, fC, fUn, fOp, fChain, fTup, fLst, fCall, faD, faSt, flCons, flNil, fSl, foSome, foNone, fAnd, fOr, fNot, fIf, fOfN, fn1, fnLst, fnCat, fgN, fgTup, fgCons, fgNil, fiSeq, fiRange1, fiRange2, fiEnumA, fiZip, ftOr, ftAnd, ftNot, ftB, ftT, ftYes, truD_b, truD_i, truD_l, truD_t, truD_n, gIx_t0, gIx_t1, gIx_t2, gSl_t, gSl_l, gIsT, notDict, isT, isN, tyName, gLen_t, gLen_l, gTuple_l, gCmp, gAdd_ii, gAdd_ll, PD.gSub, gNeg, gMod, seqD, forD, wipeR, gEqA, gNeA, gEq_ii, gNe_ii, gEq_tt, gIn_ints, gIn_intsL, gNotIn_ints, gNotIn_intsL, fM0, fM1, fJoined, fJ, flStar, starD, fCall0, gIsTX, noInst_n, noInst_b, noInst_i, noInst_s, noInst_l, noInst_t, fFld, fMeth, fMake, faNil, fsFld, fLendO, fDisp, fpCons, fpNil, fDict0, fiAny, walkD, fiOver, dKeys, dVals, dPairs, fsOwnD, fsPut, fOwnIx, fPop, fsExt, fDc, compK, gInX, gNotInX, gIxX, fGet]
  refine ⟨d, m, rfl, hn, ?_⟩
  unfold ascB at q
  cases h : numsB d m with
  | false =>
    rw [h] at q
    exact .inl ⟨rfl, q⟩
  | true =>
    rw [h, Bool.true_and] at q
    obtain ⟨h1, h2⟩ := numsB_ints h
    refine .inr ⟨rfl, intsOfD d, ?_, okD_len hn h, ?_⟩
    · rw [← h1]
    · exact q
theorem ascB_yes {ns : List Int} {m : Int} (h : ∀ x ∈ ns, Dd m x) (hs : ns.Pairwise (· < ·)) : ascB (tupI ns) m = true := by
  unfold ascB
  rw [numsB_yes h, intsOf_tupI, risB_iff.mpr hs]
  rfl
def rowB (x : D) (n : Nat) (q : Int) : Bool := numsB x n && decide (((intsOfD x).length : Int) = q)
def stepsB (d : D) (q : Int) : Bool := match d with
  | .tuple xs => decide (1 ≤ xs.length ∧ xs.length ≤ 6) && xs.all fun x => rowB x xs.length q
  | _ => false
def okD2 : D → Prop
  | .tuple xs => xs.length ≤ 100000 ∧ ∀ x ∈ xs, okD x
  | d => noInst d = true
def w_are_steps : FS := fsSeq (fsIf (ftOr (ftNot (ftT (fUn (gIsTX "tuple") (fVar 0)))) (ftNot (ftB (fChain gLe gLe (fC (.int 1)) (fUn gLen (fVar 0)) (fC (.int 6)))))) (fsRet (fC (.bool false))) (fsNext))
  (fsRet (fUn gAll (fOfN (fnComp (fiSeq (fVar 0)) (fgN 2) (ftYes) (fAnd (fCall 2 W_are_numbers (faD (flCons (fVar 2) (flCons (fUn gLen (fVar 0)) (flNil))))) (fOp gEqA (fUn gLen (fVar 2)) (fVar 1))) [2]))))
def W_are_steps : FE := fun ρ k => ∃ (d : D) (q : Int), ρ.sl = [.d d, .d (.int q)] ∧ (okD2 d) ∧ k (.bool (stepsB d q)) ρ
theorem mW_are_steps (ρ : Rho) (k k' : KD) (hM : ∀ d ρ', k d ρ' → k' d ρ') (q : W_are_steps ρ k) : W_are_steps ρ k' := by
  obtain ⟨d, q, e1, e2, e3⟩ := q
  exact ⟨d, q, e1, e2, hM _ _ e3⟩
theorem ok_are_steps : ∀ ρ k, W_are_steps ρ k → fBody 3 w_are_steps ρ k := by
  rintro ⟨sl, n⟩ k ⟨d, q, e, hn, z⟩
  simp only at e
  subst e
  cases d <;> simp [w_are_steps] <;> simp [and_assoc, Rho.set, dropOwn, ftLend, fLend, lendR, frz, ow, nList, -forall_exists_index, fBody, fsSeq, fsIf, fsRet, fsNext, fsDrop, fsAsg, fsNever, fsFor, fsOwn, fsPar2, fsPar3, fsPar_od, fsPar_do, fsPar_oo, fVar, fC, fUn, fOp, fChain, fTup, fLst, fCall, faD, faSt, flCons, flNil, fSl, foSome, foNone, fAnd, fOr, fNot, fIf, fOfN, fn1, fnLst, fnCat, fgN, fgTup, fgCons, fgNil, fiSeq, fiRange1, fiRange2, fiEnumA, fiZip, ftOr, ftAnd, ftNot, ftB, ftT, ftYes, truD_b, truD_i, truD_l, truD_t, truD_n, gIx_t0, gIx_t1, gIx_t2, gSl_t, gSl_l, gIsT, notDict, isT, isN, tyName, gLen_t, gLen_l, gTuple_l, gCmp, gAdd_ii, gAdd_ll, PD.gSub, gNeg, gMod, seqD, forD, wipeR, gEqA, gNeA, gEq_ii, gNe_ii, gEq_tt, gIn_ints, gIn_intsL, gNotIn_ints, gNotIn_intsL, fM0, fM1, fJoined, fJ, flStar, starD, fCall0, gIsTX, noInst_n, noInst_b, noInst_i, noInst_s, noInst_l, noInst_t, fFld, fMeth, fMake, faNil, fsFld, fLendO, fDisp, fpCons, fpNil, fDict0, fiAny, walkD, fiOver, dKeys, dVals, dPairs, fsOwnD, fsPut, fOwnIx, fPop, fsExt, fDc, compK, gInX, gNotInX, gIxX, fGet] <;> first | exact z | exact ⟨hn, z⟩ | skip
  rename_i xs
  have hl := hn.1
  have z : k (.bool (decide (1 ≤ xs.length ∧ xs.length ≤ 6) && xs.all fun x => rowB x xs.length q)) ⟨[.d (.tuple xs), .d (.int q)], n⟩ := z
  by_cases h1 : 1 ≤ xs.length
  · by_cases h6 : xs.length ≤ 6
    · refine .inr ⟨by omega, .inr ⟨by omega, ?_⟩⟩
      refine fnComp_i ?_
      simp [and_assoc, Rho.set, dropOwn, ftLend, fLend, lendR, frz, ow, nList, -forall_exists_index, fBody, fsSeq, fsIf, fsRet, fsNext, fsDrop, fsAsg, fsNever, fsFor, fsOwn, fsPar2, fsPar3, fsPar_od, fsPar_do, fsPar_oo, fVar, fC, fUn, fOp, fChain, fTup, fLst, fCall, faD, faSt, flCons, flNil, fSl, foSome, foNone, fAnd, fOr, fNot, fIf, fOfN, fn1, fnLst, fnCat, fgN, fgTup, fgCons, fgNil, fiSeq, fiRange1, fiRange2, fiEnumA, fiZip, ftOr, ftAnd, ftNot, ftB, ftT, ftYes, truD_b, truD_i, truD_l, truD_t, truD_n, gIx_t0, gIx_t1, gIx_t2, gSl_t, gSl_l, gIsT, notDict, isT, isN, tyName, gLen_t, gLen_l, gTuple_l, gCmp, gAdd_ii, gAdd_ll, PD.gSub, gNeg, gMod, seqD, forD, wipeR, gEqA, gNeA, gEq_ii, gNe_ii, gEq_tt, gIn_ints, gIn_intsL, gNotIn_ints, gNotIn_intsL, fM0, fM1, fJoined, fJ, flStar, starD, fCall0, gIsTX, noInst_n, noInst_b, noInst_i, noInst_s, noInst_l, noInst_t, fFld, fMeth, fMake, faNil, fsFld, fLendO, fDisp, fpCons, fpNil, fDict0, fiAny, walkD, fiOver, dKeys, dVals, dPairs, fsOwnD, fsPut, fOwnIx, fPop, fsExt, fDc, compK, gInX, gNotInX, gIxX, fGet]
      refine ⟨by omega, comp_allD (fun x => .bool (rowB x xs.length q)) xs (fun x hx' kt h => ?_) ?_⟩
      · simp [and_assoc, Rho.set, dropOwn, ftLend, fLend, lendR, frz, ow, nList, -forall_exists_index, fBody, fsSeq, fsIf, fsRet, fsNext, fsDrop, fsAsg, fsNever, fsFor, fsOwn, fsPar2, fsPar3, fsPar_od, fsPar_do, fsPar_oo, fVar, fC, fUn, fOp, fChain, fTup, fLst, fCall, faD, faSt, flCons, flNil, fSl, foSome, foNone, fAnd, fOr, fNot, fIf, fOfN, fn1, fnLst, fnCat, fgN, fgTup, fgCons, fgNil, fiSeq, fiRange1, fiRange2, fiEnumA, fiZip, ftOr, ftAnd, ftNot, ftB, ftT, ftYes, truD_b, truD_i, truD_l, truD_t, truD_n, gIx_t0, gIx_t1, gIx_t2, gSl_t, gSl_l, gIsT, notDict, isT, isN, tyName, gLen_t, gLen_l, gTuple_l, gCmp, gAdd_ii, gAdd_ll, PD.gSub, gNeg, gMod, seqD, forD, wipeR, gEqA, gNeA, gEq_ii, gNe_ii, gEq_tt, gIn_ints, gIn_intsL, gNotIn_ints, gNotIn_intsL, fM0, fM1, fJoined, fJ, flStar, starD, fCall0, gIsTX, noInst_n, noInst_b, noInst_i, noInst_s, noInst_l, noInst_t, fFld, fMeth, fMake, faNil, fsFld, fLendO, fDisp, fpCons, fpNil, fDict0, fiAny, walkD, fiOver, dKeys, dVals, dPairs, fsOwnD, fsPut, fOwnIx, fPop, fsExt, fDc, compK, gInX, gNotInX, gIxX, fGet]
        refine ⟨x, xs.length, rfl, hn.2 x hx', ?_⟩
        unfold rowB at h
        cases hb : numsB x xs.length with
        | false =>
          simp only [hb, Bool.false_and] at h
          exact .inl ⟨rfl, h _ rfl⟩
        | true =>
          have h3 := (numsB_ints hb).1
          simp only [hb, Bool.true_and] at h
          generalize intsOfD x = ns at h h3
          subst h3
          refine .inr ⟨rfl, ?_⟩
          simp [and_assoc, Rho.set, dropOwn, ftLend, fLend, lendR, frz, ow, nList, -forall_exists_index, fBody, fsSeq, fsIf, fsRet, fsNext, fsDrop, fsAsg, fsNever, fsFor, fsOwn, fsPar2, fsPar3, fsPar_od, fsPar_do, fsPar_oo, fVar, fC, fUn, fOp, fChain, fTup, fLst, fCall, faD, faSt, flCons, flNil, fSl, foSome, foNone, fAnd, fOr, fNot, fIf, fOfN, fn1, fnLst, fnCat, fgN, fgTup, fgCons, fgNil, fiSeq, fiRange1, fiRange2, fiEnumA, fiZip, ftOr, ftAnd, ftNot, ftB, ftT, ftYes, truD_b, truD_i, truD_l, truD_t, truD_n, gIx_t0, gIx_t1, gIx_t2, gSl_t, gSl_l, gIsT, notDict, isT, isN, tyName, gLen_t, gLen_l, gTuple_l, gCmp, gAdd_ii, gAdd_ll, PD.gSub, gNeg, gMod, seqD, forD, wipeR, gEqA, gNeA, gEq_ii, gNe_ii, gEq_tt, gIn_ints, gIn_intsL, gNotIn_ints, gNotIn_intsL, fM0, fM1, fJoined, fJ, flStar, starD, fCall0, gIsTX, noInst_n, noInst_b, noInst_i, noInst_s, noInst_l, noInst_t, fFld, fMeth, fMake, faNil, fsFld, fLendO, fDisp, fpCons, fpNil, fDict0, fiAny, walkD, fiOver, dKeys, dVals, dPairs, fsOwnD, fsPut, fOwnIx, fPop, fsExt, fDc, compK, gInX, gNotInX, gIxX, fGet]
          exact h _ rfl
      · refine ⟨.bool (xs.all fun x => rowB x xs.length q), ?_, ?_⟩
        · rw [show xs.map (fun x => PyData.bool (rowB x xs.length q)) = (xs.map fun x => rowB x xs.length q).map .bool by rw [List.map_map]; rfl, gAll_bs, List.all_map]
          rfl
        · rw [decide_eq_true ⟨h1, h6⟩, Bool.true_and] at z
          exact z
    · rw [decide_eq_false (by omega), Bool.false_and] at z
      exact .inr ⟨by omega, .inl ⟨by omega, z⟩⟩
  · rw [decide_eq_false (by omega), Bool.false_and] at z
    exact .inl ⟨by omega, z⟩
theorem okD2_T {q : Int} {T : List (List Int)} {G : List Int} (w : WOK q T G) : okD2 (tupT T) := ⟨by rw [List.length_map]; have := w.t6; omega, fun x hx => by
  obtain ⟨r, hr, rfl⟩ := List.mem_map.mp hx
  exact okD_tupI (by have := (w.row r hr).1; have := w.q4; omega)⟩
theorem stepsB_yes {q : Int} {T : List (List Int)} {G : List Int} (w : WOK q T G) : stepsB (tupT T) q = true := by
  unfold stepsB
  simp only [Bool.and_eq_true, decide_eq_true_eq, List.all_eq_true, List.length_map]
  refine ⟨⟨w.t1, w.t6⟩, fun x hx => ?_⟩
  obtain ⟨r, hr, rfl⟩ := List.mem_map.mp hx
  unfold rowB
  rw [numsB_yes (w.row r hr).2, intsOf_tupI, decide_eq_true (w.row r hr).1]
  rfl
theorem _root_.GM.WOK.glen {q : Int} {T : List (List Int)} {G : List Int} (w : WOK q T G) : G.length ≤ 6 := by
  have := asc_len w.gs w.gr
  have := w.t6
  omega
theorem _root_.GM.KOK.llen {q h a : Int} {lo : List Int} (w : KOK q h a lo) (q4 : q ≤ 4) : lo.length ≤ 4 := by
  have := asc_len w.ls w.lr
  omega
def w_need_wish : FS := fsSeq (fsIf (ftNot (ftT (fCall 1 W_is_triple (faD (flCons (fVar 0) (flNil)))))) (fsNever) (fsNext))
  (fsSeq (fsAsg (fVar 0) (fgTup 3 (fgCons (fgN 1) (fgCons (fgN 2) (fgCons (fgN 3) (fgNil))))))
  (fsSeq (fsIf (ftNot (ftT (fCall 3 W_is_integer (faD (flCons (fVar 1) (flCons (fC (.int 1)) (flCons (fC (.int 4)) (flNil)))))))) (fsNever) (fsNext))
  (fsSeq (fsIf (ftNot (ftT (fCall 2 W_are_steps (faD (flCons (fVar 2) (flCons (fVar 1) (flNil))))))) (fsNever) (fsNext))
  (fsSeq (fsIf (ftOr (ftNot (ftT (fCall 2 W_are_ascending (faD (flCons (fVar 3) (flCons (fUn gLen (fVar 2)) (flNil))))))) (ftB (fOp gNotIn (fC (.int 0)) (fVar 3)))) (fsNever) (fsNext))
  (fsRet (fVar 0))))))
def W_need_wish : FE := fun ρ k => ∃ (q : Int) (T : List (List Int)) (G : List Int), ρ.sl = [.d (wishD q T G)] ∧ (WOK q T G) ∧ k (wishD q T G) ρ
theorem mW_need_wish (ρ : Rho) (k k' : KD) (hM : ∀ d ρ', k d ρ' → k' d ρ') (q : W_need_wish ρ k) : W_need_wish ρ k' := by
  obtain ⟨q, T, G, e1, e2, e3⟩ := q
  exact ⟨q, T, G, e1, e2, hM _ _ e3⟩
theorem ok_need_wish : ∀ ρ k, W_need_wish ρ k → fBody 4 w_need_wish ρ k := by
  rintro ⟨sl, n⟩ k ⟨q, T, G, e, w, z⟩
  simp only at e
  subst e
  have g6 := w.glen
  simp [w_need_wish]
  simp [and_assoc, Rho.set, dropOwn, ftLend, fLend, lendR, frz, ow, nList, -forall_exists_index, fBody, fsSeq, fsIf, fsRet, fsNext, fsDrop, fsAsg, fsNever, fsFor, fsOwn, fsPar2, fsPar3, fsPar_od, fsPar_do, fsPar_oo, fVar, fC, fUn, fOp, fChain, fTup, fLst, fCall, faD, faSt, flCons, flNil, fSl, foSome, foNone, fAnd, fOr, fNot, fIf, fOfN, fn1, fnLst, fnCat, fgN, fgTup, fgCons, fgNil, fiSeq, fiRange1, fiRange2, fiEnumA, fiZip, ftOr, ftAnd, ftNot, ftB, ftT, ftYes, truD_b, truD_i, truD_l, truD_t, truD_n, gIx_t0, gIx_t1, gIx_t2, gSl_t, gSl_l, gIsT, notDict, isT, isN, tyName, gLen_t, gLen_l, gTuple_l, gCmp, gAdd_ii, gAdd_ll, PD.gSub, gNeg, gMod, seqD, forD, wipeR, gEqA, gNeA, gEq_ii, gNe_ii, gEq_tt, gIn_ints, gIn_intsL, gNotIn_ints, gNotIn_intsL, fM0, fM1, fJoined, fJ, flStar, starD, fCall0, gIsTX, noInst_n, noInst_b, noInst_i, noInst_s, noInst_l, noInst_t, fFld, fMeth, fMake, faNil, fsFld, fLendO, fDisp, fpCons, fpNil, fDict0, fiAny, walkD, fiOver, dKeys, dVals, dPairs, fsOwnD, fsPut, fOwnIx, fPop, fsExt, fDc, compK, gInX, gNotInX, gIxX, fGet]
  exact ⟨wishD q T G, rfl, rfl, rfl, .int q, 1, 4, rfl, rfl, tru_int ⟨by have := w.q1; omega, w.q1, w.q4⟩, tupT T, q, rfl, okD2_T w, by rw [stepsB_yes w]; rfl, tupI G, T.length, rfl, okD_tupI (by omega), by rw [ascB_yes w.gr w.gs]; rfl, w.g0, z⟩
theorem ix_T {T : List (List Int)} {s : Int} (hs : St T s) : gIx (tupT T) (.int s) = some (tupI (T.getD s.toNat [])) := by
  obtain ⟨i, rfl⟩ := Int.eq_ofNat_of_zero_le hs.1
  have hi : i < T.length := by have := hs.2; omega
  refine gIx_tup ?_
  rw [List.getElem?_map, List.getElem?_eq_getElem hi]
  simp [List.getD, hi]
theorem ix_row {row : List Int} {d : Int} (hd : 0 ≤ d ∧ d < row.length) : gIx (tupI row) (.int d) = some (.int (row.getD d.toNat 0)) := by
  obtain ⟨i, rfl⟩ := Int.eq_ofNat_of_zero_le hd.1
  have hi : i < row.length := by omega
  refine gIx_tup ?_
  rw [List.getElem?_map, List.getElem?_eq_getElem hi]
  simp [List.getD, hi]
theorem _root_.GM.WOK.ixd {q : Int} {T : List (List Int)} {G : List Int} (w : WOK q T G) {s d : Int} (hs : St T s) (hd : Dd q d) : gIx (tupI (T.getD s.toNat [])) (.int d) = some (.int (stp T s d)) := by
  obtain ⟨i, hi, _, e, hl, _⟩ := w.at hs
  rw [e]
  have := ix_row (row := T[i]) (d := d) ⟨hd.1, by have := hd.2; omega⟩
  rw [this]
  unfold stp
  rw [e]
def b_state_behind_1 : FS := fsAsg (fOp gIx (fOp gIx (fVar 0) (fVar 1)) (fVar 3)) (fgN 1)
def w_state_behind : FS := fsSeq (fsFor (fiSeq (fVar 2)) (fgN 3) (b_state_behind_1))
  (fsRet (fVar 1))
def W_state_behind : FE := fun ρ k => ∃ (q : Int) (T : List (List Int)) (G : List Int) (s : Int) (r : List Int), ρ.sl = [.d (tupT T), .d (.int s), .d (tupI r)] ∧ (WOK q T G ∧ St T s ∧ (∀ d ∈ r, Dd q d)) ∧ k (.int (walkT T s r)) ρ
theorem mW_state_behind (ρ : Rho) (k k' : KD) (hM : ∀ d ρ', k d ρ' → k' d ρ') (q : W_state_behind ρ k) : W_state_behind ρ k' := by
  obtain ⟨q, T, G, s, r, e1, e2, e3⟩ := q
  exact ⟨q, T, G, s, r, e1, e2, hM _ _ e3⟩
theorem ok_state_behind : ∀ ρ k, W_state_behind ρ k → fBody 4 w_state_behind ρ k := by
  rintro ⟨sl, n⟩ k ⟨q, T, G, s, r, e, ⟨w, h2, h3⟩, z⟩
  simp only at e
  subst e
  simp [w_state_behind]
  simp [and_assoc, Rho.set, dropOwn, ftLend, fLend, lendR, frz, ow, nList, -forall_exists_index, fBody, fsSeq, fsIf, fsRet, fsNext, fsDrop, fsAsg, fsNever, fsFor, fsOwn, fsPar2, fsPar3, fsPar_od, fsPar_do, fsPar_oo, fVar, fC, fUn, fOp, fChain, fTup, fLst, fCall, faD, faSt, flCons, flNil, fSl, foSome, foNone, fAnd, fOr, fNot, fIf, fOfN, fn1, fnLst, fnCat, fgN, fgTup, fgCons, fgNil, fiSeq, fiRange1, fiRange2, fiEnumA, fiZip, ftOr, ftAnd, ftNot, ftB, ftT, ftYes, truD_b, truD_i, truD_l, truD_t, truD_n, gIx_t0, gIx_t1, gIx_t2, gSl_t, gSl_l, gIsT, notDict, isT, isN, tyName, gLen_t, gLen_l, gTuple_l, gCmp, gAdd_ii, gAdd_ll, PD.gSub, gNeg, gMod, seqD, forD, wipeR, gEqA, gNeA, gEq_ii, gNe_ii, gEq_tt, gIn_ints, gIn_intsL, gNotIn_ints, gNotIn_intsL, fM0, fM1, fJoined, fJ, flStar, starD, fCall0, gIsTX, noInst_n, noInst_b, noInst_i, noInst_s, noInst_l, noInst_t, fFld, fMeth, fMake, faNil, fsFld, fLendO, fDisp, fpCons, fpNil, fDict0, fiAny, walkD, fiOver, dKeys, dVals, dPairs, fsOwnD, fsPut, fOwnIx, fPop, fsExt, fDc, compK, gInX, gNotInX, gIxX, fGet]
  have go : ∀ (r' : List Int) (s : Int) (x : Sl) (P : Post), St T s → (∀ d ∈ r', Dd q d) → (∀ x, P.nx ⟨[.d (tupT T), .d (.int (walkT T s r')), .d (tupI r), x], n⟩) →
      forD (fgN 3) b_state_behind_1 (r'.map .int) ⟨[.d (tupT T), .d (.int s), .d (tupI r), x], n⟩ P := by
    intro r'
    induction r' with
    | nil => intro s x P _ _ h; exact h x
    | cons d ds ih =>
      intro s x P hs hd h
      have hd0 := hd d List.mem_cons_self
      rw [List.map_cons]
      unfold forD
      simp [b_state_behind_1]
      simp [and_assoc, Rho.set, dropOwn, ftLend, fLend, lendR, frz, ow, nList, -forall_exists_index, fBody, fsSeq, fsIf, fsRet, fsNext, fsDrop, fsAsg, fsNever, fsFor, fsOwn, fsPar2, fsPar3, fsPar_od, fsPar_do, fsPar_oo, fVar, fC, fUn, fOp, fChain, fTup, fLst, fCall, faD, faSt, flCons, flNil, fSl, foSome, foNone, fAnd, fOr, fNot, fIf, fOfN, fn1, fnLst, fnCat, fgN, fgTup, fgCons, fgNil, fiSeq, fiRange1, fiRange2, fiEnumA, fiZip, ftOr, ftAnd, ftNot, ftB, ftT, ftYes, truD_b, truD_i, truD_l, truD_t, truD_n, gIx_t0, gIx_t1, gIx_t2, gSl_t, gSl_l, gIsT, notDict, isT, isN, tyName, gLen_t, gLen_l, gTuple_l, gCmp, gAdd_ii, gAdd_ll, PD.gSub, gNeg, gMod, seqD, forD, wipeR, gEqA, gNeA, gEq_ii, gNe_ii, gEq_tt, gIn_ints, gIn_intsL, gNotIn_ints, gNotIn_intsL, fM0, fM1, fJoined, fJ, flStar, starD, fCall0, gIsTX, noInst_n, noInst_b, noInst_i, noInst_s, noInst_l, noInst_t, fFld, fMeth, fMake, faNil, fsFld, fLendO, fDisp, fpCons, fpNil, fDict0, fiAny, walkD, fiOver, dKeys, dVals, dPairs, fsOwnD, fsPut, fOwnIx, fPop, fsExt, fDc, compK, gInX, gNotInX, gIxX, fGet]
      exact ⟨_, ix_T hs, _, w.ixd hs hd0, ih _ _ P (w.stp hs hd0) (fun x hx => hd x (List.mem_cons_of_mem _ hx)) h⟩
  exact go r s .no _ h2 h3 fun x => ⟨_, rfl, z⟩
def aheadT (T : List (List Int)) (S : List Int) : List Int := (T.zipIdx.filter fun p => decide ((p.2 : Int) ∈ S) || p.1.any fun b => decide (b ∈ S)).map fun p => (p.2 : Int)
theorem enum_tups (T : List (List Int)) : (T.map tupI).zipIdx.map (fun p => PyData.tuple [.int (p.2 : Nat), p.1]) = T.zipIdx.map fun p => PyData.tuple [.int (p.2 : Nat), tupI p.1] := by
  rw [List.zipIdx_map, List.map_map]
  rfl
def w_with_those_ahead : FS := fsRet (fUn gTuple (fOfN (fnComp (fiEnumA (flCons (fVar 0) (flNil))) (fgTup 2 (fgCons (fgN 2) (fgCons (fgN 3) (fgNil)))) (ftOr (ftB (fOp gIn (fVar 2) (fVar 1))) (ftT (fUn gAny (fOfN (fnComp (fiSeq (fVar 3)) (fgN 4) (ftYes) (fOp gIn (fVar 4) (fVar 1)) [4]))))) (fVar 2) [2, 3])))
def W_with_those_ahead : FE := fun ρ k => ∃ (T : List (List Int)) (S : List Int), ρ.sl = [.d (tupT T), .d (tupI S)] ∧ (T.length ≤ 6 ∧ (∀ r ∈ T, r.length ≤ 4)) ∧ k (tupI (aheadT T S)) ρ
theorem mW_with_those_ahead (ρ : Rho) (k k' : KD) (hM : ∀ d ρ', k d ρ' → k' d ρ') (q : W_with_those_ahead ρ k) : W_with_those_ahead ρ k' := by
  obtain ⟨T, S, e1, e2, e3⟩ := q
  exact ⟨T, S, e1, e2, hM _ _ e3⟩
theorem ok_with_those_ahead : ∀ ρ k, W_with_those_ahead ρ k → fBody 5 w_with_those_ahead ρ k := by
  rintro ⟨sl, n⟩ k ⟨T, S, e, ⟨h1, h2⟩, z⟩
  simp only at e
  subst e
  simp [w_with_those_ahead]
  simp [and_assoc, Rho.set, dropOwn, ftLend, fLend, lendR, frz, ow, nList, -forall_exists_index, fBody, fsSeq, fsIf, fsRet, fsNext, fsDrop, fsAsg, fsNever, fsFor, fsOwn, fsPar2, fsPar3, fsPar_od, fsPar_do, fsPar_oo, fVar, fC, fUn, fOp, fChain, fTup, fLst, fCall, faD, faSt, flCons, flNil, fSl, foSome, foNone, fAnd, fOr, fNot, fIf, fOfN, fn1, fnLst, fnCat, fgN, fgTup, fgCons, fgNil, fiSeq, fiRange1, fiRange2, fiEnumA, fiZip, ftOr, ftAnd, ftNot, ftB, ftT, ftYes, truD_b, truD_i, truD_l, truD_t, truD_n, gIx_t0, gIx_t1, gIx_t2, gSl_t, gSl_l, gIsT, notDict, isT, isN, tyName, gLen_t, gLen_l, gTuple_l, gCmp, gAdd_ii, gAdd_ll, PD.gSub, gNeg, gMod, seqD, forD, wipeR, gEqA, gNeA, gEq_ii, gNe_ii, gEq_tt, gIn_ints, gIn_intsL, gNotIn_ints, gNotIn_intsL, fM0, fM1, fJoined, fJ, flStar, starD, fCall0, gIsTX, noInst_n, noInst_b, noInst_i, noInst_s, noInst_l, noInst_t, fFld, fMeth, fMake, faNil, fsFld, fLendO, fDisp, fpCons, fpNil, fDict0, fiAny, walkD, fiOver, dKeys, dVals, dPairs, fsOwnD, fsPut, fOwnIx, fPop, fsExt, fDc, compK, gInX, gNotInX, gIxX, fGet]
  refine fnComp_i ?_
  simp [and_assoc, Rho.set, dropOwn, ftLend, fLend, lendR, frz, ow, nList, -forall_exists_index, fBody, fsSeq, fsIf, fsRet, fsNext, fsDrop, fsAsg, fsNever, fsFor, fsOwn, fsPar2, fsPar3, fsPar_od, fsPar_do, fsPar_oo, fVar, fC, fUn, fOp, fChain, fTup, fLst, fCall, faD, faSt, flCons, flNil, fSl, foSome, foNone, fAnd, fOr, fNot, fIf, fOfN, fn1, fnLst, fnCat, fgN, fgTup, fgCons, fgNil, fiSeq, fiRange1, fiRange2, fiEnumA, fiZip, ftOr, ftAnd, ftNot, ftB, ftT, ftYes, truD_b, truD_i, truD_l, truD_t, truD_n, gIx_t0, gIx_t1, gIx_t2, gSl_t, gSl_l, gIsT, notDict, isT, isN, tyName, gLen_t, gLen_l, gTuple_l, gCmp, gAdd_ii, gAdd_ll, PD.gSub, gNeg, gMod, seqD, forD, wipeR, gEqA, gNeA, gEq_ii, gNe_ii, gEq_tt, gIn_ints, gIn_intsL, gNotIn_ints, gNotIn_intsL, fM0, fM1, fJoined, fJ, flStar, starD, fCall0, gIsTX, noInst_n, noInst_b, noInst_i, noInst_s, noInst_l, noInst_t, fFld, fMeth, fMake, faNil, fsFld, fLendO, fDisp, fpCons, fpNil, fDict0, fiAny, walkD, fiOver, dKeys, dVals, dPairs, fsOwnD, fsPut, fOwnIx, fPop, fsExt, fDc, compK, gInX, gNotInX, gIxX, fGet]
  refine ⟨T.zipIdx.map fun p => PyData.tuple [.int (p.2 : Nat), tupI p.1], congrArg some (enum_tups T), by simp; omega, comp_on (fun p => PyData.tuple [.int (p.2 : Nat), tupI p.1]) (fun p => decide ((p.2 : Int) ∈ S) || p.1.any fun b => decide (b ∈ S)) (fun p => .int (p.2 : Int)) T.zipIdx [] (fun p hp kt kf c1 c2 => ?_) ?_⟩
  · simp [and_assoc, Rho.set, dropOwn, ftLend, fLend, lendR, frz, ow, nList, -forall_exists_index, fBody, fsSeq, fsIf, fsRet, fsNext, fsDrop, fsAsg, fsNever, fsFor, fsOwn, fsPar2, fsPar3, fsPar_od, fsPar_do, fsPar_oo, fVar, fC, fUn, fOp, fChain, fTup, fLst, fCall, faD, faSt, flCons, flNil, fSl, foSome, foNone, fAnd, fOr, fNot, fIf, fOfN, fn1, fnLst, fnCat, fgN, fgTup, fgCons, fgNil, fiSeq, fiRange1, fiRange2, fiEnumA, fiZip, ftOr, ftAnd, ftNot, ftB, ftT, ftYes, truD_b, truD_i, truD_l, truD_t, truD_n, gIx_t0, gIx_t1, gIx_t2, gSl_t, gSl_l, gIsT, notDict, isT, isN, tyName, gLen_t, gLen_l, gTuple_l, gCmp, gAdd_ii, gAdd_ll, PD.gSub, gNeg, gMod, seqD, forD, wipeR, gEqA, gNeA, gEq_ii, gNe_ii, gEq_tt, gIn_ints, gIn_intsL, gNotIn_ints, gNotIn_intsL, fM0, fM1, fJoined, fJ, flStar, starD, fCall0, gIsTX, noInst_n, noInst_b, noInst_i, noInst_s, noInst_l, noInst_t, fFld, fMeth, fMake, faNil, fsFld, fLendO, fDisp, fpCons, fpNil, fDict0, fiAny, walkD, fiOver, dKeys, dVals, dPairs, fsOwnD, fsPut, fOwnIx, fPop, fsExt, fDc, compK, gInX, gNotInX, gIxX, fGet]
    by_cases hs : (p.2 : Int) ∈ S
    · exact .inr ⟨hs, c1 (by simp [hs]) _ rfl⟩
    · have hl := h2 p.1 (List.fst_mem_of_mem_zipIdx hp)
      refine .inl ⟨hs, ?_⟩
      refine fnComp_i ?_
      simp [and_assoc, Rho.set, dropOwn, ftLend, fLend, lendR, frz, ow, nList, -forall_exists_index, fBody, fsSeq, fsIf, fsRet, fsNext, fsDrop, fsAsg, fsNever, fsFor, fsOwn, fsPar2, fsPar3, fsPar_od, fsPar_do, fsPar_oo, fVar, fC, fUn, fOp, fChain, fTup, fLst, fCall, faD, faSt, flCons, flNil, fSl, foSome, foNone, fAnd, fOr, fNot, fIf, fOfN, fn1, fnLst, fnCat, fgN, fgTup, fgCons, fgNil, fiSeq, fiRange1, fiRange2, fiEnumA, fiZip, ftOr, ftAnd, ftNot, ftB, ftT, ftYes, truD_b, truD_i, truD_l, truD_t, truD_n, gIx_t0, gIx_t1, gIx_t2, gSl_t, gSl_l, gIsT, notDict, isT, isN, tyName, gLen_t, gLen_l, gTuple_l, gCmp, gAdd_ii, gAdd_ll, PD.gSub, gNeg, gMod, seqD, forD, wipeR, gEqA, gNeA, gEq_ii, gNe_ii, gEq_tt, gIn_ints, gIn_intsL, gNotIn_ints, gNotIn_intsL, fM0, fM1, fJoined, fJ, flStar, starD, fCall0, gIsTX, noInst_n, noInst_b, noInst_i, noInst_s, noInst_l, noInst_t, fFld, fMeth, fMake, faNil, fsFld, fLendO, fDisp, fpCons, fpNil, fDict0, fiAny, walkD, fiOver, dKeys, dVals, dPairs, fsOwnD, fsPut, fOwnIx, fPop, fsExt, fDc, compK, gInX, gNotInX, gIxX, fGet]
      refine ⟨by omega, comp_all PyData.int (fun b => .bool (decide (b ∈ S))) p.1 (fun b hb kt' h => by simp [and_assoc, Rho.set, dropOwn, ftLend, fLend, lendR, frz, ow, nList, -forall_exists_index, fBody, fsSeq, fsIf, fsRet, fsNext, fsDrop, fsAsg, fsNever, fsFor, fsOwn, fsPar2, fsPar3, fsPar_od, fsPar_do, fsPar_oo, fVar, fC, fUn, fOp, fChain, fTup, fLst, fCall, faD, faSt, flCons, flNil, fSl, foSome, foNone, fAnd, fOr, fNot, fIf, fOfN, fn1, fnLst, fnCat, fgN, fgTup, fgCons, fgNil, fiSeq, fiRange1, fiRange2, fiEnumA, fiZip, ftOr, ftAnd, ftNot, ftB, ftT, ftYes, truD_b, truD_i, truD_l, truD_t, truD_n, gIx_t0, gIx_t1, gIx_t2, gSl_t, gSl_l, gIsT, notDict, isT, isN, tyName, gLen_t, gLen_l, gTuple_l, gCmp, gAdd_ii, gAdd_ll, PD.gSub, gNeg, gMod, seqD, forD, wipeR, gEqA, gNeA, gEq_ii, gNe_ii, gEq_tt, gIn_ints, gIn_intsL, gNotIn_ints, gNotIn_intsL, fM0, fM1, fJoined, fJ, flStar, starD, fCall0, gIsTX, noInst_n, noInst_b, noInst_i, noInst_s, noInst_l, noInst_t, fFld, fMeth, fMake, faNil, fsFld, fLendO, fDisp, fpCons, fpNil, fDict0, fiAny, walkD, fiOver, dKeys, dVals, dPairs, fsOwnD, fsPut, fOwnIx, fPop, fsExt, fDc, compK, gInX, gNotInX, gIxX, fGet]; exact h _ rfl) ⟨.bool (p.1.any fun b => decide (b ∈ S)), ?_, ?_⟩⟩
      · rw [show p.1.map (fun b => PyData.bool (decide (b ∈ S))) = (p.1.map fun b => decide (b ∈ S)).map .bool by rw [List.map_map]; rfl, gAny_bs, List.any_map]
        rfl
      · cases e : p.1.any fun b => decide (b ∈ S) with
        | false => exact .inl ⟨rfl, c2 (by simp only [hs, e]; rfl) _ rfl⟩
        | true => exact .inr ⟨rfl, c1 (by rw [e, Bool.or_true]) _ rfl⟩
  · rw [List.nil_append, show (T.zipIdx.filter fun p => decide ((p.2 : Int) ∈ S) || p.1.any fun b => decide (b ∈ S)).map (fun p => PyData.int (p.2 : Int)) = (aheadT T S).map .int by unfold aheadT; rw [List.map_map]; rfl]
    exact z
theorem sub_len : ∀ {S S' : List Int}, S.Pairwise (· < ·) → S'.Pairwise (· < ·) → (∀ x ∈ S, x ∈ S') → S ≠ S' → S.length < S'.length
  | [], [], _, _, _, n => absurd rfl n
  | [], y :: ys, _, _, _, _ => by simp
  | x :: xs, [], _, _, h, _ => absurd (h x List.mem_cons_self) List.not_mem_nil
  | x :: xs, y :: ys, hs, hs', h, n => by
    have h1 := List.pairwise_cons.mp hs
    have h2 := List.pairwise_cons.mp hs'
    by_cases e : x = y
    · subst e
      have := sub_len h1.2 h2.2 (fun z hz => by
        rcases List.mem_cons.mp (h z (List.mem_cons_of_mem _ hz)) with q | q
        · have := h1.1 z hz
          omega
        · exact q) fun q => n (by rw [q])
      simpa using this
    · have hx : x ∈ ys := by
        rcases List.mem_cons.mp (h x List.mem_cons_self) with q | q
        · exact absurd q e
        · exact q
      have xy := h2.1 x hx
      have sub : ∀ z ∈ x :: xs, z ∈ ys := fun z hz => by
        rcases List.mem_cons.mp (h z hz) with q | q
        · rcases List.mem_cons.mp hz with u | u
          · omega
          · have := h1.1 z u
            omega
        · exact q
      by_cases q : x :: xs = ys
      · rw [q]; simp
      · have := sub_len hs h2.2 sub q
        simp at this ⊢
        omega
theorem mem_ahead {T : List (List Int)} {S : List Int} {x : Int} : x ∈ aheadT T S ↔ ∃ (i : Nat) (h : i < T.length), x = i ∧ ((i : Int) ∈ S ∨ ∃ b ∈ T[i], b ∈ S) := by
  unfold aheadT
  rw [List.mem_map]
  constructor
  · rintro ⟨⟨r, i⟩, hp, rfl⟩
    obtain ⟨h1, h2⟩ := List.mem_filter.mp hp
    obtain ⟨hi, e⟩ := List.mem_zipIdx' h1
    refine ⟨i, hi, rfl, ?_⟩
    simp only [Bool.or_eq_true, decide_eq_true_eq, List.any_eq_true] at h2
    rw [← e]
    exact h2
  · rintro ⟨i, hi, rfl, h⟩
    refine ⟨(T[i], i), List.mem_filter.mpr ⟨?_, ?_⟩, rfl⟩
    · exact List.mem_zipIdx_iff_getElem?.mpr (by simp [hi])
    · simp only [Bool.or_eq_true, decide_eq_true_eq, List.any_eq_true]
      exact h
theorem asc_aheadT (T : List (List Int)) (S : List Int) : (aheadT T S).Pairwise (· < ·) := by
  unfold aheadT
  refine List.Pairwise.map (R := fun (a b : List Int × Nat) => a.2 < b.2) (fun p : List Int × Nat => (p.2 : Int)) (fun a b h => by omega) (List.Pairwise.filter _ ?_)
  have : (T.zipIdx.map (·.2)).Pairwise (· < ·) := by
    rw [List.zipIdx_map_snd]
    exact List.pairwise_lt_range'
  exact List.pairwise_map.mp this
def w_live_states : FS := fsSeq (fsAsg (fSl gSl (fCall 1 W_need_wish (faD (flCons (fVar 0) (flNil)))) (foSome (fC (.int 1))) (foNone)) (fgTup 2 (fgCons (fgN 1) (fgCons (fgN 2) (fgNil)))))
  (fsSeq (fsAsg (fVar 2) (fgN 3))
  (whD (ftT (fC (.bool true))) (fsSeq (fsAsg (fCall 2 W_with_those_ahead (faD (flCons (fVar 1) (flCons (fVar 3) (flNil))))) (fgN 4))
  (fsSeq (fsIf (ftB (fOp gEqA (fVar 4) (fVar 3))) (fsRet (fVar 4)) (fsNext))
  (fsAsg (fVar 4) (fgN 3))))))
def W_live_states : FE := fun ρ k => ∃ q T G, ρ.sl = [.d (wishD q T G)] ∧ WOK q T G ∧ ∀ S, IsLive T G S → k (tupI S) ρ
theorem mW_live_states (ρ : Rho) (k k' : KD) (h : ∀ d ρ', k d ρ' → k' d ρ') (q : W_live_states ρ k) : W_live_states ρ k' := by
  obtain ⟨q, T, G, e, h1, z⟩ := q
  exact ⟨q, T, G, e, h1, fun S hS => h _ _ (z S hS)⟩
theorem ok_live_states : ∀ ρ k, W_live_states ρ k → fBody 5 w_live_states ρ k := by
  rintro ⟨sl, n⟩ k ⟨q, T, G, e, h1, z⟩
  simp only at e
  subst e
  simp [w_live_states]
  simp [and_assoc, Rho.set, dropOwn, ftLend, fLend, lendR, frz, ow, nList, -forall_exists_index, fBody, fsSeq, fsIf, fsRet, fsNext, fsDrop, fsAsg, fsNever, fsFor, fsOwn, fsPar2, fsPar3, fsPar_od, fsPar_do, fsPar_oo, fVar, fC, fUn, fOp, fChain, fTup, fLst, fCall, faD, faSt, flCons, flNil, fSl, foSome, foNone, fAnd, fOr, fNot, fIf, fOfN, fn1, fnLst, fnCat, fgN, fgTup, fgCons, fgNil, fiSeq, fiRange1, fiRange2, fiEnumA, fiZip, ftOr, ftAnd, ftNot, ftB, ftT, ftYes, truD_b, truD_i, truD_l, truD_t, truD_n, gIx_t0, gIx_t1, gIx_t2, gSl_t, gSl_l, gIsT, notDict, isT, isN, tyName, gLen_t, gLen_l, gTuple_l, gCmp, gAdd_ii, gAdd_ll, PD.gSub, gNeg, gMod, seqD, forD, wipeR, gEqA, gNeA, gEq_ii, gNe_ii, gEq_tt, gIn_ints, gIn_intsL, gNotIn_ints, gNotIn_intsL, fM0, fM1, fJoined, fJ, flStar, starD, fCall0, gIsTX, noInst_n, noInst_b, noInst_i, noInst_s, noInst_l, noInst_t, fFld, fMeth, fMake, faNil, fsFld, fLendO, fDisp, fpCons, fpNil, fDict0, fiAny, walkD, fiOver, dKeys, dVals, dPairs, fsOwnD, fsPut, fOwnIx, fPop, fsExt, fDc, compK, gInX, gNotInX, gIxX, fGet]
  refine ⟨q, T, G, rfl, h1, _, rfl, _, rfl, by rfl, tupT T, _, rfl, tupI G, _, rfl, rfl, ?_⟩
  refine ⟨fun m ρ => ∃ S x, ρ = ⟨[.d (wishD q T G), .d (tupT T), .d (tupI G), .d (tupI S), x], n⟩ ∧ S.Pairwise (· < ·) ∧ (∀ x ∈ S, 0 ≤ x ∧ x ≤ (T.length : Int) - 1) ∧ (∀ x ∈ G, x ∈ S) ∧
    (∀ A : Int → Prop, (∀ x ∈ G, A x) → (∀ (i : Nat) (h : i < T.length), (∃ b ∈ T[i], A b) → A i) → ∀ x ∈ S, A x) ∧ m = T.length - S.length, ⟨_, G, .no, rfl, h1.gs, h1.gr, fun _ h => h, fun A hA _ => hA, rfl⟩, ?_⟩
  rintro m ρ ⟨S, x, rfl, asc, rng, sup, min, rfl⟩
  simp [and_assoc, Rho.set, dropOwn, ftLend, fLend, lendR, frz, ow, nList, -forall_exists_index, fBody, fsSeq, fsIf, fsRet, fsNext, fsDrop, fsAsg, fsNever, fsFor, fsOwn, fsPar2, fsPar3, fsPar_od, fsPar_do, fsPar_oo, fVar, fC, fUn, fOp, fChain, fTup, fLst, fCall, faD, faSt, flCons, flNil, fSl, foSome, foNone, fAnd, fOr, fNot, fIf, fOfN, fn1, fnLst, fnCat, fgN, fgTup, fgCons, fgNil, fiSeq, fiRange1, fiRange2, fiEnumA, fiZip, ftOr, ftAnd, ftNot, ftB, ftT, ftYes, truD_b, truD_i, truD_l, truD_t, truD_n, gIx_t0, gIx_t1, gIx_t2, gSl_t, gSl_l, gIsT, notDict, isT, isN, tyName, gLen_t, gLen_l, gTuple_l, gCmp, gAdd_ii, gAdd_ll, PD.gSub, gNeg, gMod, seqD, forD, wipeR, gEqA, gNeA, gEq_ii, gNe_ii, gEq_tt, gIn_ints, gIn_intsL, gNotIn_ints, gNotIn_intsL, fM0, fM1, fJoined, fJ, flStar, starD, fCall0, gIsTX, noInst_n, noInst_b, noInst_i, noInst_s, noInst_l, noInst_t, fFld, fMeth, fMake, faNil, fsFld, fLendO, fDisp, fpCons, fpNil, fDict0, fiAny, walkD, fiOver, dKeys, dVals, dPairs, fsOwnD, fsPut, fOwnIx, fPop, fsExt, fDc, compK, gInX, gNotInX, gIxX, fGet]
  refine ⟨T, S, rfl, ⟨h1.t6, fun r hr => by have := (h1.row r hr).1; have := h1.q4; omega⟩, ?_⟩
  have sub : ∀ x ∈ S, x ∈ aheadT T S := fun x hx => by
    have h := rng x hx
    obtain ⟨i, rfl⟩ := Int.eq_ofNat_of_zero_le h.1
    exact mem_ahead.mpr ⟨i, by omega, rfl, .inl hx⟩
  have rng' : ∀ x ∈ aheadT T S, 0 ≤ x ∧ x ≤ (T.length : Int) - 1 := fun x hx => by
    obtain ⟨i, hi, rfl, _⟩ := mem_ahead.mp hx
    omega
  simp [and_assoc, Rho.set, dropOwn, ftLend, fLend, lendR, frz, ow, nList, -forall_exists_index, fBody, fsSeq, fsIf, fsRet, fsNext, fsDrop, fsAsg, fsNever, fsFor, fsOwn, fsPar2, fsPar3, fsPar_od, fsPar_do, fsPar_oo, fVar, fC, fUn, fOp, fChain, fTup, fLst, fCall, faD, faSt, flCons, flNil, fSl, foSome, foNone, fAnd, fOr, fNot, fIf, fOfN, fn1, fnLst, fnCat, fgN, fgTup, fgCons, fgNil, fiSeq, fiRange1, fiRange2, fiEnumA, fiZip, ftOr, ftAnd, ftNot, ftB, ftT, ftYes, truD_b, truD_i, truD_l, truD_t, truD_n, gIx_t0, gIx_t1, gIx_t2, gSl_t, gSl_l, gIsT, notDict, isT, isN, tyName, gLen_t, gLen_l, gTuple_l, gCmp, gAdd_ii, gAdd_ll, PD.gSub, gNeg, gMod, seqD, forD, wipeR, gEqA, gNeA, gEq_ii, gNe_ii, gEq_tt, gIn_ints, gIn_intsL, gNotIn_ints, gNotIn_intsL, fM0, fM1, fJoined, fJ, flStar, starD, fCall0, gIsTX, noInst_n, noInst_b, noInst_i, noInst_s, noInst_l, noInst_t, fFld, fMeth, fMake, faNil, fsFld, fLendO, fDisp, fpCons, fpNil, fDict0, fiAny, walkD, fiOver, dKeys, dVals, dPairs, fsOwnD, fsPut, fOwnIx, fPop, fsExt, fDc, compK, gInX, gNotInX, gIxX, fGet]
  by_cases e : aheadT T S = S
  · refine .inr ⟨e, ?_⟩
    rw [e]
    exact z S ⟨asc, rng, sup, fun i hi h => by rw [← e]; exact mem_ahead.mpr ⟨i, hi, rfl, .inr h⟩, min⟩
  · refine .inl ⟨e, ?_⟩
    have hlt := sub_len asc (asc_aheadT T S) sub fun z => e z.symm
    have hle := asc_len (asc_aheadT T S) rng'
    have ht := h1.t1
    refine ⟨_, ?_, aheadT T S, rfl, asc_aheadT T S, rng', fun x hx => sub x (sup x hx), fun A hA hc x hx => ?_, rfl⟩
    · omega
    · obtain ⟨i, hi, rfl, h | ⟨b, hb, h⟩⟩ := mem_ahead.mp hx
      · exact min A hA hc _ h
      · exact hc i hi ⟨b, hb, min A hA hc b h⟩
def w_need_kind : FS := fsSeq (fsAsg (fOp gIx (fCall 1 W_need_wish (faD (flCons (fVar 0) (flNil)))) (fC (.int 0))) (fgN 2))
  (fsSeq (fsIf (ftNot (ftT (fCall 1 W_is_triple (faD (flCons (fVar 1) (flNil)))))) (fsNever) (fsNext))
  (fsSeq (fsAsg (fVar 1) (fgTup 3 (fgCons (fgN 3) (fgCons (fgN 4) (fgCons (fgN 5) (fgNil))))))
  (fsSeq (fsIf (ftNot (ftT (fCall 3 W_is_integer (faD (flCons (fVar 3) (flCons (fC (.int 0)) (flCons (fC (.int 3)) (flNil)))))))) (fsNever) (fsNext))
  (fsSeq (fsIf (ftNot (ftT (fCall 3 W_is_integer (faD (flCons (fVar 4) (flCons (fC (.int 0)) (flCons (fC (.int 2)) (flNil)))))))) (fsNever) (fsNext))
  (fsSeq (fsIf (ftNot (ftT (fCall 2 W_are_ascending (faD (flCons (fVar 5) (flCons (fVar 2) (flNil))))))) (fsNever) (fsNext))
  (fsRet (fVar 1)))))))
def W_need_kind : FE := fun ρ k => ∃ (q : Int) (T : List (List Int)) (G : List Int) (h a : Int) (lo : List Int), ρ.sl = [.d (wishD q T G), .d (kindD h a lo)] ∧ (WOK q T G ∧ KOK q h a lo) ∧ k (kindD h a lo) ρ
theorem mW_need_kind (ρ : Rho) (k k' : KD) (hM : ∀ d ρ', k d ρ' → k' d ρ') (q : W_need_kind ρ k) : W_need_kind ρ k' := by
  obtain ⟨q, T, G, h, a, lo, e1, e2, e3⟩ := q
  exact ⟨q, T, G, h, a, lo, e1, e2, hM _ _ e3⟩
theorem ok_need_kind : ∀ ρ k, W_need_kind ρ k → fBody 6 w_need_kind ρ k := by
  rintro ⟨sl, n⟩ k ⟨q, T, G, h, a, lo, e, ⟨w, kk⟩, z⟩
  simp only at e
  subst e
  have l4 := kk.llen w.q4
  simp [w_need_kind]
  simp [and_assoc, Rho.set, dropOwn, ftLend, fLend, lendR, frz, ow, nList, -forall_exists_index, fBody, fsSeq, fsIf, fsRet, fsNext, fsDrop, fsAsg, fsNever, fsFor, fsOwn, fsPar2, fsPar3, fsPar_od, fsPar_do, fsPar_oo, fVar, fC, fUn, fOp, fChain, fTup, fLst, fCall, faD, faSt, flCons, flNil, fSl, foSome, foNone, fAnd, fOr, fNot, fIf, fOfN, fn1, fnLst, fnCat, fgN, fgTup, fgCons, fgNil, fiSeq, fiRange1, fiRange2, fiEnumA, fiZip, ftOr, ftAnd, ftNot, ftB, ftT, ftYes, truD_b, truD_i, truD_l, truD_t, truD_n, gIx_t0, gIx_t1, gIx_t2, gSl_t, gSl_l, gIsT, notDict, isT, isN, tyName, gLen_t, gLen_l, gTuple_l, gCmp, gAdd_ii, gAdd_ll, PD.gSub, gNeg, gMod, seqD, forD, wipeR, gEqA, gNeA, gEq_ii, gNe_ii, gEq_tt, gIn_ints, gIn_intsL, gNotIn_ints, gNotIn_intsL, fM0, fM1, fJoined, fJ, flStar, starD, fCall0, gIsTX, noInst_n, noInst_b, noInst_i, noInst_s, noInst_l, noInst_t, fFld, fMeth, fMake, faNil, fsFld, fLendO, fDisp, fpCons, fpNil, fDict0, fiAny, walkD, fiOver, dKeys, dVals, dPairs, fsOwnD, fsPut, fOwnIx, fPop, fsExt, fDc, compK, gInX, gNotInX, gIxX, fGet]
  exact ⟨q, T, G, rfl, w, _, rfl, kindD h a lo, rfl, rfl, rfl, .int h, 0, 3, rfl, rfl, tru_int ⟨kk.h0, kk.h0, kk.h3⟩, .int a, 0, 2, rfl, rfl, tru_int ⟨kk.a0, kk.a0, kk.a2⟩, tupI lo, q, rfl, okD_tupI (by omega), by rw [ascB_yes kk.lr kk.ls]; rfl, z⟩
end GP
namespace GP
open PySem L2 PyProof.Rows PySem.Spec PD GM
open Evl (Ex)
end GP
namespace GP
open PySem L2 PyProof.Rows PySem.Spec PD GM
open Evl (Ex)
end GP
namespace PD
open PySem PySem.W PyProof.Rows PySem.SeqAt
end PD
namespace PD
open PySem PySem.W PySem.Calls PyProof.Rows PySem.SeqAt L2
end PD
namespace GA
open PySem L2 PyProof.Rows PySem.Spec PD GM GP
open Evl (Ex)
abbrev W_law_next := W_nextA
abbrev mW_law_next := mW_nextA
def b_law_want_1 : FS := (fun ρ P => (∃ xs : List D, ρ.sl[5]? = some (Sl.own xs)) ∧ fsApp 5 (fUn gTuple (fOfN (fnComp (fiRange1 (flCons (fVar 3) (flNil))) (fgN 7) (ftYes) (fCall 2 W_law_next (faSt 0 (flCons (fVar 4) (flNil)))) [7]))) ρ P)
def w_law_want : FS := fsSeq (fsAsg (fTup (flCons (fOp gAdd (fC (.int 1)) (fCall 2 W_law_next (faSt 0 (flCons (fVar 1) (flNil))))) (flCons (fOp gAdd (fC (.int 1)) (fCall 2 W_law_next (faSt 0 (flCons (fVar 2) (flNil))))) (flNil)))) (fgTup 2 (fgCons (fgN 3) (fgCons (fgN 4) (fgNil)))))
  (fsSeq (fsOwn 5 (fnLst (flNil)))
  (fsSeq (fsFor (fiRange1 (flCons (fVar 4) (flNil))) (fgN 6) (b_law_want_1))
  (fsSeq (fsAsg (fOfN (fnComp (fiRange1 (flCons (fVar 4) (flNil))) (fgN 6) (ftB (fOp gEqA (fCall 2 W_law_next (faSt 0 (flCons (fC (.int 2)) (flNil)))) (fC (.int 1)))) (fVar 6) [6])) (fgN 8))
  ((fun ρ P => (fsRet (fTup (flCons (fVar 3) (flCons (fUn gTuple (fVar 5)) (flCons (fUn gTuple (fOfN (fn1 nSortSet (fOp gAdd (fVar 8) (fLst (flCons (fC (.int 0)) (flNil))))))) (flNil)))))) (frz 5 ρ) P)))))
def W_law_want : FE := fun ρ k => ∃ (A B : Int), ρ.sl = [.st, .d (.int A), .d (.int B)] ∧ (1 ≤ A ∧ A ≤ 4 ∧ 1 ≤ B ∧ B ≤ 6) ∧ ρ.n + 100 ≤ 1000000000000 ∧ ∀ (q : Int) (T : List (List Int)) (G : List Int) (nn : Nat), (WOK q T G ∧ q ≤ A ∧ (T.length : Int) ≤ B) → nn ≤ ρ.n + 100 → k (wishD q T G) ⟨ρ.sl, nn⟩
theorem mW_law_want (ρ : Rho) (k k' : KD) (hM : ∀ d ρ', k d ρ' → k' d ρ') (q : W_law_want ρ k) : W_law_want ρ k' := by
  obtain ⟨A, B, e1, e2, e3, e4⟩ := q
  exact ⟨A, B, e1, e2, e3, fun q T G nn a b => hM _ _ (e4 q T G nn a b)⟩
theorem want_rows (a b : Nat) (ha : a ≤ 4) (hb : b ≤ 6) (hb1 : 1 ≤ b) (s1 s2 s8 : Sl) : ∀ (js : List Nat) (Tc : List (List Int)) (n : Nat) (x6 x7 : Sl) (P : Post), n + js.length * 4 < 1000000000000 → Tc.length ≤ 1000 →
    (∀ r ∈ Tc, r.length = a ∧ ∀ x ∈ r, 0 ≤ x ∧ x < (b : Int)) →
    (∀ (Tf : List (List Int)) (n' : Nat) (x6 x7 : Sl), (∀ r ∈ Tf, r.length = a ∧ ∀ x ∈ r, 0 ≤ x ∧ x < (b : Int)) → Tf.length = Tc.length + js.length → n' ≤ n + js.length * 4 → P.nx ⟨[.st, s1, s2, .d (.int a), .d (.int b), .own (.l (Tf.map tupI)), x6, x7, s8], n'⟩) →
    Tc.length + js.length ≤ 1000 →
    forD (fgN 6) b_law_want_1 (js.map fun i : Nat => PyData.int (i : Int)) ⟨[.st, s1, s2, .d (.int a), .d (.int b), .own (.l (Tc.map tupI)), x6, x7, s8], n⟩ P := by
  intro js
  induction js with
  | nil => intro Tc n x6 x7 P _ _ hT h _; exact h Tc n x6 x7 hT (by simp) (by simp)
  | cons j js ih =>
    intro Tc n x6 x7 P hn hl hT h hk
    rw [List.length_cons, Nat.succ_mul] at hn
    rw [List.length_cons] at hk
    rw [List.map_cons]
    unfold forD
    simp [and_assoc, Rho.set, dropOwn, ftLend, fLend, lendR, frz, ow, nList, -forall_exists_index, fBody, fsSeq, fsIf, fsRet, fsNext, fsDrop, fsAsg, fsNever, fsFor, fsOwn, fsPar2, fsPar_od, fsPar_do, fsPar_oo, fVar, fC, fUn, fOp, fChain, fTup, fLst, fCall, faD, faSt, flCons, flNil, fSl, foSome, foNone, fAnd, fOr, fNot, fIf, fOfN, fn1, fnLst, fnCat, fgN, fgTup, fgCons, fgNil, fiSeq, fiRange1, fiRange2, fiEnumA, fiZip, ftOr, ftAnd, ftNot, ftB, ftT, ftYes, truD_b, truD_i, truD_l, truD_t, truD_n, gIx_t0, gIx_t1, gIx_t2, gSl_t, gSl_l, gIsT, notDict, isT, isN, tyName, gLen_t, gLen_l, gTuple_l, gCmp, gAdd_ii, gAdd_ss, gAdd_tt, gAdd_ll, PD.gSub, gNeg, gMod, seqD, forD, wipeR, gEqA, gNeA, gEq_ii, gNe_ii, gEq_tt, gIn_ints, gIn_intsL, gNotIn_ints, gNotIn_intsL]
    show b_law_want_1 _ _
    unfold b_law_want_1
    refine ⟨⟨_, rfl⟩, fsApp_i ?_⟩
    simp [and_assoc, Rho.set, dropOwn, ftLend, fLend, lendR, frz, ow, nList, -forall_exists_index, fBody, fsSeq, fsIf, fsRet, fsNext, fsDrop, fsAsg, fsNever, fsFor, fsOwn, fsPar2, fsPar_od, fsPar_do, fsPar_oo, fVar, fC, fUn, fOp, fChain, fTup, fLst, fCall, faD, faSt, flCons, flNil, fSl, foSome, foNone, fAnd, fOr, fNot, fIf, fOfN, fn1, fnLst, fnCat, fgN, fgTup, fgCons, fgNil, fiSeq, fiRange1, fiRange2, fiEnumA, fiZip, ftOr, ftAnd, ftNot, ftB, ftT, ftYes, truD_b, truD_i, truD_l, truD_t, truD_n, gIx_t0, gIx_t1, gIx_t2, gSl_t, gSl_l, gIsT, notDict, isT, isN, tyName, gLen_t, gLen_l, gTuple_l, gCmp, gAdd_ii, gAdd_ss, gAdd_tt, gAdd_ll, PD.gSub, gNeg, gMod, seqD, forD, wipeR, gEqA, gNeA, gEq_ii, gNe_ii, gEq_tt, gIn_ints, gIn_intsL, gNotIn_ints, gNotIn_intsL]
    refine fnComp_i ?_
    simp [and_assoc, Rho.set, dropOwn, ftLend, fLend, lendR, frz, ow, nList, -forall_exists_index, fBody, fsSeq, fsIf, fsRet, fsNext, fsDrop, fsAsg, fsNever, fsFor, fsOwn, fsPar2, fsPar_od, fsPar_do, fsPar_oo, fVar, fC, fUn, fOp, fChain, fTup, fLst, fCall, faD, faSt, flCons, flNil, fSl, foSome, foNone, fAnd, fOr, fNot, fIf, fOfN, fn1, fnLst, fnCat, fgN, fgTup, fgCons, fgNil, fiSeq, fiRange1, fiRange2, fiEnumA, fiZip, ftOr, ftAnd, ftNot, ftB, ftT, ftYes, truD_b, truD_i, truD_l, truD_t, truD_n, gIx_t0, gIx_t1, gIx_t2, gSl_t, gSl_l, gIsT, notDict, isT, isN, tyName, gLen_t, gLen_l, gTuple_l, gCmp, gAdd_ii, gAdd_ss, gAdd_tt, gAdd_ll, PD.gSub, gNeg, gMod, seqD, forD, wipeR, gEqA, gNeA, gEq_ii, gNe_ii, gEq_tt, gIn_ints, gIn_intsL, gNotIn_ints, gNotIn_intsL]
    rw [rangeD_nat]
    refine ⟨by omega, by rw [List.length_map, List.length_range]; omega, comp_draw (fun i : Nat => PyData.int (i : Int)) b (n + 4) _ (List.range a) [] n (by rw [List.length_range]; omega) (fun i hi n' hn' kt hk => ?_) fun rs hl hr => ?_⟩
    · simp [and_assoc, Rho.set, dropOwn, ftLend, fLend, lendR, frz, ow, fsApp, nList, -forall_exists_index, fBody, fsSeq, fsIf, fsRet, fsNext, fsDrop, fsAsg, fsNever, fsFor, fsOwn, fsPar2, fsPar_od, fsPar_do, fsPar_oo, fVar, fC, fUn, fOp, fChain, fTup, fLst, fCall, faD, faSt, flCons, flNil, fSl, foSome, foNone, fAnd, fOr, fNot, fIf, fOfN, fn1, fnLst, fnCat, fgN, fgTup, fgCons, fgNil, fiSeq, fiRange1, fiRange2, fiEnumA, fiZip, ftOr, ftAnd, ftNot, ftB, ftT, ftYes, truD_b, truD_i, truD_l, truD_t, truD_n, gIx_t0, gIx_t1, gIx_t2, gSl_t, gSl_l, gIsT, notDict, isT, isN, tyName, gLen_t, gLen_l, gTuple_l, gCmp, gAdd_ii, gAdd_ss, gAdd_tt, gAdd_ll, PD.gSub, gNeg, gMod, seqD, forD, wipeR, gEqA, gNeA, gEq_ii, gNe_ii, gEq_tt, gIn_ints, gIn_intsL, gNotIn_ints, gNotIn_intsL]
      refine ⟨b, rfl, by omega, by omega, by simp; omega, fun r h0 h1 => ?_⟩
      exact hk r h0 h1 _ rfl
    · rw [List.length_range] at hl
      rw [List.nil_append, List.length_range]
      simp [and_assoc, Rho.set, dropOwn, ftLend, fLend, lendR, frz, ow, nList, -forall_exists_index, fBody, fsSeq, fsIf, fsRet, fsNext, fsDrop, fsAsg, fsNever, fsFor, fsOwn, fsPar2, fsPar_od, fsPar_do, fsPar_oo, fVar, fC, fUn, fOp, fChain, fTup, fLst, fCall, faD, faSt, flCons, flNil, fSl, foSome, foNone, fAnd, fOr, fNot, fIf, fOfN, fn1, fnLst, fnCat, fgN, fgTup, fgCons, fgNil, fiSeq, fiRange1, fiRange2, fiEnumA, fiZip, ftOr, ftAnd, ftNot, ftB, ftT, ftYes, truD_b, truD_i, truD_l, truD_t, truD_n, gIx_t0, gIx_t1, gIx_t2, gSl_t, gSl_l, gIsT, notDict, isT, isN, tyName, gLen_t, gLen_l, gTuple_l, gCmp, gAdd_ii, gAdd_ss, gAdd_tt, gAdd_ll, PD.gSub, gNeg, gMod, seqD, forD, wipeR, gEqA, gNeA, gEq_ii, gNe_ii, gEq_tt, gIn_ints, gIn_intsL, gNotIn_ints, gNotIn_intsL]
      refine ⟨by omega, ?_⟩
      have := ih (Tc ++ [rs]) (n + a) (.d (.int j)) x7 P (by omega) (by rw [List.length_append, List.length_singleton]; omega) (fun r hr' => ?_) (fun Tf n' x6 x7 g1 g2 g3 => h Tf n' x6 x7 g1 (by rw [g2, List.length_append, List.length_singleton, List.length_cons]; omega) (by rw [List.length_cons, Nat.succ_mul]; omega)) (by rw [List.length_append, List.length_singleton]; omega)
      · rw [List.map_append] at this
        exact this
      · rcases List.mem_append.mp hr' with u | u
        · exact hT r u
        · rw [List.mem_singleton] at u
          subst u
          exact ⟨hl, hr⟩
theorem ok_law_want : ∀ ρ k, W_law_want ρ k → fBody 9 w_law_want ρ k := by
  rintro ⟨sl, n⟩ k ⟨A, B, e, ⟨hA1, hA4, hB1, hB6⟩, hn, z⟩
  simp only at e hn z
  subst e
  simp [w_law_want]
  simp [and_assoc, Rho.set, dropOwn, ftLend, fLend, lendR, frz, ow, nList, -forall_exists_index, fBody, fsSeq, fsIf, fsRet, fsNext, fsDrop, fsAsg, fsNever, fsFor, fsOwn, fsPar2, fsPar_od, fsPar_do, fsPar_oo, fVar, fC, fUn, fOp, fChain, fTup, fLst, fCall, faD, faSt, flCons, flNil, fSl, foSome, foNone, fAnd, fOr, fNot, fIf, fOfN, fn1, fnLst, fnCat, fgN, fgTup, fgCons, fgNil, fiSeq, fiRange1, fiRange2, fiEnumA, fiZip, ftOr, ftAnd, ftNot, ftB, ftT, ftYes, truD_b, truD_i, truD_l, truD_t, truD_n, gIx_t0, gIx_t1, gIx_t2, gSl_t, gSl_l, gIsT, notDict, isT, isN, tyName, gLen_t, gLen_l, gTuple_l, gCmp, gAdd_ii, gAdd_ss, gAdd_tt, gAdd_ll, PD.gSub, gNeg, gMod, seqD, forD, wipeR, gEqA, gNeA, gEq_ii, gNe_ii, gEq_tt, gIn_ints, gIn_intsL, gNotIn_ints, gNotIn_intsL]
  refine ⟨A, rfl, by omega, by omega, by simp; omega, fun r1 a1 b1 => ?_⟩
  simp [and_assoc, Rho.set, dropOwn, ftLend, fLend, lendR, frz, ow, nList, -forall_exists_index, fBody, fsSeq, fsIf, fsRet, fsNext, fsDrop, fsAsg, fsNever, fsFor, fsOwn, fsPar2, fsPar_od, fsPar_do, fsPar_oo, fVar, fC, fUn, fOp, fChain, fTup, fLst, fCall, faD, faSt, flCons, flNil, fSl, foSome, foNone, fAnd, fOr, fNot, fIf, fOfN, fn1, fnLst, fnCat, fgN, fgTup, fgCons, fgNil, fiSeq, fiRange1, fiRange2, fiEnumA, fiZip, ftOr, ftAnd, ftNot, ftB, ftT, ftYes, truD_b, truD_i, truD_l, truD_t, truD_n, gIx_t0, gIx_t1, gIx_t2, gSl_t, gSl_l, gIsT, notDict, isT, isN, tyName, gLen_t, gLen_l, gTuple_l, gCmp, gAdd_ii, gAdd_ss, gAdd_tt, gAdd_ll, PD.gSub, gNeg, gMod, seqD, forD, wipeR, gEqA, gNeA, gEq_ii, gNe_ii, gEq_tt, gIn_ints, gIn_intsL, gNotIn_ints, gNotIn_intsL]
  refine ⟨B, rfl, by omega, by omega, by simp; omega, fun r2 a2 b2 => ?_⟩
  simp [and_assoc, Rho.set, dropOwn, ftLend, fLend, lendR, frz, ow, nList, -forall_exists_index, fBody, fsSeq, fsIf, fsRet, fsNext, fsDrop, fsAsg, fsNever, fsFor, fsOwn, fsPar2, fsPar_od, fsPar_do, fsPar_oo, fVar, fC, fUn, fOp, fChain, fTup, fLst, fCall, faD, faSt, flCons, flNil, fSl, foSome, foNone, fAnd, fOr, fNot, fIf, fOfN, fn1, fnLst, fnCat, fgN, fgTup, fgCons, fgNil, fiSeq, fiRange1, fiRange2, fiEnumA, fiZip, ftOr, ftAnd, ftNot, ftB, ftT, ftYes, truD_b, truD_i, truD_l, truD_t, truD_n, gIx_t0, gIx_t1, gIx_t2, gSl_t, gSl_l, gIsT, notDict, isT, isN, tyName, gLen_t, gLen_l, gTuple_l, gCmp, gAdd_ii, gAdd_ss, gAdd_tt, gAdd_ll, PD.gSub, gNeg, gMod, seqD, forD, wipeR, gEqA, gNeA, gEq_ii, gNe_ii, gEq_tt, gIn_ints, gIn_intsL, gNotIn_ints, gNotIn_intsL]
  obtain ⟨a, rfl⟩ := Int.eq_ofNat_of_zero_le a1
  obtain ⟨b, rfl⟩ := Int.eq_ofNat_of_zero_le a2
  rw [show (1 : Int) + (a : Int) = ((1 + a : Nat) : Int) by omega, show (1 : Int) + (b : Int) = ((1 + b : Nat) : Int) by omega, rangeD_nat]
  refine ⟨by omega, by omega, want_rows (1 + a) (1 + b) (by omega) (by omega) (by omega) _ _ _ (List.range (1 + b)) [] _ _ _ _ (by rw [List.length_range]; omega) (by simp) (fun r hr => absurd hr List.not_mem_nil) (fun T n' x6 x7 g1 g2 g3 => ?_) (by rw [List.length_range]; simp; omega)⟩
  rw [List.length_range] at g2 g3
  rw [List.length_nil, Nat.zero_add] at g2
  dsimp only
  refine fnComp_i ?_
  simp [and_assoc, Rho.set, dropOwn, ftLend, fLend, lendR, frz, ow, nList, -forall_exists_index, fBody, fsSeq, fsIf, fsRet, fsNext, fsDrop, fsAsg, fsNever, fsFor, fsOwn, fsPar2, fsPar_od, fsPar_do, fsPar_oo, fVar, fC, fUn, fOp, fChain, fTup, fLst, fCall, faD, faSt, flCons, flNil, fSl, foSome, foNone, fAnd, fOr, fNot, fIf, fOfN, fn1, fnLst, fnCat, fgN, fgTup, fgCons, fgNil, fiSeq, fiRange1, fiRange2, fiEnumA, fiZip, ftOr, ftAnd, ftNot, ftB, ftT, ftYes, truD_b, truD_i, truD_l, truD_t, truD_n, gIx_t0, gIx_t1, gIx_t2, gSl_t, gSl_l, gIsT, notDict, isT, isN, tyName, gLen_t, gLen_l, gTuple_l, gCmp, gAdd_ii, gAdd_ss, gAdd_tt, gAdd_ll, PD.gSub, gNeg, gMod, seqD, forD, wipeR, gEqA, gNeA, gEq_ii, gNe_ii, gEq_tt, gIn_ints, gIn_intsL, gNotIn_ints, gNotIn_intsL]
  rw [show (1 : Int) + (b : Int) = ((1 + b : Nat) : Int) by omega, rangeD_nat]
  refine ⟨by omega, by omega, by rw [List.length_map, List.length_range]; omega, comp_drawF (fun i : Nat => PyData.int (i : Int)) (fun i : Nat => PyData.int (i : Int)) (n' + 10) _ (List.range (1 + b)) [] n' (by rw [List.length_range]; omega) (fun i hi m hm kt kf c1 c2 => ?_) fun ys hl hy => ?_⟩
  · simp [and_assoc, Rho.set, dropOwn, ftLend, fLend, lendR, frz, ow, nList, -forall_exists_index, fBody, fsSeq, fsIf, fsRet, fsNext, fsDrop, fsAsg, fsNever, fsFor, fsOwn, fsPar2, fsPar_od, fsPar_do, fsPar_oo, fVar, fC, fUn, fOp, fChain, fTup, fLst, fCall, faD, faSt, flCons, flNil, fSl, foSome, foNone, fAnd, fOr, fNot, fIf, fOfN, fn1, fnLst, fnCat, fgN, fgTup, fgCons, fgNil, fiSeq, fiRange1, fiRange2, fiEnumA, fiZip, ftOr, ftAnd, ftNot, ftB, ftT, ftYes, truD_b, truD_i, truD_l, truD_t, truD_n, gIx_t0, gIx_t1, gIx_t2, gSl_t, gSl_l, gIsT, notDict, isT, isN, tyName, gLen_t, gLen_l, gTuple_l, gCmp, gAdd_ii, gAdd_ss, gAdd_tt, gAdd_ll, PD.gSub, gNeg, gMod, seqD, forD, wipeR, gEqA, gNeA, gEq_ii, gNe_ii, gEq_tt, gIn_ints, gIn_intsL, gNotIn_ints, gNotIn_intsL]
    refine ⟨2, rfl, by decide, by decide, by simp; omega, fun r h0 h1 => ?_⟩
    simp [and_assoc, Rho.set, dropOwn, ftLend, fLend, lendR, frz, ow, nList, -forall_exists_index, fBody, fsSeq, fsIf, fsRet, fsNext, fsDrop, fsAsg, fsNever, fsFor, fsOwn, fsPar2, fsPar_od, fsPar_do, fsPar_oo, fVar, fC, fUn, fOp, fChain, fTup, fLst, fCall, faD, faSt, flCons, flNil, fSl, foSome, foNone, fAnd, fOr, fNot, fIf, fOfN, fn1, fnLst, fnCat, fgN, fgTup, fgCons, fgNil, fiSeq, fiRange1, fiRange2, fiEnumA, fiZip, ftOr, ftAnd, ftNot, ftB, ftT, ftYes, truD_b, truD_i, truD_l, truD_t, truD_n, gIx_t0, gIx_t1, gIx_t2, gSl_t, gSl_l, gIsT, notDict, isT, isN, tyName, gLen_t, gLen_l, gTuple_l, gCmp, gAdd_ii, gAdd_ss, gAdd_tt, gAdd_ll, PD.gSub, gNeg, gMod, seqD, forD, wipeR, gEqA, gNeA, gEq_ii, gNe_ii, gEq_tt, gIn_ints, gIn_intsL, gNotIn_ints, gNotIn_intsL]
    by_cases e : r = 1
    · exact .inr ⟨e, c1 _ rfl⟩
    · exact .inl ⟨e, c2 _ rfl⟩
  · rw [List.length_range] at hl
    rw [List.nil_append, List.length_range]
    simp [and_assoc, Rho.set, dropOwn, ftLend, fLend, lendR, frz, ow, nList, -forall_exists_index, fBody, fsSeq, fsIf, fsRet, fsNext, fsDrop, fsAsg, fsNever, fsFor, fsOwn, fsPar2, fsPar_od, fsPar_do, fsPar_oo, fVar, fC, fUn, fOp, fChain, fTup, fLst, fCall, faD, faSt, flCons, flNil, fSl, foSome, foNone, fAnd, fOr, fNot, fIf, fOfN, fn1, fnLst, fnCat, fgN, fgTup, fgCons, fgNil, fiSeq, fiRange1, fiRange2, fiEnumA, fiZip, ftOr, ftAnd, ftNot, ftB, ftT, ftYes, truD_b, truD_i, truD_l, truD_t, truD_n, gIx_t0, gIx_t1, gIx_t2, gSl_t, gSl_l, gIsT, notDict, isT, isN, tyName, gLen_t, gLen_l, gTuple_l, gCmp, gAdd_ii, gAdd_ss, gAdd_tt, gAdd_ll, PD.gSub, gNeg, gMod, seqD, forD, wipeR, gEqA, gNeA, gEq_ii, gNe_ii, gEq_tt, gIn_ints, gIn_intsL, gNotIn_ints, gNotIn_intsL]
    have en : ys.map (fun i : Nat => PyData.int (i : Int)) ++ [PyData.int 0] = (ys.map (fun i : Nat => (i : Int)) ++ [(0 : Int)]).map .int := by
      rw [List.map_append, List.map_map]
      rfl
    have hm : ∀ x ∈ usort (ys.map (fun i : Nat => (i : Int)) ++ [(0 : Int)]), 0 ≤ x ∧ x ≤ (T.length : Int) - 1 := fun x hx => by
      rcases List.mem_append.mp (usort_mem.mp hx) with u | u
      · obtain ⟨i, hi, rfl⟩ := List.mem_map.mp u
        have := List.mem_range.mp (hy i hi)
        omega
      · rw [List.mem_singleton] at u
        omega
    refine ⟨by rw [sizeLine_eq]; omega, _, by rw [en]; exact nSortSet_ints (by rw [List.length_append, List.length_map, List.length_singleton]; omega), z (1 + a) T _ _ ⟨⟨by omega, by omega, by omega, by omega, fun r hr => ⟨by rw [(g1 r hr).1]; omega, fun x hx => ?_⟩, usort_lt _, hm, usort_mem.mpr (List.mem_append_right _ (List.mem_singleton.mpr rfl))⟩, by omega, by omega⟩ (by omega)⟩
    have := (g1 r hr).2 x hx
    omega
structure Part (T : List (List Int)) (G F : List Int) : Prop where
  nd : F.Nodup
  rng : ∀ x ∈ F, 0 ≤ x ∧ x ≤ (T.length : Int) - 1
  sup : ∀ x ∈ G, x ∈ F
  min : ∀ A : Int → Prop, (∀ x ∈ G, A x) → (∀ (i : Nat) (h : i < T.length), (∃ b ∈ T[i], A b) → A i) → ∀ x ∈ F, A x
theorem Part.len {T : List (List Int)} {G F : List Int} (h : Part T G F) (ht : 1 ≤ T.length) : F.length ≤ T.length := by
  have h1 := asc_len (G := isort F) (lo := 0) (hi := (T.length : Int) - 1) (isort_strict h.nd) fun x hx => h.rng x ((isort_perm F).mem_iff.mp hx)
  rw [(isort_perm F).length_eq] at h1
  omega
def more (m : Nat) (r : List Int) : List (List Int) := (List.range m).map fun i : Nat => r ++ [(i : Int)]
end GA
namespace PD
open PySem L2 PyProof.Rows PySem.Spec
open Evl (Ex)
end PD
namespace PD
open PySem L2 PyProof.Rows PySem.Spec
open Evl (Ex)
def addS (S : List (Addr × HO)) (H : Hp) : Hp := fun b => match S.lookup b with
  | some u => some u
  | none => H b
def delS (S : List (Addr × HO)) (H : Hp) : Hp := fun b => if b ∈ S.map (·.1) then none else H b
section
variable {S : List (Addr × HO)} {H H' : Hp} {b : Addr} {u : HO}
theorem look_mem : ∀ {S : List (Addr × HO)} {v : HO}, S.lookup b = some v → (b, v) ∈ S
  | [], _, h => by cases h
  | (c, w) :: S, v, h => by
    simp only [List.lookup] at h
    split at h
    · rename_i e
      cases h
      rw [beq_iff_eq.mp e]
      exact List.mem_cons_self
    · exact List.mem_cons_of_mem _ (look_mem h)
theorem look_non : ∀ {S : List (Addr × HO)}, S.lookup b = none → b ∉ S.map (·.1)
  | [], _ => List.not_mem_nil
  | (c, w) :: S, h => fun z => by
    simp only [List.lookup] at h
    split at h
    · cases h
    · rename_i e
      rcases List.mem_cons.mp z with z | z
      · rw [z] at e; simp at e
      · exact look_non h z
theorem look_out (h : b ∉ S.map (·.1)) : S.lookup b = none := by
  cases e : S.lookup b with
  | none => rfl
  | some v => exact absurd (List.mem_map.mpr ⟨(b, v), look_mem e, rfl⟩) h
theorem look_in : ∀ {S : List (Addr × HO)}, (S.map (·.1)).Nodup → (b, u) ∈ S → S.lookup b = some u
  | [], _, h => absurd h List.not_mem_nil
  | (c, v) :: S, nd, h => by
    rw [List.map_cons, List.nodup_cons] at nd
    rcases List.mem_cons.mp h with e | h
    · cases e
      simp [List.lookup]
    · have hne : (b == c) = false := beq_eq_false_iff_ne.mpr fun e => nd.1 (List.mem_map.mpr ⟨_, h, e⟩)
      simp only [List.lookup, hne]
      exact look_in nd.2 h
theorem addS_out (h : b ∉ S.map (·.1)) : addS S H b = H b := by
  unfold addS
  rw [look_out h]
theorem addS_in (nd : (S.map (·.1)).Nodup) (h : (b, u) ∈ S) : addS S H b = some u := by
  unfold addS
  rw [look_in nd h]
theorem delS_out (h : b ∉ S.map (·.1)) : delS S H b = H b := if_neg h
theorem delS_in (h : b ∈ S.map (·.1)) : delS S H b = none := if_pos h
theorem delS_some (h : delS S H b = some u) : b ∉ S.map (·.1) ∧ H b = some u := by
  unfold delS at h
  by_cases hb : b ∈ S.map (·.1)
  · rw [if_pos hb] at h; cases h
  · rw [if_neg hb] at h; exact ⟨hb, h⟩
theorem addS_some (h : addS S H b = some u) : (b, u) ∈ S ∨ (b ∉ S.map (·.1) ∧ H b = some u) := by
  unfold addS at h
  cases e : S.lookup b with
  | none =>
    rw [e] at h
    exact .inr ⟨look_non e, h⟩
  | some v =>
    rw [e] at h
    cases h
    exact .inl (look_mem e)
end
section
variable {P : Program} {w : World} {A : Around} {outer : List Env} {s s' : Shared} {H H' : Hp} {S : List (Addr × HO)} {Q : VK} {E : XK} {h h' : Heap}
/-- exact objects, marked -/
def CeS (S : List (Addr × HO)) (h : Heap) : Prop := ∀ q ∈ S, ∃ (k : Nat) (o : Obj), q.2 = CeO k o ∧ h.get? q.1 = some o
theorem hok_del (hc : ∀ q ∈ S, ∃ (k : Nat) (o : Obj), q.2 = CeO k o) (hH : ∀ q ∈ S, H q.1 = some q.2) (hok : HOk P w H h) : HOk P w (delS S H) h := fun a o e => by
  obtain ⟨h1, h2⟩ := delS_some e
  have out : ∀ {b : Addr} {u : HO}, H b = some u → (∀ k o, u ≠ CeO k o) → b ∉ S.map (·.1) := fun {b u} hb n z => by
    obtain ⟨q, hq, rfl⟩ := List.mem_map.mp z
    obtain ⟨k, o, e⟩ := hc q hq
    have := hH q hq
    rw [hb, e] at this
    exact n k o (Option.some.inj this)
  refine (hok a o h2).stay (fun b u _ z => z) (fun b z => ?_) fun b xs z => ?_
  · rw [delS_out (out z fun k o q => by unfold CeO at q; cases q)]; exact z
  · rw [delS_out (out z fun k o q => by unfold CeO at q; cases q)]; exact z
theorem hok_add (nd : (S.map (·.1)).Nodup) (hc : CeS S h) (hn : ∀ q ∈ S, H q.1 = none) (hok : HOk P w H h) : HOk P w (addS S H) h := fun a o e => by
  rcases addS_some e with z | ⟨_, z⟩
  · obtain ⟨k, ob, e1, e2⟩ := hc _ z
    simp only at e1 e2
    subst e1
    exact ⟨e2, ob, e2⟩
  · have out : ∀ {b : Addr} {u : HO}, H b = some u → b ∉ S.map (·.1) := fun {b u} hb y => by
      obtain ⟨q, hq, rfl⟩ := List.mem_map.mp y
      rw [hn q hq] at hb
      cases hb
    exact (hok a o z).stay (fun b u _ y => y) (fun b y => by rw [addS_out (out y)]; exact y) fun b xs y => by rw [addS_out (out y)]; exact y
/-- cells are lent to a call -/
theorem lend_end {r : Result} (nd : (S.map (·.1)).Nodup) (hc : CeS S s.heap) (hn : ∀ q ∈ S, H q.1 = none) (nf : ∀ q ∈ S, q.1 ∉ frs outer)
    (h : CR (L2.CX P w) outer P w (addS S H) s (fun v H' => (∀ q ∈ S, H' q.1 = some q.2) → Q v (delS S H')) (fun _ _ _ => False) r s') : CR (L2.CX P w) outer P w H s Q (fun _ _ _ => False) r s' := by
  cases r with
  | error e =>
    obtain ⟨_, _, _, _, _, _, _, _, _, _, _, _, z⟩ := h
    exact z.elim
  | ok fl =>
    cases fl with
    | next => exact h.elim
    | brk => exact h.elim
    | cont => exact h.elim
    | ret u =>
      obtain ⟨v, H2, os, bare, un, hok2, rv, q⟩ := h
      have kept : ∀ q ∈ S, H2 q.1 = some q.2 := fun q hq => by
        obtain ⟨k, o, e, _⟩ := hc q hq
        have : addS S H q.1 = some (CeO k o) := by rw [← e]; exact addS_in nd hq
        rw [e]
        exact un.frzs q.1 o _ this
      have inS : ∀ {b : Addr}, b ∈ S.map (·.1) → ∃ o, s.heap.get? b = some o ∧ s'.heap.get? b = some o := fun {b} hb => by
        obtain ⟨q, hq, rfl⟩ := List.mem_map.mp hb
        obtain ⟨k, o, e, g⟩ := hc q hq
        have := hok2 q.1 _ (kept q hq)
        rw [e] at this
        exact ⟨o, g, this.1⟩
      have out : ∀ {b : Addr} {u : HO}, H b = some u → b ∉ S.map (·.1) := fun {b u} hb y => by
        obtain ⟨q, hq, rfl⟩ := List.mem_map.mp y
        rw [hn q hq] at hb
        cases hb
      refine ⟨v, delS S H2, os, bare, ⟨fun b o e n hf hx => ?_, fun b o e n hf hx => ?_, fun b o e n hx => ?_, un.there, fun b xs e => ?_, fun b o u e => ?_, fun b ps e => ?_⟩, hok_del (fun q hq => let ⟨k, o, e, _⟩ := hc q hq; ⟨k, o, e⟩) kept hok2, rv, q kept⟩
      · by_cases hb : b ∈ S.map (·.1)
        · obtain ⟨o2, g1, g2⟩ := inS hb
          rw [e] at g1
          cases g1
          exact g2
        · exact un.keep b o e (by rw [addS_out hb]; exact n) hf hx
      · have hb : b ∉ S.map (·.1) := fun z => by
          obtain ⟨q, hq, rfl⟩ := List.mem_map.mp z
          exact nf q hq hf
        exact un.slot b o e (by rw [addS_out hb]; exact n) hf hx
      · by_cases hb : b ∈ S.map (·.1)
        · exact delS_in hb
        · rw [delS_out hb]
          exact un.free b o e (by rw [addS_out hb]; exact n) hx
      · rw [delS_out (out e)]
        exact un.tups b xs (by rw [addS_out (out e)]; exact e)
      · rw [delS_out (out e)]
        exact un.frzs b o u (by rw [addS_out (out e)]; exact e)
      · rw [delS_out (out e)]
        exact un.tbls b ps (by rw [addS_out (out e)]; exact e)
/-- a call that does not know of cells -/
theorem unlend_end {r : Result} (nd : (S.map (·.1)).Nodup) (hc : CeS S s.heap) (hH : ∀ q ∈ S, H q.1 = some q.2) (frf : ∀ b ∈ frs outer, H b = none)
    (h : CR (L2.CX P w) outer P w (delS S H) s (fun v H' => (∀ q ∈ S, H' q.1 = none) → Q v (addS S H')) (fun c d H' => (∀ q ∈ S, H' q.1 = none) → E c d (addS S H')) r s') : CR (L2.CX P w) outer P w H s Q E r s' := by
  have nf : ∀ {b : Addr}, b ∈ S.map (·.1) → b ∉ frs outer := fun {b} hb z => by
    obtain ⟨q, hq, rfl⟩ := List.mem_map.mp hb
    have := frf _ z
    rw [hH q hq] at this
    cases this
  have out : ∀ {b : Addr}, H b = none → b ∉ S.map (·.1) := fun {b} hb z => by
    obtain ⟨q, hq, rfl⟩ := List.mem_map.mp z
    rw [hH q hq] at hb
    cases hb
  have atS : ∀ {b : Addr} {u : HO}, H b = some u → b ∈ S.map (·.1) → (b, u) ∈ S := fun {b u} hb z => by
    obtain ⟨q, hq, e⟩ := List.mem_map.mp z
    subst e
    rw [hH q hq] at hb
    cases hb
    exact hq
  cases r with
  | error e =>
    obtain ⟨a, B, H2, cls, d, rfl, fl, hok2, ub, na, os, ag, q⟩ := h
    have hn2 : ∀ q ∈ S, H2 q.1 = none := fun q hq => by
      obtain ⟨k, o, _, g⟩ := hc q hq
      exact ub.free q.1 o g (delS_in (List.mem_map.mpr ⟨q, hq, rfl⟩))
    have hc2 : CeS S B := fun q hq => by
      obtain ⟨k, o, e, g⟩ := hc q hq
      have hm : q.1 ∈ S.map (·.1) := List.mem_map.mpr ⟨q, hq, rfl⟩
      exact ⟨k, o, e, ub.keep q.1 o g (delS_in hm) (nf hm)⟩
    have na2 : a ∉ S.map (·.1) := fun z => by
      obtain ⟨q, hq, rfl⟩ := List.mem_map.mp z
      obtain ⟨k, o, e, g⟩ := hc2 q hq
      rw [fl.2.1] at g
      cases g
    refine ⟨a, B, addS S H2, cls, d, rfl, fl, hok_add nd hc2 hn2 hok2, ⟨fun b o e n hf => ?_, ub.slot, fun b o e n => ?_, ub.there, fun b xs e => ?_, fun b o u e => ?_, fun b ps e => ?_⟩, by rw [addS_out na2]; exact na, os, ag, q hn2⟩
    · exact ub.keep b o e (by rw [delS_out (out n)]; exact n) hf
    · rw [addS_out (out n)]
      exact ub.free b o e (by rw [delS_out (out n)]; exact n)
    · by_cases hb : b ∈ S.map (·.1)
      · obtain ⟨k, o, e', _⟩ := hc _ (atS e hb)
        unfold CeO at e'
        cases e'
      · rw [addS_out hb]; exact ub.tups b xs (by rw [delS_out hb]; exact e)
    · by_cases hb : b ∈ S.map (·.1)
      · exact addS_in nd (atS e hb)
      · rw [addS_out hb]; exact ub.frzs b o u (by rw [delS_out hb]; exact e)
    · by_cases hb : b ∈ S.map (·.1)
      · obtain ⟨k, o, e', _⟩ := hc _ (atS e hb)
        unfold CeO at e'
        cases e'
      · rw [addS_out hb]; exact ub.tbls b ps (by rw [delS_out hb]; exact e)
  | ok fl =>
    cases fl with
    | next => exact h.elim
    | brk => exact h.elim
    | cont => exact h.elim
    | ret u =>
      obtain ⟨v, H2, os, bare, un, hok2, rv, q⟩ := h
      have noex : ∀ {b : Addr}, b ∉ ([] : List Addr) := fun {b} => List.not_mem_nil
      have hn2 : ∀ q ∈ S, H2 q.1 = none := fun q hq => by
        obtain ⟨k, o, _, g⟩ := hc q hq
        exact un.free q.1 o g (delS_in (List.mem_map.mpr ⟨q, hq, rfl⟩)) noex
      have hc2 : CeS S s'.heap := fun q hq => by
        obtain ⟨k, o, e, g⟩ := hc q hq
        have hm : q.1 ∈ S.map (·.1) := List.mem_map.mpr ⟨q, hq, rfl⟩
        exact ⟨k, o, e, un.keep q.1 o g (delS_in hm) (nf hm) noex⟩
      refine ⟨v, addS S H2, os, bare, ⟨fun b o e n hf hx => ?_, fun b o e n hf hx => ?_, fun b o e n hx => ?_, un.there, fun b xs e => ?_, fun b o u e => ?_, fun b ps e => ?_⟩, hok_add nd hc2 hn2 hok2, rv, q hn2⟩
      · exact un.keep b o e (by rw [delS_out (out n)]; exact n) hf hx
      · exact un.slot b o e (by rw [delS_out (out n)]; exact n) hf hx
      · rw [addS_out (out n)]
        exact un.free b o e (by rw [delS_out (out n)]; exact n) hx
      · by_cases hb : b ∈ S.map (·.1)
        · obtain ⟨k, o, e', _⟩ := hc _ (atS e hb)
          unfold CeO at e'
          cases e'
        · rw [addS_out hb]; exact un.tups b xs (by rw [delS_out hb]; exact e)
      · by_cases hb : b ∈ S.map (·.1)
        · exact addS_in nd (atS e hb)
        · rw [addS_out hb]; exact un.frzs b o u (by rw [delS_out hb]; exact e)
      · by_cases hb : b ∈ S.map (·.1)
        · obtain ⟨k, o, e', _⟩ := hc _ (atS e hb)
          unfold CeO at e'
          cases e'
        · rw [addS_out hb]; exact un.tbls b ps (by rw [delS_out hb]; exact e)
end
end PD
namespace PD
open PySem L2 PyProof.Rows PySem.Spec
open Evl (Ex)
structure LamG (P : Program) (w : World) (K : PySem.W.Frag) (mg : Str → Option Value) (base : Heap) (k : Nat) (path : List Nat) (nP : Nat) (sp : Sp) : Prop where
  go : ∀ (A : Around) (outer : List Env) (s : Shared) (H : Hp) (f : Addr) (C : CloF) (us : List Value) (vs cvs : List V) (Q : VK) (E : XK), A.guards = some [] → Room k A → Env0 P w K mg base A outer s H → s.heap.get? f = some C.obj → s.heap.CodeRec (.ref C.c) C.q → CloOk P path C cvs →
    (∀ (i : Nat) (x : Str × Addr) (o : Obj), C.cl[i]? = some x → C.os[i]? = some o → s.heap.get? x.2 = some o ∧ H x.2 = none) → Vals vs us → vs.length = nP → sp (vs ++ cvs) H Q E →
    codeAny (model P w) A (.call (.ref f) ⟨us, []⟩) (CR (L2.CX P w) outer P w H s Q E) s
section
variable {P : Program} {w : World} {K : PySem.W.Frag} {mg : Str → Option Value} {base : Heap} {k j : Nat} {path : List Nat} {nP : Nat} {sp sp' : Sp}
theorem LamG.mono (G : LamG P w K mg base j path nP sp) (h : j ≤ k) : LamG P w K mg base k path nP sp :=
  ⟨fun A outer s H f C us vs cvs Q E hg hr => G.go A outer s H f C us vs cvs Q E hg (hr.mono h)⟩
theorem LamG.imp (G : LamG P w K mg base k path nP sp) (h : ∀ vs H Q E, sp' vs H Q E → sp vs H Q E) : LamG P w K mg base k path nP sp' :=
  ⟨fun A outer s H f C us vs cvs Q E hg hr he ho hc hC hz hv hl hs => G.go A outer s H f C us vs cvs Q E hg hr he ho hc hC hz hv hl (h _ _ _ _ hs)⟩
/-- its words, as a made function's -/
@[reducible] def CloF.nf (C : CloF) : NdefX.NF := ⟨"<lambda>", C.q, C.params, [], C.scope, C.cl, C.c⟩
theorem cl_look {l : List (Str × Addr)} (nd : (l.map (·.1)).Nodup) {i : Nat} {x : Str × Addr} (h : l[i]? = some x) : l.lookup x.1 = some x.2 := by
  induction l generalizing i with
  | nil => simp at h
  | cons y l ih =>
    rw [List.map_cons, List.nodup_cons] at nd
    cases i with
    | zero => simp at h; subst h; simp [List.lookup]
    | succ i =>
      have h : l[i]? = some x := by simpa using h
      have hne : (x.1 == y.1) = false := beq_eq_false_iff_ne.mpr fun e => nd.1 (List.mem_map.mpr ⟨x, List.mem_of_getElem? h, e⟩)
      simp only [List.lookup, hne]
      exact ih nd.2 h
theorem cl_idx {l : List (Str × Addr)} {y : Str} {c : Addr} (h : l.lookup y = some c) : ∃ i : Nat, l[i]? = some (y, c) := by
  induction l with
  | nil => cases h
  | cons z l ih =>
    obtain ⟨n, d⟩ := z
    simp only [List.lookup] at h
    split at h
    · rename_i e
      cases h
      rw [beq_iff_eq.mp e]
      exact ⟨0, rfl⟩
    · obtain ⟨i, hi⟩ := ih h
      exact ⟨i + 1, by simpa using hi⟩
theorem nodup_idx {α : Type} {l : List α} (nd : l.Nodup) {i j : Nat} {x : α} (h1 : l[i]? = some x) (h2 : l[j]? = some x) : i = j := by
  obtain ⟨a1, a2⟩ := List.getElem?_eq_some_iff.mp h1
  obtain ⟨b1, b2⟩ := List.getElem?_eq_some_iff.mp h2
  exact (List.getElem_inj nd).mp (a2.trans b2.symm)
theorem clo_cells {C : CloF} {cvs : List V} {s : Shared} {H : Hp} (hC : CloOk P path C cvs) (hz : ∀ (i : Nat) (x : Str × Addr) (o : Obj), C.cl[i]? = some x → C.os[i]? = some o → s.heap.get? x.2 = some o ∧ H x.2 = none) :
    NdefX.CellsAt C.cl (frees C.scope) (cvs.map some) s.heap H := by
  have len : ∀ {i : Nat} {x : Str × Addr}, C.cl[i]? = some x → ∃ o v, C.os[i]? = some o ∧ cvs[i]? = some v := fun {i x} h => by
    have hi := (List.getElem?_eq_some_iff.mp h).1
    exact ⟨_, _, List.getElem?_eq_getElem (by rw [hC.los]; exact hi), List.getElem?_eq_getElem (by rw [hC.lvs]; exact hi)⟩
  refine ⟨by rw [List.length_map, hC.lvs, ← hC.names, List.length_map], fun y c e => ?_, fun x y c e1 e2 => ?_, fun i y hi => ?_⟩
  · obtain ⟨i, hi⟩ := cl_idx e
    obtain ⟨o, v, ho, hv⟩ := len hi
    obtain ⟨u, _, hd⟩ := hC.cell i o v ho hv
    obtain ⟨g1, g2⟩ := hz i _ o hi ho
    exact ⟨g2, some u, o, g1, hd⟩
  · obtain ⟨i, hi⟩ := cl_idx e1
    obtain ⟨j, hj⟩ := cl_idx e2
    have h1 : (C.cl.map (·.2))[i]? = some c := by rw [List.getElem?_map, hi]; rfl
    have h2 : (C.cl.map (·.2))[j]? = some c := by rw [List.getElem?_map, hj]; rfl
    have := nodup_idx hC.inj h1 h2
    rw [this, hj] at hi
    cases hi
    rfl
  · rw [← hC.names, List.getElem?_map] at hi
    cases e : C.cl[i]? with
    | none => rw [e] at hi; cases hi
    | some x =>
      rw [e] at hi
      cases hi
      refine ⟨x.2, cl_look hC.nd e, fun v hv => ?_⟩
      rw [List.getElem?_map] at hv
      obtain ⟨o, v', ho, hv'⟩ := len e
      rw [hv'] at hv
      obtain rfl : v' = v := by simpa using hv
      obtain ⟨u, r, hd⟩ := hC.cell i o v' ho hv'
      exact ⟨u, r, o, (hz i x o e ho).1, hd⟩
theorem lamG_of {N ps : List Str} {params : Arguments} {body : Expr} {scope : Scope} {lpos : Pos} (hL : lamAt P path = some (.Lambda params body scope lpos)) (S : NdefX.NScope N ps (frees scope) scope)
    (hb : ∀ (q : Str) (cl : List (Str × Addr)) (pm ctv : Value) (c : Addr) (us : List Value), us.length = ps.length → bindArgs (PySem.W.kla_fn "<lambda>" q params body scope cl pm (.ref c) ctv) ⟨us, []⟩ = pure (ps.zip us))
    (hbody : ∀ (C : CloF) (A : Around) (outer : List Env) (s : Shared) (H : Hp) (f : Addr) (vs : List V) (Q : VK) (E : XK), C.scope = scope → A.guards = some [] → Room k (A.deeper (NdefX.envF C.nf f s.heap.objs.size)) → vs.length = ps.length + (frees scope).length → sp vs H Q E →
      ∃ t, PE (NdefX.ncx (L2.CX P w) P w K mg base N C.nf f A outer s H E) body t ∧ t (L2.start N vs) H Q) : LamG P w K mg base (k + 1) path ps.length sp := by
  refine ⟨fun A outer s H f C us vs cvs Q E hg hr e0 ho hc hC hz hv hl hs => ?_⟩
  obtain ⟨lpos', hl2⟩ := hC.here
  rw [hL] at hl2
  have e1 := Option.some.inj hl2
  obtain ⟨q, params', body', scope', pm, ctv, c, oc, cl, os⟩ := C
  simp only at e1
  cases e1
  have lim : s.heap.NoLimit := e0.mod.nolimit.keeps fun b o e => (e0.bs b o e).1
  have cz := clo_cells hC hz
  have lcv : cvs.length = (frees scope).length := by
    have := cz.len
    rwa [List.length_map] at this
  refine PySem.W.kla_callFunE hr.depth ho rfl S.co S.gen rfl hc ?_
  rw [hb q cl pm ctv c us (by rw [← hv.length]; exact hl)]
  refine wpAny_pure (wpAny_newFunctionEnv S.nocell (fun ⟨n, _⟩ hy => S.par n (List.of_mem_zip hy).1) (fun h₁ hns hsb => ⟨lim.fresh _ hsb, ?_⟩) S.kind)
  have kp : ∀ b o, s.heap.get? b = some o → h₁.get? b = some o := fun b o e => hsb.extBut b o (Nat.ne_of_lt (Heap.lt_size e)) (Heap.get?_push_of_some _ e)
  obtain ⟨t, ht, hq⟩ := hbody ⟨q, params, body, scope, pm, ctv, c, oc, cl, os⟩ A outer s H f (vs ++ cvs) Q E rfl hg (hr.deeper _) (by rw [List.length_append, hl, lcv]) hs
  have I := NdefX.inv_startN (CX := L2.CX P w) (F := (⟨q, params, body, scope, pm, ctv, c, oc, cl, os⟩ : CloF).nf) (f := f) (E := E) (tk := s.toks + (ps.zip us).length) S hr.hd e0 hl hv cz hns kp
  have es : NdefX.startF N vs (cvs.map some) = L2.start N (vs ++ cvs) := by
    unfold NdefX.startF L2.start
    rw [List.map_append, List.append_assoc, List.length_append, List.length_map, Nat.sub_sub]
  rw [es] at I
  refine PySem.W.kla_codeExpr (wpAny_mono (ht.run [] _ _ H Q I hq) (fun v s' hx => ?_) fun e s' hx => hx)
  obtain ⟨v', H', J, rv, q'⟩ := hx
  exact ⟨v', H', J.os, J.bare, J.base, J.hok, rv, q'⟩
end
end PD
namespace PD
open PySem L2 PyProof.Rows PySem.Spec
open Evl (Ex)
def tagC (κ : Nat) : D → D → Bool
  | .list [], .tuple (.int i :: _) => decide (i = (κ : Int))
  | .list [], .tuple [] => decide (κ = 0)
  | _, _ => false
mutual
def noC (κ : Nat) : D → Bool
  | .list ds => noCs κ ds
  | .tuple ds => noCs κ ds
  | .dict ps => noCk κ ps
  | .none | .bool _ | .int _ | .str _ => true
def noCs (κ : Nat) : List D → Bool
  | [] => true
  | d :: ds => noC κ d && noCs κ ds
def noCk (κ : Nat) : List (D × D) → Bool
  | [] => true
  | (k, v) :: ps => noC κ k && noC κ v && !tagC κ k v && noCk κ ps
end
section
variable {K : Fr0} {G G' : Hp} {κ : Nat}
/-- all but cells of the mark is seen there too -/
def ButC (κ : Nat) (G G' : Hp) : Prop := ∀ a u, G a = some u → (∀ o x, o.data = .cell x → u ≠ CeO κ o) → G' a = some u
theorem butc_l {a : Addr} {xs : List V} (b : ButC κ G G') (h : SqL K.f G a xs) : SqL K.f G' a xs := by
  rcases h with (h | ⟨o, h⟩) | h
  · exact .inl (.inl (b _ _ h fun o x _ z => by unfold CeO at z; cases z))
  · exact .inl (.inr ⟨o, b _ _ h fun o x _ z => by unfold CeO at z; cases z⟩)
  · exact .inr h
theorem butc_t {a : Addr} {xs : List V} (b : ButC κ G G') (h : SqT K.f G a xs) : SqT K.f G' a xs := by
  rcases h with (h | ⟨o, h⟩) | h
  · exact .inl (.inl (b _ _ h fun o x _ z => by unfold CeO at z; cases z))
  · exact .inl (.inr ⟨o, b _ _ h fun o x _ z => by unfold CeO at z; cases z⟩)
  · exact .inr h
theorem cells_mem {C : CloF} {k : Nat} {q : Addr × HO} (h : q ∈ C.cells k) : ∃ (i : Nat) (x : Str × Addr) (o : Obj), C.cl[i]? = some x ∧ C.os[i]? = some o ∧ q = (x.2, CeO k o) := by
  unfold CloF.cells at h
  obtain ⟨i, hi⟩ := List.mem_iff_getElem?.mp h
  rw [List.getElem?_zipWith] at hi
  cases e1 : C.cl[i]? with
  | none => rw [e1] at hi; cases hi
  | some x =>
    cases e2 : C.os[i]? with
    | none => rw [e1, e2] at hi; cases hi
    | some o =>
      rw [e1, e2] at hi
      cases hi
      exact ⟨i, x, o, e1, e2, rfl⟩
theorem tag_head {path : List Nat} (h : tagC κ (.list []) (.tuple (path.map fun n => .int (n : Nat))) = false) : path.headD 0 ≠ κ := by
  cases path with
  | nil =>
    have h : decide (κ = 0) = false := h
    intro e
    have e : (0 : Nat) = κ := e
    rw [← e] at h
    cases h
  | cons n r =>
    have h : decide (((n : Nat) : Int) = (κ : Int)) = false := h
    intro e
    have e : n = κ := e
    rw [e] at h
    simp at h
mutual
theorem rp_butc (b : ButC κ G G') : ∀ {v : V} {d : D}, noC κ d = true → Rp K G v d → Rp K G' v d
  | _, _, _, .non => .non
  | _, _, _, .bl b => .bl b
  | _, _, _, .int i => .int i
  | _, _, _, .str x => .str x
  | _, _, c, .lst hs ha => .lst (butc_l b hs) (rpa_butc b (by simpa [noC] using c) ha)
  | _, _, c, .tup hs ha => .tup (butc_t b hs) (rpa_butc b (by simpa [noC] using c) ha)
  | _, _, c, .dct hs ha => .dct (b _ _ hs fun o x _ z => by unfold CeO KdO at z; cases z) (rpk_butc b (by simpa [noC] using c) ha)
  | _, _, c, .dctN hs ha => .dctN (b _ _ hs fun o x _ z => by unfold CeO NdO at z; cases z) (rpn_butc b (by simpa [noC] using c) ha)
  | _, _, c, .obj hs ha => .obj (b _ _ hs fun o x _ z => by unfold CeO at z; cases z) (rpf_butc b (by
      simp only [noC, noCk, Bool.and_eq_true] at c
      exact c.2) ha)
  | _, _, c, .clo h0 hs hc hq ha => by
      simp only [noC, noCk, Bool.and_eq_true, Bool.not_eq_true'] at c
      refine .clo h0 (b _ _ hs fun o x _ z => by unfold CeO ExO at z; cases z) (b _ _ hc fun o x hx z => ?_) (fun q hm => b _ _ (hq q hm) fun o x _ z => ?_) (rpa_butc b c.2.1.1.2 ha)
      · obtain ⟨vs, t, e, _⟩ := h0.code
        unfold CeO at z
        cases z
        rw [e] at hx
        cases hx
      · obtain ⟨i, y, o', _, _, e⟩ := cells_mem hm
        rw [e] at z
        unfold CeO at z
        simp only [HO.frz.injEq, HO.own.injEq] at z
        exact tag_head c.1.2 z.2
theorem rpa_butc (b : ButC κ G G') : ∀ {vs : List V} {ds : List D}, noCs κ ds = true → RpAll K G vs ds → RpAll K G' vs ds
  | _, _, _, .nil => .nil
  | _, _, c, .cons h1 h2 => by
    simp only [noCs, Bool.and_eq_true] at c
    exact .cons (rp_butc b c.1 h1) (rpa_butc b c.2 h2)
theorem rpk_butc (b : ButC κ G G') : ∀ {vs : List (Key × V)} {ds : List (D × D)}, noCk κ ds = true → RpKv K G vs ds → RpKv K G' vs ds
  | _, _, _, .nil => .nil
  | _, _, c, .cons h1 h2 h3 => by
    simp only [noCk, Bool.and_eq_true] at c
    exact .cons (rp_butc b c.1.1.1 h1) (rp_butc b c.1.1.2 h2) (rpk_butc b c.2 h3)
theorem rpn_butc (b : ButC κ G G') : ∀ {vs : List (NestedKey × Addr × V)} {ds : List (D × D)}, noCk κ ds = true → RpN K G vs ds → RpN K G' vs ds
  | _, _, _, .nil => .nil
  | _, _, c, .cons h0 hd h1 h2 h3 => by
    simp only [noCk, Bool.and_eq_true] at c
    exact .cons h0 hd (rp_butc b c.1.1.1 h1) (rp_butc b c.1.1.2 h2) (rpn_butc b c.2 h3)
theorem rpf_butc (b : ButC κ G G') : ∀ {vs : List (Str × V)} {ds : List (D × D)}, noCk κ ds = true → RpF K G vs ds → RpF K G' vs ds
  | _, _, _, .nil => .nil
  | _, _, c, .cons h1 h2 => by
    simp only [noCk, Bool.and_eq_true] at c
    exact .cons (rp_butc b c.1.1.2 h1) (rpf_butc b c.2 h2)
end
end
/-- cells with a mark -/
def CeM (κ : Nat) (S : List (Addr × HO)) : Prop := ∀ q ∈ S, ∃ (o : Obj) (x : Option Value), q.2 = CeO κ o ∧ o.data = .cell x
def okC (κ : Nat) : Sl → Bool
  | .d x => noC κ x
  | .no | .st | .raw _ => true
  | .own _ | .exc _ _ _ => false
section
variable {K : Fr0} {M : Mk0} {P : Option Addr} {F : Hp} {L L2' : List Addr} {ρ : Rho} {σ : L2.St} {H H2 : Hp} {S : List (Addr × HO)} {κ n : Nat}
theorem butc_del (hS : CeM κ S) (hH : ∀ q ∈ S, H q.1 = some q.2) : ButC κ (hide L H) (hide L (delS S H)) := fun a u h nc => by
  obtain ⟨h1, h2⟩ := hide_some.mp h
  refine hide_some.mpr ⟨h1, ?_⟩
  rw [delS_out fun z => ?_]
  · exact h2
  · obtain ⟨q, hq, rfl⟩ := List.mem_map.mp z
    obtain ⟨o, x, e, ed⟩ := hS q hq
    rw [hH q hq, e] at h2
    exact nc o x ed (Option.some.inj h2).symm
/-- seen cells go -/
theorem R.del (r : R K M P F L ρ σ H) (hS : CeM κ S) (hH : ∀ q ∈ S, H q.1 = some q.2 ∧ q.1 ∉ L) (hc : ρ.sl.all (okC κ) = true) : R K M P F L ρ σ (delS S H) := by
  have inL : ∀ {a : Addr}, a ∈ L → a ∉ S.map (·.1) := fun {a} ha z => by
    obtain ⟨q, hq, rfl⟩ := List.mem_map.mp z
    exact (hH q hq).2 ha
  have bc := butc_del (L := L) hS fun q hq => (hH q hq).1
  have ok : ∀ {i : Nat} {s : Sl}, ρ.sl[i]? = some s → okC κ s = true := fun {i s} h => List.all_eq_true.mp hc s (List.mem_of_getElem? h)
  have noOwn : ∀ {i : Nat} {xs : Ow}, ρ.sl[i]? ≠ some (.own xs) := fun {i xs} h => by cases ok h
  refine ⟨r.len, fun i s o h1 h2 => ?_, fun a o h => ?_, fun a h => ?_, fun i j xs ys l _ h => absurd h noOwn, fun i xs l h => absurd h noOwn, fun p hp => ?_, fun t ht => ?_⟩
  · have q := r.sl i s o h1 h2
    have c := ok h1
    cases s with
    | no => trivial
    | d x =>
      obtain ⟨v, h3, h4⟩ := q
      exact ⟨v, h3, rp_butc bc c h4⟩
    | own xs => cases c
    | st => exact q
    | raw v => exact q
    | exc a d fl => cases c
  · obtain ⟨f1, f2⟩ := r.fr a o h
    exact ⟨by rw [delS_out (inL f2)]; exact f1, f2⟩
  · obtain ⟨o, q⟩ := r.tr a h
    exact ⟨o, by rw [delS_out (inL h)]; exact q⟩
  · obtain ⟨A, a1, a2, a3⟩ := r.m p hp
    exact ⟨A, M.loc (fun a ha o q => by rw [delS_out (inL (a2 a ha).1)]; exact q) a1, a2, fun i xs l h => absurd h noOwn⟩
  · obtain ⟨t1, t2, ps, t3, t4, t5⟩ := r.tb t ht
    refine ⟨t1, t2, ps, by rw [delS_out (inL t2)]; exact t3, t4, fun pos cv hcv => ?_⟩
    obtain ⟨c, oc, vs, tk, e1, e2, e3, e4⟩ := t5 pos cv hcv
    refine ⟨c, oc, vs, tk, e1, bc _ _ e2 fun o x hx z => ?_, e3, e4⟩
    unfold CeO at z
    cases z
    rw [e3] at hx
    cases hx
theorem keepF_add (r : R K M P F L ρ σ H) (hn : ∀ q ∈ S, H q.1 = none) : keepF ρ σ F (addS S H) = keepF ρ σ F H := by
  funext a
  by_cases ho : Own ρ σ a
  · rw [keepF_own ho, keepF_own ho]
    refine addS_out fun z => ?_
    obtain ⟨q, hq, rfl⟩ := List.mem_map.mp z
    obtain ⟨i, xs, h1, h2⟩ := ho
    obtain ⟨l, u, g1, _, g3, _⟩ := r.getOwn h1
    rw [h2] at g1
    cases g1
    rw [hn q hq] at g3
    cases g3
  · rw [keepF_not ho, keepF_not ho]
theorem ex_add (hn : ∀ q ∈ S, H q.1 = none) : Ex H (addS S H) := fun a o h => by
  rw [addS_out fun z => ?_]
  · exact h
  · obtain ⟨q, hq, rfl⟩ := List.mem_map.mp z
    rw [hn q hq] at h
    cases h
/-- without slots -/
theorem R.noSl (r : R K M P F L ρ σ H) : R K M P F L ⟨[], ρ.n⟩ [] H :=
  ⟨rfl, fun i s o h => by simp at h, r.fr, r.tr, fun i j xs ys l _ h => by simp at h, fun i xs l h => by simp at h, fun p hp => let ⟨A, a1, a2, _⟩ := r.m p hp; ⟨A, a1, a2, fun i xs l h => by simp at h⟩, r.tb⟩
/-- behind a loan: the caller's slots again -/
theorem R.repay {ρc : Rho} {σc : L2.St} (r : R K M P F L ρ σ H) (nd : (S.map (·.1)).Nodup) (hS : CeM κ S) (hn : ∀ q ∈ S, H q.1 = none) (hL : ∀ q ∈ S, q.1 ∉ L) (r' : R K M P (keepF ρ σ F (addS S H)) L2' ρc σc H2) (hk : ∀ q ∈ S, H2 q.1 = some q.2) (e : Ex (hide L (addS S H)) (hide L2' H2)) :
    Ex (hide L H) (hide L2' (delS S H2)) ∧ R K M P F L2' ⟨ρ.sl, ρc.n⟩ σ (delS S H2) ∧ ButC κ (hide L2' H2) (hide L2' (delS S H2)) := by
  have out : ∀ {a : Addr} {u : HO}, H a = some u → a ∉ S.map (·.1) := fun {a u} h z => by
    obtain ⟨q, hq, rfl⟩ := List.mem_map.mp z
    rw [hn q hq] at h
    cases h
  have see : ∀ q ∈ S, q.1 ∉ L2' := fun q hq => (hide_some.mp (e q.1 q.2 (hide_some.mpr ⟨hL q hq, addS_in nd hq⟩))).1
  have e2 : Ex (hide L H) (hide L2' (delS S H2)) := fun a u h => by
    obtain ⟨h1, h2⟩ := hide_some.mp h
    obtain ⟨g1, g2⟩ := hide_some.mp (e a u (hide_some.mpr ⟨h1, by rw [addS_out (out h2)]; exact h2⟩))
    exact hide_some.mpr ⟨g1, by rw [delS_out (out h2)]; exact g2⟩
  rw [keepF_add r hn] at r'
  have r2 := r'.noSl.del (κ := κ) hS (fun q hq => ⟨hk q hq, see q hq⟩) rfl
  have r3 : R K M P F L2' ⟨ρ.sl, ρc.n⟩ σ (delS S H2) := r.back (ρc := ⟨[], ρc.n⟩) r2 e2
  exact ⟨e2, r3, butc_del hS hk⟩
end
end PD
namespace PD
open PySem L2 PyProof.Rows PySem.Spec
open Evl (Ex)
def fLam (nN : Nat) (fe : FE) : FE := fun ρ k => fe ⟨ρ.sl ++ List.replicate (nN - ρ.sl.length) .no, ρ.n⟩ fun d ρ' => k d ⟨ρ.sl, ρ'.n⟩
def fLamX (nN : Nat) (fx : FX) : FX := fun ρ k => fx ⟨ρ.sl ++ List.replicate (nN - ρ.sl.length) .no, ρ.n⟩ fun c fl ρ' => k c fl ⟨ρ.sl, ρ'.n⟩
section
variable {P : Program} {w : World} {K : PySem.W.Frag} {mg : Str → Option Value} {base : Heap} {k : Nat} {path : List Nat} {M : Mk0}
theorem lamX {N ps : List Str} {params : Arguments} {body : Expr} {scope : Scope} {lpos : Pos} {fe : FE} {fx : FX} (hL : lamAt P path = some (.Lambda params body scope lpos)) (S : NdefX.NScope N ps (frees scope) scope)
    (hb : ∀ (q : Str) (cl : List (Str × Addr)) (pm ctv : Value) (c : Addr) (us : List Value), us.length = ps.length → bindArgs (PySem.W.kla_fn "<lambda>" q params body scope cl pm (.ref c) ctv) ⟨us, []⟩ = pure (ps.zip us))
    (hbody : ∀ (X : Cx) (C : CloF) (A : Around) (outer : List Env) (s : Shared) (H : Hp) (f : Addr) (E : XK), X = NdefX.ncx (L2.CX P w) P w K mg base N C.nf f A outer s H E → C.scope = scope → A.guards = some [] → Room k (A.deeper (NdefX.envF C.nf f s.heap.objs.size)) →
      Takes X (fun c d _ H' => E c d H') → PassesOwn (model P w) X.A X.env X.xe → PD X M body fe ∧ PX X M (fun c d _ H' => E c d H') body fx) :
    LamG P w K mg base (k + 1) path ps.length (spX ⟨K, w, P⟩ M (ps.length + (frees scope).length) (fLam N.length fe) (fLamX N.length fx)) := by
  refine lamG_of hL S hb fun C A outer s H f vs Q E hsc hg hr hl ⟨P', F', L, ρ, r, hbr, hln, hw⟩ => ?_
  obtain ⟨B, Bx⟩ := hbody _ C A outer s H f E rfl hsc hg hr (takes_of rfl rfl rfl rfl) (passes_of rfl)
  refine ⟨_, pe_or B.pe Bx.pe, ?_⟩
  rcases hw with hw | hw
  · exact .inl ⟨P', F', L, _, r.start hbr N, B.mono _ _ _ (fun d ρ' q v L' H' e' r' d' => q v L' H' e' (r.swap hbr r' e') d') hw⟩
  · exact .inr ⟨P', F', L, _, r.start hbr N, Bx.mono _ _ _ (fun c fl ρ' q σ' L' H' d e' r' x => q L' H' d e' (r.swap hbr r' e') x) hw⟩
end
/-- what the callers of lambdas know of one: where it stands, how many arguments, with what it captured; its value, what it raises -/
structure LReg where
  path : List Nat
  nP : Nat
  n : Nat
  V : FE
  U : FX
structure LReg.Mono (r : LReg) : Prop where
  v : ∀ ρ k k', (∀ d ρ', k d ρ' → k' d ρ') → r.V ρ k → r.V ρ k'
  u : ∀ ρ k k', (∀ c fl ρ', k c fl ρ' → k' c fl ρ') → r.U ρ k → r.U ρ k'
def LamsG (P : Program) (w : World) (K : PySem.W.Frag) (mg : Str → Option Value) (base : Heap) (k : Nat) (M : Mk0) (Reg : List LReg) : Prop := ∀ r ∈ Reg, r.Mono ∧ LamG P w K mg base k r.path r.nP (spX ⟨K, w, P⟩ M r.n r.V r.U)
theorem LamsG.mono {P : Program} {w : World} {K : PySem.W.Frag} {mg : Str → Option Value} {base : Heap} {j k : Nat} {M : Mk0} {Reg : List LReg} (G : LamsG P w K mg base j M Reg) (h : j ≤ k) : LamsG P w K mg base k M Reg := fun r hr => ⟨(G r hr).1, (G r hr).2.mono h⟩
theorem path_inj : ∀ {a b : List Nat}, a.map (fun n => PyData.int (n : Nat)) = b.map (fun n => PyData.int (n : Nat)) → a = b
  | [], [], _ => rfl
  | [], _ :: _, h => by cases h
  | _ :: _, [], h => by cases h
  | x :: a, y :: b, h => by
    rw [List.map_cons, List.map_cons] at h
    injection h with h1 h2
    injection h1 with h1
    rw [Int.ofNat.inj h1, path_inj h2]
theorem rp_clo {K : Fr0} {H : Hp} {v : V} {path : List Nat} {ds : List D} (h : Rp K H v (cloD path ds)) : ∃ (a : Addr) (C : CloF) (vs : List V), v = .ref a ∧ CloOk K.p path C vs ∧ H a = some (ExO a C.obj) ∧ H C.c = some (CeO 0 C.oc) ∧ (∀ q ∈ C.cells (path.headD 0), H q.1 = some q.2) ∧ RpAll K H vs ds := by
  generalize hd : cloD path ds = d at h
  cases h with
  | dct h1 h2 =>
    cases h2 with
    | nil => cases hd
    | @cons k _ _ _ _ _ h3 _ _ =>
      cases hd
      cases k <;> cases h3
  | dctN h1 h2 =>
    cases h2 with
    | nil => cases hd
    | cons h3 _ _ _ _ => cases hd; simp [keyN] at h3
  | obj h1 h2 =>
    cases hd
  | @clo a path' C vs ds' h0 h1 h2 h3 h4 =>
    have e1 : path.map (fun n => PyData.int (n : Nat)) = path'.map (fun n => PyData.int (n : Nat)) := by
      injection hd with hd
      injection hd with hd1 hd2
      injection hd1 with _ hd1
      injection hd1
    have e2 : ds = ds' := by
      injection hd with hd
      injection hd with hd1 hd2
      injection hd2 with hd2 _
      injection hd2 with _ hd2
      injection hd2
    have e3 : path = path' := path_inj e1
    subst e2 e3
    exact ⟨a, C, vs, rfl, h0, h1, h2, h3, h4⟩
  | non => cases hd
  | bl _ => cases hd
  | int _ => cases hd
  | str _ => cases hd
  | lst _ _ => cases hd
  | tup _ _ => cases hd
theorem cells_nd {P : Program} {path : List Nat} {C : CloF} {vs : List V} {κ : Nat} (h : CloOk P path C vs) : ((C.cells κ).map (·.1)).Nodup := by
  have e : (C.cells κ).map (·.1) = C.cl.map (·.2) := by
    apply List.ext_getElem?
    intro i
    unfold CloF.cells
    rw [List.getElem?_map, List.getElem?_map, List.getElem?_zipWith]
    cases e1 : C.cl[i]? with
    | none => rfl
    | some x =>
      have hi := (List.getElem?_eq_some_iff.mp e1).1
      rw [List.getElem?_eq_getElem (show i < C.os.length by rw [h.los]; exact hi)]
      rfl
  rw [e]
  exact h.inj
theorem cells_m {P : Program} {path : List Nat} {C : CloF} {vs : List V} {κ : Nat} (h : CloOk P path C vs) : CeM κ (C.cells κ) := fun q hq => by
  obtain ⟨i, x, o, e1, e2, rfl⟩ := cells_mem hq
  have hi := (List.getElem?_eq_some_iff.mp e1).1
  obtain ⟨u, _, hd⟩ := h.cell i o _ e2 (List.getElem?_eq_getElem (show i < vs.length by rw [h.lvs]; exact hi))
  exact ⟨o, some u, rfl, hd⟩
theorem env0_del {P : Program} {w : World} {K : PySem.W.Frag} {mg : Str → Option Value} {base : Heap} {A : Around} {outer : List Env} {s : Shared} {H : Hp} {S : List (Addr × HO)} (e : Env0 P w K mg base A outer s H) (hc : ∀ q ∈ S, ∃ (k : Nat) (o : Obj), q.2 = CeO k o) (hH : ∀ q ∈ S, H q.1 = some q.2) : Env0 P w K mg base A outer s (delS S H) := by
  have z : ∀ b, H b = none → delS S H b = none := fun b h => by
    unfold delS
    split
    · rfl
    · exact h
  exact ⟨e.frames, e.mod, fun b o h => ⟨(e.bs b o h).1, z b (e.bs b o h).2⟩, e.bsz, e.funs, fun b h => z b (e.frf b h), hok_del hc hH e.hok, e.bare⟩
section
variable {X : Cx} {M : Mk0} {i k : Nat} {Reg : List LReg} {x : Str} {p pos : Pos} {es : List Expr} {fa : FA} {W : WX}
/-- the call itself: cells aside, the lambda's promise, cells back -/
theorem run_clo {pins : List (Addr × Obj)} {σ : L2.St} {H : Hp} {s : Shared} {Q : VK} {E : XK} {us : List Value} {vs : List V} {f : Addr} {κ : Nat} {C : CloF} {cvs : List V} {path : List Nat} {nP : Nat} {sp : Sp} (G : LamG X.prog X.w X.K X.mg X.base k path nP sp) (hgd : X.A.guards = some []) (hr : Room k X.A)
    (hx : PassesAt (L2.CX X.prog X.w) X σ E) (I : Inv X pins σ H s) (r : Vals vs us) (hl : vs.length = nP) (h0 : CloOk X.prog path C cvs) (h1 : H f = some (ExO f C.obj)) (h2 : H C.c = some (CeO 0 C.oc)) (h3 : ∀ q ∈ C.cells κ, H q.1 = some q.2)
    (h : sp (vs ++ cvs) (delS (C.cells κ) H) (fun v H' => (∀ q ∈ C.cells κ, H' q.1 = none) → Q v (addS (C.cells κ) H')) (fun c d H' => (∀ q ∈ C.cells κ, H' q.1 = none) → E c d (addS (C.cells κ) H'))) : wpAny (model X.prog X.w) X.A (call (.ref f) us) (EP X pins σ Q) X.xe s := by
  have hcm : ∀ q ∈ C.cells κ, ∃ (k : Nat) (o : Obj), q.2 = CeO k o := fun q hq => let ⟨o, _, e, _⟩ := cells_m h0 q hq; ⟨κ, o, e⟩
  have hce : CeS (C.cells κ) s.heap := fun q hq => by
    obtain ⟨o, _, e, _⟩ := cells_m h0 q hq
    have g : ObjOk X.prog X.w H s.heap q.1 q.2 := I.hok q.1 _ (h3 q hq)
    rw [e] at g
    exact ⟨κ, o, e, g.1⟩
  have gf : s.heap.get? f = some C.obj := (show ObjOk X.prog X.w H s.heap f (ExO f C.obj) from I.hok f _ h1).1
  have gc : s.heap.CodeRec (.ref C.c) C.q := by
    obtain ⟨vs', t, e1, e2⟩ := h0.code
    have g : ObjOk X.prog X.w H s.heap C.c (CeO 0 C.oc) := I.hok C.c _ h2
    exact ⟨C.c, C.oc, vs', t, rfl, g.1, e1, e2⟩
  refine wpAny_call (codeAny_mono (G.go X.A X.stack s (delS (C.cells κ) H) f C us vs cvs _ _ hgd hr (env0_del I.env0 hcm h3) gf gc h0 (fun i y o e1 e2 => ?_) r hl h) fun res sB hq => ?_)
  · have hm : (y.2, CeO κ o) ∈ C.cells κ := by
      unfold CloF.cells
      refine List.mem_iff_getElem?.mpr ⟨i, ?_⟩
      rw [List.getElem?_zipWith, e1, e2]
    have g : ObjOk X.prog X.w H s.heap y.2 (CeO κ o) := I.hok y.2 _ (h3 _ hm)
    exact ⟨g.1, delS_in (List.mem_map.mpr ⟨_, hm, rfl⟩)⟩
  · have hq := unlend_end (cells_nd h0) hce h3 I.env0.frf hq
    cases res with
    | error ex => exact hx pins H s ex sB I hq
    | ok fl =>
      cases fl with
      | ret u => exact I.after hq
      | next => exact hq.elim
      | brk => exact hq.elim
      | cont => exact hq.elim
/-- what a lambda is handed -/
theorem clo_R {K : Fr0} {P : Option Addr} {F : Hp} {L : List Addr} {ρ : Rho} {σ : L2.St} {H : Hp} {ss : List Sl} {vs cvs : List V} {ds : List D} {C : CloF} {κ : Nat} {path : List Nat} {pr : Program} (r1 : R K M P F L ρ σ H) (h0 : CloOk pr path C cvs) (h3 : ∀ q ∈ C.cells κ, hide L H q.1 = some q.2) (hd : RpAll K (hide L H) cvs ds)
    (hl : vs.length = ss.length) (hs : ∀ (i : Nat) (s : Sl) (v : V), ss[i]? = some s → vs[i]? = some v → SlOk K P L H s (some v)) (hok : (ss ++ ds.map Sl.d).all (okC κ) = true) :
    Bare ⟨ss ++ ds.map Sl.d, ρ.n⟩ ∧ R K M P (keepF ρ σ F H) L ⟨ss ++ ds.map Sl.d, ρ.n⟩ ((vs ++ cvs).map some) (delS (C.cells κ) H) := by
  have bare : Bare ⟨ss ++ ds.map Sl.d, ρ.n⟩ := fun i xs h => by
    have := List.all_eq_true.mp hok _ (List.mem_of_getElem? h)
    cases this
  have ld := dpa_len hd
  have r2 : R K M P (keepF ρ σ F H) L ⟨ss ++ ds.map Sl.d, ρ.n⟩ ((vs ++ cvs).map some) H := r1.frame bare rfl (by simp [hl, ld]) fun i s o g1 g2 => by
    have g1 : (ss ++ ds.map Sl.d)[i]? = some s := g1
    rw [List.getElem?_map] at g2
    by_cases hi : i < ss.length
    · rw [List.getElem?_append_left hi] at g1
      rw [List.getElem?_append_left (by omega)] at g2
      cases ev : vs[i]? with
      | none => rw [ev] at g2; cases g2
      | some v =>
        rw [ev] at g2
        cases g2
        exact hs i s v g1 ev
    · rw [List.getElem?_append_right (by omega)] at g1
      rw [List.getElem?_append_right (by omega)] at g2
      cases ev : cvs[i - vs.length]? with
      | none => rw [ev] at g2; cases g2
      | some v =>
        rw [ev] at g2
        cases g2
        rw [← hl] at g1
        exact slots_d hd _ s v g1 ev
  exact ⟨bare, r2.del (cells_m h0) (fun q hq => ⟨(hide_some.mp (h3 q hq)).2, (hide_some.mp (h3 q hq)).1⟩) hok⟩
end
/-- cells come back -/
theorem R.cellsBack {K : Fr0} {P : Option Addr} {F : Hp} {L LL : List Addr} {ρ ρc : Rho} {σ σc : L2.St} {H H2 : Hp} {S : List (Addr × HO)} (r1 : R K M P F L ρ σ H) (nd : (S.map (·.1)).Nodup) (h3 : ∀ q ∈ S, hide L H q.1 = some q.2) (hn : ∀ q ∈ S, H2 q.1 = none) (e : Ex (hide L (delS S H)) (hide LL H2)) (r2 : R K M P (keepF ρ σ F H) LL ρc σc H2) :
    Ex (hide L H) (hide LL (addS S H2)) ∧ R K M P F LL ⟨ρ.sl, ρc.n⟩ σ (addS S H2) ∧ Ex (hide LL H2) (hide LL (addS S H2)) := by
  have x2 : Ex H2 (addS S H2) := ex_add hn
  have e2 : Ex (hide L H) (hide LL (addS S H2)) := fun a u h => by
    obtain ⟨h1, h2⟩ := hide_some.mp h
    by_cases ha : a ∈ S.map (·.1)
    · obtain ⟨q, hq, rfl⟩ := List.mem_map.mp ha
      rw [h3 q hq] at h
      cases h
      refine hide_some.mpr ⟨fun z => ?_, addS_in nd hq⟩
      obtain ⟨o, g⟩ := r2.tr q.1 z
      rw [hn q hq] at g
      cases g
    · obtain ⟨g1, g2⟩ := hide_some.mp (e a u (hide_some.mpr ⟨h1, by rw [delS_out ha]; exact h2⟩))
      exact hide_some.mpr ⟨g1, by rw [addS_out ha]; exact g2⟩
  exact ⟨e2, r1.back (r2.ex x2) e2, hide_ex x2⟩
section
variable {X : Cx} {M : Mk0} {i k : Nat} {Reg : List LReg} {x : Str} {p pos : Pos} {e : Expr} {es : List Expr} {fa : FA} {W : WX} {t : TA}
/-- what is asked of a call of a lambda that stands in a slot -/
def tClo (X : Cx) (i k : Nat) (W : WX) (t : TA) : TE := fun σ H Q => (∃ (f : Addr) (C : CloF), σ[i]? = some (some (.ref f)) ∧ H f = some (ExO f C.obj)) ∧ t σ H fun vs H1 => ∃ (f : Addr) (C : CloF) (cvs : List V) (κ : Nat) (path : List Nat) (nP : Nat) (sp : Sp), σ[i]? = some (some (.ref f)) ∧ LamG X.prog X.w X.K X.mg X.base k path nP sp ∧ vs.length = nP ∧
  CloOk X.prog path C cvs ∧ H1 f = some (ExO f C.obj) ∧ H1 C.c = some (CeO 0 C.oc) ∧ (∀ q ∈ C.cells κ, H1 q.1 = some q.2) ∧
  sp (vs ++ cvs) (delS (C.cells κ) H1) (fun v H' => (∀ q ∈ C.cells κ, H' q.1 = none) → Q v (addS (C.cells κ) H')) (fun c d H' => (∀ q ∈ C.cells κ, H' q.1 = none) → WE W σ c d (addS (C.cells κ) H'))
theorem fnAt_clo {pins : List (Addr × Obj)} {σ : L2.St} {H : Hp} {s : Shared} (I : Inv X pins σ H s) {f : Addr} {C : CloF} (h : H f = some (ExO f C.obj)) : PySem.W.FnAt f s.heap := by
  have g : s.heap.get? f = some C.obj := (show ObjOk X.prog X.w H s.heap f (ExO f C.obj) from I.hok f _ h).1
  exact ⟨_, _, _, _, g⟩
theorem pe_clo0 (tk : Takes X W) (hgd : X.A.guards = some []) (hr : Room k X.A) (hx : PE X (.Name x p) (tVar i)) : PE X (.Call (.Name x p) [] [] pos) (tClo X i k W tNil) := by
  constructor
  intro pins s σ H Q I hw
  obtain ⟨⟨f, C, h1, h2⟩, hw⟩ := hw
  refine wpAny_Call_Name_kw (thn (hx.run pins s σ H (fun v H1 => v = .ref f ∧ H1 = H) I ⟨.ref f, h1, rfl, rfl⟩) fun u s1 ⟨v, H1, I1, r1, e1, e2⟩ => ?_)
  subst e1 e2
  obtain rfl : u = Value.ref f := r1
  obtain ⟨f', C', cvs, κ, path, nP, sp, g1, G, g2, g3, g4, g5, g6, g7⟩ := hw
  rw [h1] at g1
  cases g1
  exact PySem.W.callWith_F0 (fnAt_clo I1 h2) (run_clo (us := []) G hgd hr (passAt tk σ) I1 .nil g2 g3 g4 g5 g6 g7)
def ft0 (i : Nat) (ρ : Rho) : Prop := ∃ path ds, ρ.sl[i]? = some (.d (cloD path ds))
/-- the data's reading of the call, in the heap's words -/
theorem dClo {σ : L2.St} {H : Hp} {Q : VK} (GL : LamsG X.prog X.w X.K X.mg X.base k M Reg) (ta : TA) (hda : ∀ σ H Q, DA X.k0 M fa σ H Q → ta σ H Q) (ma : ∀ ρ k k', (∀ d ρ', k d ρ' → k' d ρ') → fa ρ k → fa ρ k')
    (h : ∃ P F L ρ, R X.k0 M P F L ρ σ H ∧ ft0 i ρ ∧ fa ρ fun ss ρ1 => ∃ ds, ∃ r ∈ Reg, ρ1.sl[i]? = some (.d (cloD r.path ds)) ∧ ss.length = r.nP ∧ ss.length + ds.length = r.n ∧ (ss ++ ds.map Sl.d).all (okC (r.path.headD 0)) = true ∧
      (r.V ⟨ss ++ ds.map Sl.d, ρ1.n⟩ (fun d ρ2 => KV' X.k0 M P F L σ H Q d ⟨ρ1.sl, ρ2.n⟩) ∨ r.U ⟨ss ++ ds.map Sl.d, ρ1.n⟩ (fun c fl ρ2 => KX X.k0 M P F L H W c fl ⟨ρ1.sl, ρ2.n⟩))) :
    tClo X i k W ta σ H Q := by
  obtain ⟨P, F, L, ρ, r, ⟨path0, ds0, h0⟩, q⟩ := h
  obtain ⟨v0, g0, d0⟩ := r.get h0
  obtain ⟨f, C, cvs, rfl, _, hf, _, _, _⟩ := rp_clo d0
  refine ⟨⟨f, C, g0, (hide_some.mp hf).2⟩, hda σ H _ ⟨P, F, L, ρ, r, ma _ _ _ (fun ss ρ1 q vs L1 H1 e1 r1 hl hs hbare => ?_) q⟩⟩
  obtain ⟨ds, rg, hrg, h1, h2, h2', h3, q⟩ := q
  obtain ⟨v1, g1, d1⟩ := r1.get h1
  rw [g0] at g1
  cases g1
  obtain ⟨f', C', cvs', ef, c0, c1, c2, c3, c4⟩ := rp_clo d1
  cases ef
  obtain ⟨mo, G⟩ := GL rg hrg
  refine ⟨f, C', cvs', rg.path.headD 0, rg.path, rg.nP, _, g0, G, by rw [hl]; exact h2, c0, (hide_some.mp c1).2, (hide_some.mp c2).2, fun q hq => (hide_some.mp (c3 q hq)).2, ?_⟩
  obtain ⟨bare, rc⟩ := clo_R r1 c0 c3 c4 hl hs h3
  refine ⟨P, _, L1, _, rc, bare, by simp [h2'], ?_⟩
  rcases q with q | q
  · refine .inl (mo.v _ _ _ (fun d ρ2 q2 v L2 H2 e2 r3 d2 hn => ?_) q)
    obtain ⟨x1, x2, x3⟩ := r1.cellsBack (cells_nd c0) c3 hn e2 r3
    exact q2 v L2 _ (e1.trans x1) x2 (dp_ex x3 _ _ d2)
  · refine .inr (mo.u _ _ _ (fun c fl ρ2 q2 L2 H2 d e2 r3 xa hn => ?_) q)
    obtain ⟨x1, x2, x3⟩ := r1.cellsBack (cells_nd c0) c3 hn e2 r3
    exact q2 σ L2 _ d (e1.trans x1) x2 (xa.up x3)
/-- x(..), x holds a lambda as data -/
def fCallV (i : Nat) (Reg : List LReg) (fa : FA) : FE := fun ρ k => ft0 i ρ ∧ fa ρ fun ss ρ1 => ∃ ds, ∃ r ∈ Reg, ρ1.sl[i]? = some (.d (cloD r.path ds)) ∧ ss.length = r.nP ∧ ss.length + ds.length = r.n ∧ (ss ++ ds.map Sl.d).all (okC (r.path.headD 0)) = true ∧ r.V ⟨ss ++ ds.map Sl.d, ρ1.n⟩ fun d ρ2 => k d ⟨ρ1.sl, ρ2.n⟩
def fxCallV (i : Nat) (Reg : List LReg) (fa : FA) : FX := fun ρ k => ft0 i ρ ∧ fa ρ fun ss ρ1 => ∃ ds, ∃ r ∈ Reg, ρ1.sl[i]? = some (.d (cloD r.path ds)) ∧ ss.length = r.nP ∧ ss.length + ds.length = r.n ∧ (ss ++ ds.map Sl.d).all (okC (r.path.headD 0)) = true ∧ r.U ⟨ss ++ ds.map Sl.d, ρ1.n⟩ fun c fl ρ2 => k c fl ⟨ρ1.sl, ρ2.n⟩
theorem fCallV_mono (GL : LamsG X.prog X.w X.K X.mg X.base k M Reg) (ma : ∀ ρ k k', (∀ d ρ', k d ρ' → k' d ρ') → fa ρ k → fa ρ k') (ρ : Rho) (q q' : KD) (g : ∀ d ρ', q d ρ' → q' d ρ') (h : fCallV i Reg fa ρ q) : fCallV i Reg fa ρ q' :=
  ⟨h.1, ma _ _ _ (fun ss ρ1 ⟨ds, r, hr, h1, h2, h3, h4, z⟩ => ⟨ds, r, hr, h1, h2, h3, h4, (GL r hr).1.v _ _ _ (fun d ρ2 y => g _ _ y) z⟩) h.2⟩
theorem fxCallV_mono (GL : LamsG X.prog X.w X.K X.mg X.base k M Reg) (ma : ∀ ρ k k', (∀ d ρ', k d ρ' → k' d ρ') → fa ρ k → fa ρ k') (ρ : Rho) (q q' : XC) (g : ∀ c fl ρ', q c fl ρ' → q' c fl ρ') (h : fxCallV i Reg fa ρ q) : fxCallV i Reg fa ρ q' :=
  ⟨h.1, ma _ _ _ (fun ss ρ1 ⟨ds, r, hr, h1, h2, h3, h4, z⟩ => ⟨ds, r, hr, h1, h2, h3, h4, (GL r hr).1.u _ _ _ (fun c fl ρ2 y => g _ _ _ y) z⟩) h.2⟩
theorem faNil_mono (ρ : Rho) (q q' : List Sl → Rho → Prop) (g : ∀ d ρ', q d ρ' → q' d ρ') (h : faNil ρ q) : faNil ρ q' := g _ _ h
theorem da_nil (σ : L2.St) (H : Hp) (Q : List V → Hp → Prop) (h : DA X.k0 M faNil σ H Q) : tNil σ H Q := by
  obtain ⟨P, F, L, ρ, r, q⟩ := h
  exact q [] L H (Ex.refl _) r rfl (by simp) (by simp)
theorem pd_callV0 (GL : LamsG X.prog X.w X.K X.mg X.base k M Reg) (hgd : X.A.guards = some []) (hr : Room k X.A) (hx : PE X (.Name x p) (tVar i)) : PD X M (.Call (.Name x p) [] [] pos) (fCallV i Reg faNil) :=
  ⟨PE.wk (pe_clo0 takes_none5 hgd hr hx) fun σ H Q ⟨P, F, L, ρ, r, h0, q⟩ => dClo (fa := faNil) GL _ da_nil faNil_mono ⟨P, F, L, ρ, r, h0, faNil_mono _ _ _ (fun ss ρ1 ⟨ds, rg, hrg, h1, h2, h3, h4, z⟩ => ⟨ds, rg, hrg, h1, h2, h3, h4, .inl z⟩) q⟩, fCallV_mono GL faNil_mono⟩
theorem px_callV0 (tk : Takes X W) (GL : LamsG X.prog X.w X.K X.mg X.base k M Reg) (hgd : X.A.guards = some []) (hr : Room k X.A) (hx : PE X (.Name x p) (tVar i)) : PX X M W (.Call (.Name x p) [] [] pos) (fxCallV i Reg faNil) :=
  ⟨PE.wk (pe_clo0 tk hgd hr hx) fun σ H Q ⟨P, F, L, ρ, r, h0, q⟩ => dClo (fa := faNil) GL _ da_nil faNil_mono ⟨P, F, L, ρ, r, h0, faNil_mono _ _ _ (fun ss ρ1 ⟨ds, rg, hrg, h1, h2, h3, h4, z⟩ => ⟨ds, rg, hrg, h1, h2, h3, h4, .inr z⟩) q⟩, fxCallV_mono GL faNil_mono⟩
end
end PD
namespace PD
open PySem L2 PyProof.Rows PySem.Spec
open Evl (Ex)
theorem upd_comm {H : Hp} {a b : Addr} {o u : HO} (n : a ≠ b) : upd (upd H a o) b u = upd (upd H b u) a o := by
  funext x
  unfold upd
  by_cases h1 : x = b
  · by_cases h2 : x = a
    · exact absurd (h2.symm.trans h1) n
    · rw [if_pos h1, if_neg h2, if_pos h1]
  · rw [if_neg h1]
    by_cases h2 : x = a
    · rw [if_pos h2, if_pos h2]
    · rw [if_neg h2, if_neg h2, if_neg h1]
section
variable {X : Cx} {pins : List (Addr × Obj)} {σ : L2.St} {H : Hp} {s : Shared}
/-- a thing told by what is true of it is told as itself -/
theorem inv_rekind {a : Addr} {φ : Heap → Prop} {u : HO} (I : Inv X pins σ H s) (ha : H a = some (.ext φ)) (new : ObjOk X.prog X.w (upd H a u) s.heap a u) : Inv X pins σ (upd H a u) s := by
  have ne : ∀ {b : Addr}, H b = none → b ≠ a := fun {b} h z => by rw [z, ha] at h; cases h
  have up : ∀ {b : Addr}, H b = none → upd H a u b = none := fun {b} h => by rw [upd_ne (ne h)]; exact h
  have nx : ∀ {b : Addr} {v : HO}, H b = some v → (∀ ψ, v ≠ .ext ψ) → upd H a u b = some v := fun {b v} h n => by
    rw [upd_ne fun z => n φ (by rw [z, ha] at h; exact (Option.some.inj h).symm)]
    exact h
  refine ⟨I.ok, I.os, I.bare, ⟨I.base.keep, I.base.slot, fun b o h1 h2 h3 => up (I.base.free b o h1 h2 h3), I.base.there, fun b xs h => nx (I.base.tups b xs h) (fun ψ z => nomatch z), fun b o v h => nx (I.base.frzs b o v h) (fun ψ z => nomatch z), fun b ps h => ?_⟩,
    I.loc, I.cell, up I.free, fun x c e => up (I.freeC x c e), fun p hp => let ⟨a1, a2, a3⟩ := I.pin p hp; ⟨a1, up a2, a3⟩, fun b o e => ?_, I.len⟩
  · obtain ⟨more, z⟩ := I.base.tbls b ps h
    exact ⟨more, nx z fun ψ z => by cases z⟩
  · by_cases hb : b = a
    · subst hb
      rw [upd_same] at e
      cases e
      exact new
    · rw [upd_ne hb] at e
      exact (I.hok b o e).stay (fun c v _ z => z) (fun c z => nx z fun ψ q => by cases q) fun c xs z => nx z fun ψ q => by cases q
end
section
variable {K : Fr0} {M : Mk0} {P : Option Addr} {F : Hp} {L : List Addr} {ρ : Rho} {σ : L2.St} {H : Hp}
/-- a table grows -/
theorem R.table (r : R K M P F L ρ σ H) {Pt : Addr} {ps ps' : Array Value} (hF : F Pt = none) (hL : Pt ∈ L) (hP : H Pt = some (.tbl ps)) (ht : TriplesOk ps'.toList)
    (hq : ∀ (pos : Pos) (cv : Value), codeAmong pos ps'.toList = some cv → ∃ (c : Addr) (oc : Obj) (vs : Array Value) (tk : Tok), cv = .ref c ∧ hide L H c = some (CeO 0 oc) ∧ oc.data = .fields vs ∧ vs[1]? = some (.str (M.nm pos.line pos.col) tk)) : R K M P F L ρ σ (upd H Pt (.tbl ps')) := by
  have hh := hide_repin (H := H) (o' := HO.tbl ps') hL
  refine ⟨r.len, fun i s o h1 h2 => ?_, fun a o h => ?_, fun a h => ?_, r.apart, r.ownF, fun p hp => ?_, fun t htt => ?_⟩
  · have q := r.sl i s o h1 h2
    cases s with
    | no => trivial
    | d x =>
      obtain ⟨v, h3, h4⟩ := q
      exact ⟨v, h3, by rw [hh]; exact h4⟩
    | own xs =>
      obtain ⟨l, u, g1, g2, g3, g4⟩ := q
      have : l ≠ Pt := fun z => r.notOwnT hP ⟨i, xs, h1, by rw [h2, g1, z]⟩
      exact ⟨l, u, g1, g2, by rw [upd_ne this]; exact g3, by rw [hh]; exact g4⟩
    | st => exact q
    | raw v => exact q
    | exc a d fl => exact ⟨q.1, by rw [hh]; exact q.2⟩
  · have q := r.fr a o h
    exact ⟨by rw [upd_ne fun z => by rw [z, hF] at h; cases h]; exact q.1, q.2⟩
  · by_cases e : a = Pt
    · exact ⟨_, by rw [e]; exact upd_same⟩
    · obtain ⟨o, q⟩ := r.tr a h
      exact ⟨o, by rw [upd_ne e]; exact q⟩
  · obtain ⟨A, a1, a2, a3⟩ := r.m p hp
    exact ⟨A, M.loc (fun a ha o q => by rw [upd_ne fun z => M.nt a1 a ha ps (by rw [z]; exact hP)]; exact q) a1, a2, a3⟩
  · by_cases e : t = Pt
    · refine ⟨by rw [e]; exact hF, by rw [e]; exact hL, ps', by rw [e]; exact upd_same, ht, fun pos cv hc => ?_⟩
      rw [hh]
      exact hq pos cv hc
    · obtain ⟨t1, t2, ps2, t3, t4, t5⟩ := r.tb t htt
      exact ⟨t1, t2, ps2, by rw [upd_ne e]; exact t3, t4, by rw [hh]; exact t5⟩
end
section
variable {X : Cx} {pins : List (Addr × Obj)} {σ : L2.St} {H : Hp} {s : Shared} {M : Mk0} {P : Option Addr} {F : Hp} {L : List Addr} {ρ : Rho}
theorem exo_ok {a : Addr} {o : Obj} {H : Hp} {h : Heap} (e : h.get? a = some o) : ObjOk X.prog X.w H h a (ExO a o) := ⟨e, ⟨o, e⟩, fun h1 h2 z st => st _ z⟩
theorem lam_newR {c Pt : Addr} {params : Arguments} {body : Expr} {scope : Scope} {pos : Pos} {E : Value → Shared → Prop} {Q : Value → Shared → Prop} (I : Inv X pins σ H s) (r : R X.k0 M P F L ρ σ H) (TB : LamX.TabB X.base X.mg c Pt) (hcode : X.env.code = .ref c)
    (hm : Pt ∈ M.T) (hu : M.nm pos.line pos.col = X.env.qual ++ "<lambda>") (hdef : defaultsOf params X.env = ([], [])) (hfree : ∀ y ∈ scope.names, y.2 = .free → ∃ c, X.env.cells.lookup y.1 = some c)
    (h : ∀ (f c' : Addr) (pm ctv : Value) (oc : Obj) (vs : Array Value) (t : Tok) (H1 : Hp) (s' : Shared), Inv X pins σ H1 s' → Ex (hide L H) (hide L H1) → R X.k0 M P F L ρ σ H1 → hide L H1 f = some (ExO f (PySem.W.kla_obj "<lambda>" (X.env.qual ++ "<lambda>") params body scope (cloFrom X.env.cells scope.names []) pm c' ctv)) →
      hide L H1 c' = some (CeO 0 oc) → oc.data = .fields vs → vs[1]? = some (.str (X.env.qual ++ "<lambda>") t) → Q (.ref f) s') : wpAny (model X.prog X.w) X.A (eval (.Lambda params body scope pos) X.env) Q E s := by
  obtain ⟨t1, t2, ps, hP, ht, ha⟩ := r.tb _ hm
  refine PySem.W.kla_eval hdef ?_
  have bP : s.heap.BuiltinsAt X.mg Pt := TB.bm.keeps I.bk
  have hP' : s.heap.get? Pt = some { cls := .none, data := .fields ps } := I.hok Pt _ hP
  cases hc : codeAmong pos ps.toList with
  | none =>
    refine PySem.W.kla_makeFunction (mg := X.mg) (c := c) (P := Pt) (ps := ps) (closure_ok hfree) I.ok.glob (I.mod.glob.keeps I.bk) hcode (TB.code.keeps I.bk) hP' ht hc TB.gP bP fun c' ctv h' tk hx hge hlt hrec htb => ?_
    obtain ⟨c2, oc, vs, t, e2, hoc, hd, hv⟩ := hrec
    cases e2
    have nC : H c' = none := I.hok.fresh hge
    have nPc : Pt ≠ c' := ne_of_none hP nC
    have I1 := LamX.inv_table (t' := tk) (more := #[rawInt pos.line, rawInt pos.col, .ref c']) (h' := h') I hP (fun b o hb e => hx b o hb e) htb hge ⟨oc, vs, t, hoc, hd, hv⟩
    have I2 := inv_rekind (u := CeO 0 oc) I1 (φ := _) (by rw [upd_same]; rfl) ⟨hoc, oc, hoc⟩
    rw [upd_upd] at I2
    have r1 := (r.laid (o := CeO 0 oc) nC).table (Pt := Pt) (ps := ps) (ps' := ps ++ #[rawInt pos.line, rawInt pos.col, .ref c']) t1 t2 (by rw [upd_ne nPc]; exact hP) (by
        have eL : (ps ++ #[rawInt pos.line, rawInt pos.col, .ref c']).toList = ps.toList ++ [rawInt pos.line, rawInt pos.col, .ref c'] := by simp
        rw [eL]
        exact PySem.TriplesOk_snoc _ _ _ _ ht) fun pos' cv hcv => by
      have eL : (ps ++ #[rawInt pos.line, rawInt pos.col, .ref c']).toList = ps.toList ++ [rawInt pos.line, rawInt pos.col, .ref c'] := by simp
      rw [eL] at hcv
      rcases NdefX.among_app2 _ ht hcv with z | ⟨z, z1, z2⟩
      · obtain ⟨c0, oc0, vs0, tk0, g1, g2, g3, g4⟩ := ha pos' cv z
        exact ⟨c0, oc0, vs0, tk0, g1, hide_ex (Ex.new nC) _ _ g2, g3, g4⟩
      · exact ⟨c', oc, vs, t, z, hide_new r.tr nC, hd, by rw [← z1, ← z2, hu]; exact hv⟩
    rw [upd_comm nPc.symm] at r1
    have ef : upd (upd H Pt (.tbl (ps ++ #[rawInt pos.line, rawInt pos.col, .ref c']))) c' (CeO 0 oc) h'.objs.size = none := I2.hok.fresh (Nat.le_refl _)
    have I3 := I2.laid (t' := tk) (a := h'.objs.size) (o := ExO h'.objs.size (PySem.W.kla_obj "<lambda>" (X.env.qual ++ "<lambda>") params body scope (cloFrom X.env.cells scope.names []) ((X.mg "__name__").getD .none) c' ctv)) (h' := h'.push (PySem.W.kla_obj "<lambda>" (X.env.qual ++ "<lambda>") params body scope (cloFrom X.env.cells scope.names []) ((X.mg "__name__").getD .none) c' ctv))
      (fun b u e => Heap.get?_push_of_some _ e) (Nat.le_refl _) (exo_ok (Heap.get?_push_size _ rfl))
    have e1 : Ex (hide L H) (hide L (upd (upd H Pt (.tbl (ps ++ #[rawInt pos.line, rawInt pos.col, .ref c']))) c' (CeO 0 oc))) := by
      rw [upd_comm nPc, hide_repin t2]
      exact hide_ex (Ex.new nC)
    refine h h'.objs.size c' _ ctv oc vs t _ _ I3 (e1.trans (hide_ex (Ex.new ef))) (r1.laid ef) (hide_new r1.tr ef) (hide_ex (Ex.new ef) _ _ ?_) hd hv
    rw [upd_comm nPc, hide_repin t2]
    exact hide_new r.tr nC
  | some cv =>
    obtain ⟨c', oc, vs, t, e, hco, hd, hv⟩ := ha pos cv hc
    subst e
    rw [hu] at hv
    refine PySem.W.kla_makeFunctionHit (mg := X.mg) (c := c) (P := Pt) (ps := ps) (closure_ok hfree) I.ok.glob (I.mod.glob.keeps I.bk) hcode (TB.code.keeps I.bk) hP' ht hc bP fun ctv h' tk hx hsz => ?_
    have I1 : Inv X pins σ H { s with heap := h', toks := tk } := I.kept hx
    have nF : H h'.objs.size = none := I1.hok.fresh (Nat.le_refl _)
    have I3 := I1.laid (t' := tk) (a := h'.objs.size) (o := ExO h'.objs.size (PySem.W.kla_obj "<lambda>" (X.env.qual ++ "<lambda>") params body scope (cloFrom X.env.cells scope.names []) ((X.mg "__name__").getD .none) c' ctv)) (h' := h'.push (PySem.W.kla_obj "<lambda>" (X.env.qual ++ "<lambda>") params body scope (cloFrom X.env.cells scope.names []) ((X.mg "__name__").getD .none) c' ctv))
      (fun b u e => Heap.get?_push_of_some _ e) (Nat.le_refl _) (exo_ok (Heap.get?_push_size _ rfl))
    exact h h'.objs.size c' _ ctv oc vs t _ _ I3 (hide_ex (Ex.new nF)) (r.laid nF) (hide_new r.tr nF) (hide_ex (Ex.new nF) _ _ hco) hd hv
end
end PD
namespace PD
open PySem L2 PyProof.Rows PySem.Spec
open Evl (Ex)
structure Hot (X : Cx) (path : List Nat) (scope : Scope) (G : Hp) (fa : Addr) (C : CloF) : Prop where
  here : ∃ lpos, lamAt X.prog path = some (.Lambda C.params C.body C.scope lpos)
  sc : C.scope = scope
  cl : C.cl = cloFrom X.env.cells C.scope.names []
  obj : G fa = some (ExO fa C.obj)
  cod : G C.c = some (CeO 0 C.oc)
  code : ∃ (vs : Array Value) (t : Tok), C.oc.data = .fields vs ∧ vs[1]? = some (.str C.q t)
theorem Hot.ex {X : Cx} {path : List Nat} {scope : Scope} {G G' : Hp} {fa : Addr} {C : CloF} (h : Hot X path scope G fa C) (e : Ex G G') : Hot X path scope G' fa C := ⟨h.here, h.sc, h.cl, e _ _ h.obj, e _ _ h.cod, h.code⟩
abbrev FH := Rho → (List D → List D → Rho → Prop) → Prop
def DH (X : Cx) (M : Mk0) (path : List Nat) (scope : Scope) (f : FH) : TA := fun σ H Q => ∃ P F L ρ, R X.k0 M P F L ρ σ H ∧ f ρ fun ds1 ds2 ρ' => ∀ (vs1 : List V) (fa : Addr) (C : CloF) (vs2 : List V) (L' : List Addr) (H' : Hp), Ex (hide L H) (hide L' H') → R X.k0 M P F L' ρ' σ H' →
  RpAll X.k0 (hide L' H') vs1 ds1 → RpAll X.k0 (hide L' H') vs2 ds2 → Hot X path scope (hide L' H') fa C → Q (vs1 ++ .ref fa :: vs2) H'
structure PDH (X : Cx) (M : Mk0) (path : List Nat) (scope : Scope) (es : List Expr) (f : FH) : Prop where
  pa : PA X es (DH X M path scope f)
  mono : ∀ ρ k k', (∀ d e ρ', k d e ρ' → k' d e ρ') → f ρ k → f ρ k'
def tLamR (X : Cx) (M : Mk0) (path : List Nat) (scope : Scope) : TE := fun σ H Q => ∃ P F L ρ, R X.k0 M P F L ρ σ H ∧ ∀ (fa : Addr) (C : CloF) (H' : Hp), Ex (hide L H) (hide L H') → R X.k0 M P F L ρ σ H' → Hot X path scope (hide L H') fa C → Q (.ref fa) H'
def LamOk (X : Cx) (scope : Scope) : Prop := ∀ y ∈ scope.names, y.2 = .free → X.env.scope.names.lookup y.1 = some .cell ∨ X.env.scope.names.lookup y.1 = some .free
section
variable {X : Cx} {M : Mk0} {path : List Nat} {scope : Scope} {params : Arguments} {body a : Expr} {lpos pos : Pos} {es : List Expr} {fl : FL} {fa : FE} {fh : FH}
theorem pe_lamR {c Pt : Addr} (hL : lamAt X.prog path = some (.Lambda params body scope lpos)) (TB : LamX.TabB X.base X.mg c Pt) (hcode : X.env.code = .ref c) (hm : Pt ∈ M.T) (hu : M.nm lpos.line lpos.col = X.env.qual ++ "<lambda>")
    (hfree : LamOk X scope) (hdef : defaultsOf params X.env = ([], []) := by rfl) : PE X (.Lambda params body scope lpos) (tLamR X M path scope) := by
  refine ⟨fun pins s σ H Q I ⟨P, F, L, ρ, r, q⟩ => ?_⟩
  refine lam_newR I r TB hcode hm hu hdef (fun y hy e => (hfree y hy e).elim (fun z => I.ok.has _ (.inl z)) fun z => I.ok.has _ (.inr z)) fun f c' pm ctv oc vs t H1 s' I1 e1 r1 g1 g2 g3 g4 => ?_
  exact ⟨.ref f, H1, I1, rfl, q f ⟨X.env.qual ++ "<lambda>", params, body, scope, pm, ctv, c', oc, cloFrom X.env.cells scope.names [], []⟩ H1 e1 r1 ⟨⟨lpos, hL⟩, rfl, rfl, g1, g2, vs, t, g3, g4⟩⟩
def fhHere (fl : FL) : FH := fun ρ k => fl ρ fun ds ρ1 => k [] ds ρ1
theorem pdh_here (h : PE X (.Lambda params body scope lpos) (tLamR X M path scope)) (hl : PDL X M es fl) (hs : starEach (.Lambda params body scope lpos :: es) X.env = (false, eval (.Lambda params body scope lpos) X.env) :: starEach es X.env := by rfl) : PDH X M path scope (.Lambda params body scope lpos :: es) (fhHere fl) := by
  refine ⟨PA.wk (pa_cons h hl.pa hs) fun σ H Q ⟨P, F, L, ρ, r, q⟩ => ?_, fun ρ k k' g q => hl.mono _ _ _ (fun ds ρ1 q => g _ _ _ q) q⟩
  refine ⟨P, F, L, ρ, r, fun fa C H1 e1 r1 hot => ?_⟩
  refine ⟨P, F, L, ρ, r1, hl.mono _ _ _ (fun ds ρ1 q vs L2 H2 e2 r2 d2 => ?_) q⟩
  exact q [] fa C vs L2 H2 (e1.trans e2) r2 .nil d2 (hot.ex e2)
end
/-- what is captured, by its slots -/
def capsD (sl : List Sl) : List Nat → Option (List D)
  | [] => some []
  | j :: js => match sl[j]? with
    | some (.d x) => (capsD sl js).map (x :: ·)
    | _ => none
theorem capsD_ok {K : Fr0} {M : Mk0} {P : Option Addr} {F : Hp} {L : List Addr} {ρ : Rho} {σ : L2.St} {H : Hp} (r : R K M P F L ρ σ H) : ∀ {js : List Nat} {cs : List D}, capsD ρ.sl js = some cs → ∃ vs, RpAll K (hide L H) vs cs ∧ js.map (fun j => σ[j]?) = vs.map fun v => some (some v)
  | [], _, h => by cases h; exact ⟨[], .nil, rfl⟩
  | j :: js, cs, h => by
    unfold capsD at h
    split at h
    · rename_i x hx
      cases e : capsD ρ.sl js with
      | none => rw [e] at h; cases h
      | some ds =>
        rw [e] at h
        cases h
        obtain ⟨vs, h1, h2⟩ := capsD_ok r e
        obtain ⟨v, g1, g2⟩ := r.get hx
        exact ⟨v :: vs, .cons g2 h1, by rw [List.map_cons, List.map_cons, h2, g1]⟩
    · cases h
theorem clo_names {cells : List (Str × Addr)} : ∀ (names : List (Str × NameKind)) (acc : List (Str × Addr)), (cloFrom cells names acc).map (·.1) = ((names.filter fun y => y.2 == .free).map (·.1)).reverse ++ acc.map (·.1)
  | [], acc => rfl
  | (n, k) :: r, acc => by
    unfold cloFrom
    by_cases h : (k == NameKind.free) = true
    · rw [if_pos h, clo_names r, List.filter_cons_of_pos (by exact h)]
      simp
    · rw [if_neg h, clo_names r, List.filter_cons_of_neg (by exact h)]
theorem cell_objs {s : Shared} : ∀ (l : List (Str × Addr)), (∀ x ∈ l, ∃ v, s.heap.IsCell x.2 v) → ∃ os : List Obj, os.length = l.length ∧ ∀ (i : Nat) (x : Str × Addr) (o : Obj), l[i]? = some x → os[i]? = some o → s.heap.get? x.2 = some o
  | [], _ => ⟨[], rfl, fun i x o h => by simp at h⟩
  | x :: l, h => by
    obtain ⟨os, h1, h2⟩ := cell_objs l fun y hy => h y (List.mem_cons_of_mem _ hy)
    obtain ⟨v, o, ho, _⟩ := h x List.mem_cons_self
    refine ⟨o :: os, by simp [h1], fun i y u e1 e2 => ?_⟩
    cases i with
    | zero => simp at e1 e2; subst e1 e2; exact ho
    | succ i => exact h2 i y u (by simpa using e1) (by simpa using e2)
theorem nodup_of_idx {α : Type} {l : List α} (h : ∀ (i j : Nat) (x : α), l[i]? = some x → l[j]? = some x → i = j) : l.Nodup := by
  unfold List.Nodup
  rw [List.pairwise_iff_getElem]
  intro i j hi hj hij e
  have := h i j l[i] (List.getElem?_eq_getElem hi) (by rw [e]; exact List.getElem?_eq_getElem hj)
  omega
section
variable {X : Cx} {M : Mk0} {pins : List (Addr × Obj)} {σ : L2.St} {H : Hp} {s : Shared} {path : List Nat} {scope : Scope} {js : List Nat}
theorem frees_mem {sc : Scope} {y : Str} (h : y ∈ frees sc) : (y, NameKind.free) ∈ sc.names := by
  unfold frees at h
  obtain ⟨⟨n, k⟩, h1, h2⟩ := List.mem_map.mp (List.mem_reverse.mp h)
  obtain ⟨h3, h4⟩ := List.mem_filter.mp h1
  simp only at h2 h4
  subst h2
  rwa [beq_iff_eq.mp h4] at h3
theorem hot_clo {L : List Addr} {P : Option Addr} {F : Hp} {ρ : Rho} {fa : Addr} {C : CloF} {cs : List D} (I : Inv X pins σ H s) (r : R X.k0 M P F L ρ σ H) (hot : Hot X path scope (hide L H) fa C) (hc : capsD ρ.sl js = some cs) (hfree : LamOk X scope) (hjs : js.map (fun j => X.N[j]?) = (frees scope).map some) (hnd : (frees scope).Nodup) (hfn : ∀ x, X.fn x = true) :
    ∃ (C' : CloF) (cvs : List V), C'.obj = C.obj ∧ C'.c = C.c ∧ C'.oc = C.oc ∧ CloOk X.prog path C' cvs ∧ RpAll X.k0 (hide L H) cvs cs ∧ (∀ q ∈ C'.cells (path.headD 0), (H q.1 = none ∧ q.1 ∉ frs X.stack ∧ X.base.get? q.1 = none) ∧ ∃ y, X.env.cells.lookup y = some q.1) ∧ CeS (C'.cells (path.headD 0)) s.heap := by
  obtain ⟨cvs, hv, ev⟩ := capsD_ok r hc
  have hsc := hot.sc
  have hcl := hot.cl
  rw [hsc] at hcl
  have caps := NdefX.Caps.made (X := X) (scope := scope) (fr := frees scope) (js := js) I.ok hfree (fun y hy => frees_mem hy) hjs
  have cz := NdefX.cells_of I caps
  rw [← hcl] at cz
  have nm : C.cl.map (·.1) = frees scope := by rw [hcl, clo_names]; simp [frees]
  have nd : (C.cl.map (·.1)).Nodup := by rw [nm]; exact hnd
  obtain ⟨os, l1, l2⟩ := cell_objs (s := s) C.cl fun x hx => by
    obtain ⟨i, hi⟩ := List.mem_iff_getElem?.mp hx
    exact (cz.all x.1 x.2 (cl_look nd hi)).2
  have lj : js.length = (frees scope).length := by
    have := congrArg List.length hjs
    simpa using this
  have lc : cvs.length = C.cl.length := by
    have := congrArg List.length ev
    rw [List.length_map, List.length_map] at this
    rw [← this, lj, ← nm, List.length_map]
  have wsv : ∀ {i : Nat} {v : V}, cvs[i]? = some v → (js.map (NdefX.slotAt σ))[i]? = some (some v) := fun {i v} h => by
    have e := congrArg (fun l => l[i]?) ev
    simp only [List.getElem?_map, h] at e
    cases ej : js[i]? with
    | none => rw [ej] at e; cases e
    | some j =>
      rw [ej] at e
      have e : some (σ[j]?) = some (some (some v)) := e
      rw [List.getElem?_map, ej]
      show some (NdefX.slotAt σ j) = _
      rw [NdefX.slotAt_of (Option.some.inj e)]
  refine ⟨{ C with os := os }, cvs, rfl, rfl, rfl, ⟨hot.here, hot.code, by show C.cl.map (·.1) = frees C.scope; rw [nm, hsc], nd, nodup_of_idx fun i j c h1 h2 => ?_, l1, lc, fun i o v h1 h2 => ?_⟩, hv, fun q hq => ?_, fun q hq => ?_⟩
  · have h1 : (C.cl.map (·.2))[i]? = some c := h1
    have h2 : (C.cl.map (·.2))[j]? = some c := h2
    rw [List.getElem?_map] at h1 h2
    cases e1 : C.cl[i]? with
    | none => rw [e1] at h1; cases h1
    | some x =>
      cases e2 : C.cl[j]? with
      | none => rw [e2] at h2; cases h2
      | some y =>
        rw [e1] at h1
        rw [e2] at h2
        have h1 : x.2 = c := Option.some.inj h1
        have h2 : y.2 = c := Option.some.inj h2
        have g1 := cl_look nd e1
        have g2 := cl_look nd e2
        rw [h1] at g1
        rw [h2] at g2
        have en := cz.inj _ _ c g1 g2
        have k1 : (C.cl.map (·.1))[i]? = some x.1 := by rw [List.getElem?_map, e1]; rfl
        have k2 : (C.cl.map (·.1))[j]? = some x.1 := by rw [List.getElem?_map, e2, en]; rfl
        exact nodup_idx nd k1 k2
  · have h1 : os[i]? = some o := h1
    have hi : i < C.cl.length := by rw [← l1]; exact (List.getElem?_eq_some_iff.mp h1).1
    have e1 : C.cl[i]? = some C.cl[i] := List.getElem?_eq_getElem hi
    have gy : (frees scope)[i]? = some C.cl[i].1 := by rw [← nm, List.getElem?_map, e1]; rfl
    obtain ⟨c, hc1, hc2⟩ := cz.has i _ gy
    rw [cl_look nd e1] at hc1
    cases hc1
    obtain ⟨u, ru, o2, g1, g2⟩ := hc2 v (wsv h2)
    rw [l2 i _ o e1 h1] at g1
    cases g1
    exact ⟨u, ru, g2⟩
  · obtain ⟨i, x, o, e1, e2, rfl⟩ := cells_mem hq
    have e1 : C.cl[i]? = some x := e1
    have lk := cl_look nd e1
    have hx := caps.sub _ _ (by rw [← hcl]; exact lk)
    have big := I.ok.cab _ _ (hfn _) hx
    refine ⟨⟨(cz.all _ _ lk).1, fun z => ?_, ?_⟩, _, hx⟩
    · have inO : x.2 ∉ X.fs := fun z => by
        obtain ⟨_, ob, hob, _⟩ := I.ok.funs.mem z
        exact absurd (Nat.lt_of_lt_of_le (Heap.lt_size hob) big) (Nat.lt_irrefl _)
      rcases I.ok.stk with e | ⟨e, ef⟩
      · rw [e] at z; exact inO z
      · rw [e] at z
        unfold frs at z
        rw [List.filterMap_cons, ef] at z
        rcases List.mem_cons.mp z with z | z
        · exact I.cne _ _ hx z
        · exact inO z
    · cases e : X.base.get? x.2 with
      | none => rfl
      | some ob => exact absurd (Nat.lt_of_lt_of_le (Heap.lt_size e) (Nat.le_trans I.ok.bsz big)) (Nat.lt_irrefl _)
  · obtain ⟨i, x, o, e1, e2, rfl⟩ := cells_mem hq
    exact ⟨_, o, rfl, l2 i x o e1 e2⟩
end
/-- a call with a lambda among its arguments -/
def fCallL (n : Nat) (W : FE) (path js : List Nat) (fh : FH) : FE := fun ρ k => fh ρ fun ds1 ds2 ρ1 => ∃ cs, capsD ρ1.sl js = some cs ∧ ds1.length + 1 + ds2.length = n ∧ W ⟨ds1.map Sl.d ++ .d (cloD path cs) :: ds2.map Sl.d, ρ1.n⟩ fun d ρ2 => noC (path.headD 0) d = true ∧ k d ⟨ρ1.sl, ρ2.n⟩
section
variable {X : Cx} {M : Mk0} {path : List Nat} {scope : Scope} {js : List Nat} {k : Nat} {f : Addr} {fd : FuncData} {ps : List Str} {n : Nat} {W : FE} {x : Str} {p pos : Pos} {e : Expr} {es : List Expr} {fh : FH}
theorem env0_add {P : Program} {w : World} {K : PySem.W.Frag} {mg : Str → Option Value} {base : Heap} {A : Around} {outer : List Env} {s : Shared} {H : Hp} {S : List (Addr × HO)} (e : Env0 P w K mg base A outer s H) (nd : (S.map (·.1)).Nodup) (hc : CeS S s.heap) (hn : ∀ q ∈ S, H q.1 = none ∧ q.1 ∉ frs outer ∧ base.get? q.1 = none) : Env0 P w K mg base A outer s (addS S H) :=
  ⟨e.frames, e.mod, fun b o h => ⟨(e.bs b o h).1, by
    rw [addS_out fun z => ?_]
    · exact (e.bs b o h).2
    · obtain ⟨q, hq, rfl⟩ := List.mem_map.mp z
      rw [(hn q hq).2.2] at h
      cases h⟩, e.bsz, e.funs, fun b h => by
    rw [addS_out fun z => ?_]
    · exact e.frf b h
    · obtain ⟨q, hq, rfl⟩ := List.mem_map.mp z
      exact (hn q hq).2.1 h, hok_add nd hc (fun q hq => (hn q hq).1) e.hok, e.bare⟩
theorem pd_callL (mW : ∀ ρ k k', (∀ d ρ', k d ρ' → k' d ρ') → W ρ k → W ρ k') (G : FnG X.prog X.w X.K X.mg X.base (L2.CX X.prog X.w) k f fd ps (spD X.k0 M n W)) (hgd : X.A.guards = some []) (hr : Room k X.A) (hg : Gl X x) (hm : X.mg x = some (.ref f)) (hk : PySem.W.keepIn X.K (.ref f) = true) (hb : Binds X.K fd ps [])
    (ha : PDH X M path scope (e :: es) fh) (hfree : LamOk X scope) (hjs : js.map (fun j => X.N[j]?) = (frees scope).map some) (hnd : (frees scope).Nodup) (hfn : ∀ x, X.fn x = true)
    (hdb : (x == ("__debug__" : Str)) = false := by decide) (he : starEach (e :: es) X.env = (false, eval e X.env) :: starEach es X.env := by rfl) (hpl : (backTo pos (starEach es X.env)).any (·.1) = false := by rfl) :
    PD X M (.Call (.Name x p) (e :: es) [] pos) (fCallL n W path js fh) := by
  refine ⟨⟨fun pins s σ H Q I ⟨P, F, L, ρ, r, q⟩ => ?_⟩, fun ρ k k' g q => ha.mono _ _ _ (fun d1 d2 ρ1 ⟨cs, h1, h2, q⟩ => ⟨cs, h1, h2, mW _ _ _ (fun d ρ2 q => ⟨q.1, g _ _ q.2⟩) q⟩) q⟩
  refine wpAny_Call_Name_kw (ld_glob I hg hm ?_ hdb)
  refine PySem.W.callWith_K (h₀ := X.base) I.ok.mod.kin hk (thn (ha.pa.run pos pins s σ H (fun vs H1 => ∃ (vs1 : List V) (fa : Addr) (C : CloF) (vs2 : List V) (ds1 ds2 : List D) (ρ1 : Rho) (L1 : List Addr), vs = vs1 ++ .ref fa :: vs2 ∧ Ex (hide L H) (hide L1 H1) ∧ R X.k0 M P F L1 ρ1 σ H1 ∧ RpAll X.k0 (hide L1 H1) vs1 ds1 ∧ RpAll X.k0 (hide L1 H1) vs2 ds2 ∧ Hot X path scope (hide L1 H1) fa C ∧
    ∃ cs, capsD ρ1.sl js = some cs ∧ ds1.length + 1 + ds2.length = n ∧ W ⟨ds1.map Sl.d ++ .d (cloD path cs) :: ds2.map Sl.d, ρ1.n⟩ fun d ρ2 => noC (path.headD 0) d = true ∧ KV' X.k0 M P F L σ H Q d ⟨ρ1.sl, ρ2.n⟩) I
    ⟨P, F, L, ρ, r, ha.mono _ _ _ (fun ds1 ds2 ρ1 q vs1 fa C vs2 L1 H1 e1 r1 a1 a2 hot => ⟨vs1, fa, C, vs2, ds1, ds2, ρ1, L1, rfl, e1, r1, a1, a2, hot, q⟩) q⟩) fun us sA ⟨vs, HA, IA, rA, qA⟩ => ⟨IA.kIn, ?_⟩) he hpl
  obtain ⟨vs1, fa, C, vs2, ds1, ds2, ρ1, L1, rfl, e1, r1, a1, a2, hot, cs, hcs, hn, q⟩ := qA
  obtain ⟨C', cvs, eo, ec, eoc, hC, hv, hz', hce⟩ := hot_clo IA r1 hot hcs hfree hjs hnd hfn
  have hz := fun q hq => (hz' q hq).1
  have nd := cells_nd (κ := path.headD 0) hC
  have hcm := cells_m (κ := path.headD 0) hC
  have hn0 : ∀ q ∈ C'.cells (path.headD 0), HA q.1 = none := fun q hq => (hz q hq).1
  have hnL : ∀ q ∈ C'.cells (path.headD 0), q.1 ∉ L1 := fun q hq z => by
    obtain ⟨o, g⟩ := r1.tr q.1 z
    rw [hn0 q hq] at g
    cases g
  clear hz'
  generalize hS : C'.cells (path.headD 0) = S at nd hcm hn0 hnL hz hce
  have x1 : Ex HA (addS S HA) := ex_add hn0
  have up := hide_ex (L := L1) x1
  have rclo : Rp X.k0 (hide L1 (addS S HA)) (.ref fa) (cloD path cs) := by
    refine .clo hC (up _ _ ?_) (up _ _ ?_) (fun q hq => ?_) (dpa_ex up _ _ hv)
    · rw [eo]; exact hot.obj
    · rw [ec, eoc]; exact hot.cod
    · rw [hS] at hq
      exact hide_some.mpr ⟨hnL q hq, addS_in nd hq⟩
  have all : RpAll X.k0 (hide L1 (addS S HA)) (vs1 ++ .ref fa :: vs2) (ds1 ++ cloD path cs :: ds2) := dpa_app (dpa_ex up _ _ a1) (.cons rclo (dpa_ex up _ _ a2))
  have es : ds1.map Sl.d ++ .d (cloD path cs) :: ds2.map Sl.d = (ds1 ++ cloD path cs :: ds2).map Sl.d := by simp
  rw [es] at q
  have r2 : R X.k0 M P (keepF ρ1 σ F (addS S HA)) L1 ⟨(ds1 ++ cloD path cs :: ds2).map Sl.d, ρ1.n⟩ ((vs1 ++ .ref fa :: vs2).map some) (addS S HA) :=
    (r1.ex x1).frame (fun i xs => map_d_bare _ i xs) rfl (by rw [List.length_map, List.length_map]; exact dpa_len all) fun i s o g1 g2 => by
      rw [List.getElem?_map] at g2
      cases ev : (vs1 ++ V.ref fa :: vs2)[i]? with
      | none => rw [ev] at g2; cases g2
      | some v =>
        rw [ev] at g2
        cases g2
        exact slots_d all i s v g1 ev
  have hsp : spD X.k0 M n W (vs1 ++ .ref fa :: vs2) (addS S HA) (fun v H' => (∀ q ∈ S, H' q.1 = some q.2) → Q v (delS S H')) (fun _ _ _ => False) := by
    refine ⟨P, _, L1, _, r2, fun i xs => map_d_bare _ i xs, by simp; omega, mW _ _ _ (fun d ρ2 ⟨hnc, q2⟩ v L2' H2 e2 r3 d2 hk => ?_) q⟩
    obtain ⟨y1, y2, y3⟩ := r1.repay nd hcm hn0 hnL r3 hk e2
    exact q2 v L2' _ (e1.trans y1) y2 (rp_butc y3 hnc d2)
  have hl : (us ++ []).length = ps.length := by rw [List.append_nil, ← rA.length]; exact G.len _ _ _ _ hsp
  have bi := hb sA us IA.kIn hl
  rw [List.append_nil] at bi
  refine wpAny_call (codeAny_mono (G.go X.A X.stack sA _ ⟨us, []⟩ us _ _ _ hgd hr (env0_add IA.env0 nd hce hz) bi rA hsp) fun res sB hq => ?_)
  have hq := lend_end nd hce hn0 (fun q hq => (hz q hq).2.1) hq
  cases res with
  | error ex => exact passF pins σ HA sA ex sB IA hq
  | ok fl =>
    cases fl with
    | ret u => exact IA.after hq
    | next => exact hq.elim
    | brk => exact hq.elim
    | cont => exact hq.elim
end
end PD
namespace PD
open PySem L2 PyProof.Rows PySem.Spec
open Evl (Ex)
def MkTab (M : Mk0) (mg : Str → Option Value) (base : Heap) (fd : FuncData) : Prop := ∃ c Pt : Addr, fd.code = .ref c ∧ LamX.TabB base mg c Pt ∧ Pt ∈ M.T
section
variable {P : Program} {w : World} {K : PySem.W.Frag} {mg : Str → Option Value} {base : Heap} {CX : CXT} {k : Nat} {f : Addr} {fd : FuncData} {ps N : List Str} {sp : Sp}
theorem fnG_ofC {x qual : Str} {st : Stmt} (F : Fun K x qual st f fd) (S : FnScope N ps (defScope st)) (len : ∀ vs H Q E, sp vs H Q E → vs.length = ps.length)
    (body : ∀ (A : Around) (outer : List Env) (s : Shared) (H : Hp) (vs : List V) (Q : VK) (E : XK), A.guards = some [] → Room k (A.deeper (envOfC qual (defScope st) s.heap.objs.size f fd.code)) → sp vs H Q E →
      ∃ t, PSs (cxOf CX P w K mg base N qual (defScope st) f fd.code A outer s H E) (defBody st) t ∧ t { nx := fun _ H' => Q .non H', rt := Q } (L2.start N vs) H) : FnG P w K mg base CX (k + 1) f fd ps sp := by
  obtain ⟨oc, od, kV, doc, pm, an, cdv, ct, osl, efd, lk, hcd⟩ := F.ex
  have ecd : fd.code = cdv := by rw [efd]
  refine ⟨len, fun A outer s H args us vs Q E hgd hr e0 hbi hva hsp => ?_⟩
  have kin : K.In s.heap := e0.mod.kin.keeps fun b o e => (e0.bs b o e).1
  have nolim : s.heap.NoLimit := e0.mod.nolimit.keeps fun b o e => (e0.bs b o e).1
  have kinds : ∀ y ∈ ps.zip us, (defScope st).names.lookup y.1 = some .local ∨ ((defScope st).names.lookup y.1 = some .cell ∧ ((cellsFrom (s.heap.objs.size + 1) (defScope st).names []).lookup y.1).isSome = true) := by
    intro y hy
    obtain ⟨nm, vl⟩ := y
    rcases S.par nm (List.of_mem_zip hy).1 with loc | cel
    · exact .inl loc
    · exact .inr ⟨cel, PySem.W.cellsFrom_some _ _ _ (.inl cel)⟩
  obtain ⟨t, ht, hq⟩ := body A outer s H vs Q E hgd (hr.deeper _) hsp
  rw [ecd] at ht
  subst efd
  refine codeAny_call_function hr.depth (kin _ _ lk) rfl S.co S.gen rfl (PySem.W.codeRec_of kin hcd) (hbi _ _ _ _ ?_)
  refine wpAny_newFunctionEnv_cells S.kind kinds fun env henv sA xA => ?_
  subst henv
  refine ⟨nolim.keeps xA.toInCall.keep, codeAny_func ?_⟩
  have IA : Inv (cxOf CX P w K mg base N qual (defScope st) f cdv A outer s H E) [] (L2.start N vs) H sA := inv_start S hr.hd e0 (len _ _ _ _ hsp) hva xA
  refine wpAny_mono (ht.run [] sA (L2.start N vs) H _ IA hq) (fun fl sB hs => ?_) fun e sB hs => hs
  cases fl with
  | next =>
    obtain ⟨σB, HB, JB, qB⟩ := hs
    exact ⟨V.non, HB, JB.os, JB.bare, JB.base, JB.hok, rfl, qB⟩
  | ret u =>
    obtain ⟨vB, σB, HB, JB, rB, qB⟩ := hs
    exact ⟨vB, HB, JB.os, JB.bare, JB.base, JB.hok, rB, qB⟩
  | brk =>
    obtain ⟨_, _, _, qB⟩ := hs
    exact qB.elim
  | cont =>
    obtain ⟨_, _, _, qB⟩ := hs
    exact qB.elim
variable {M : Mk0} {fs : FS}
theorem fnDC {x qual : Str} {st : Stmt} (F : Fun K x qual st f fd) (S : FnScope N ps (defScope st))
    (body : ∀ (A : Around) (outer : List Env) (s : Shared) (H : Hp) (E : XK), A.guards = some [] → Room k (A.deeper (envOfC qual (defScope st) s.heap.objs.size f fd.code)) →
      PDs (cxOf (L2.CX P w) P w K mg base N qual (defScope st) f fd.code A outer s H E).nox M (defBody st) fs) : FnG P w K mg base (L2.CX P w) (k + 1) f fd ps (spD ⟨K, w, P⟩ M ps.length (fBody N.length fs)) := by
  refine fnG_ofC F S (fun vs H Q E h => spD_len vs H Q E h) fun A outer s H vs Q E hg hr ⟨P', F', L, ρ, r, hb, hl, hw⟩ => ?_
  have B := body A outer s H E hg hr
  refine ⟨_, B.ps.nox, P', F', L, _, r.start hb N, B.mono _ _ _ ⟨fun ρ' q σ' L' H' e' r' => ?_, fun d ρ' q v σ' L' H' e' r' d' => ?_, fun _ (q : False) => q.elim, fun _ (q : False) => q.elim⟩ hw⟩
  · exact q .non L' H' e' (r.swap hb r' e') .non
  · exact q v L' H' e' (r.swap hb r' e') d'
end
/-- the table of the def g at the start -/
def TabAt (mg : Str → Option Value) (h : Heap) (g : Str) (c Pt : Addr) : Prop := ∃ (a : Addr) (o : Obj) (fd : FuncData), mg g = some (.ref a) ∧ h.get? a = some o ∧ o.data = .func fd ∧ fd.code = .ref c ∧ PySem.W.CodeHd h c Pt ∧ h.get? Pt = some { cls := .none, data := .fields #[] }
def tabH (T : List Addr) (H : Hp) : Hp := fun b => if b ∈ T then some (.tbl #[]) else H b
section
variable {P : Program} {w : World} {K : PySem.W.Frag} {mg mb : Str → Option Value} {k : Nat} {fa a : Addr} {fd : FuncData} {x : Str} {sp : Sp} {sA : Shared} {H : Hp} {cs : List (Addr × Addr)}
theorem enterGT (KX : K.In sA.heap) (hns : sA.heap.Ns mainGlobals mg) (hb : sA.heap.Ns builtinsNs mb) (hbb : ∀ x : Str, x ≠ "__name__" → mb x = bootBuiltins x) (hlim : sA.heap.NoLimit) (hgen : sA.gens = #[])
    (hbm : ∃ (bm : Addr) (ob : Obj), mg "__builtins__" = some (.ref bm) ∧ bm ≠ builtinsNs ∧ sA.heap.get? bm = some ob ∧ ob.cls = .type "module" ∧ ob.dict = some builtinsNs ∧ ob.data = .plain)
    (hcs : ∀ p ∈ cs, PySem.W.CodeHd sA.heap p.1 p.2 ∧ sA.heap.get? p.2 = some { cls := .none, data := .fields #[] } ∧ K.lookup p.2 = none)
    (hr : Room k callerA) (F : ∀ base : Heap, K.In base → base.Ns mainGlobals mg → (∀ p ∈ cs, LamX.TabB base mg p.1 p.2) → FnG P w K mg base (L2.CX P w) k fa fd [x] sp) (hbind : ∀ (s : Shared) (u : Value), BindsTo s fd ⟨[u], []⟩ [(x, u)])
    (hsp : sp [.ref a] (tabH (cs.map (·.2)) H) (fun v _ => v = .bl true) fun _ _ _ => False) (hok : HOk P w H sA.heap) (hO : Only H)
    (away : ∀ b o, H b ≠ none → sA.heap.get? b = some o → K.lookup b = none ∧ ∃ vs n, o.data = .seq vs n) :
    codeAny (model P w) callerA (.call (.ref fa) ⟨[.ref a], []⟩) (fun r s' => r = .ok (.ret (.bool true)) ∧ OldK sA.heap s'.heap ∧ s'.os = sA.os ∧ AllBare s'.gens) sA := by
  have tabAt : ∀ {b : Addr}, b ∈ cs.map (·.2) → sA.heap.get? b = some { cls := .none, data := .fields #[] } ∧ K.lookup b = none := fun {b} hb => by
    obtain ⟨p, hp, rfl⟩ := List.mem_map.mp hb
    exact ⟨(hcs p hp).2.1, (hcs p hp).2.2⟩
  have nH : ∀ {b : Addr}, b ∈ cs.map (·.2) → H b = none := fun {b} hb => by
    cases q : H b with
    | none => rfl
    | some u =>
      obtain ⟨_, vs, n, e⟩ := away b _ (by rw [q]; exact Option.some_ne_none _) (tabAt hb).1
      cases e
  have inT : ∀ {b : Addr}, b ∈ cs.map (·.2) → tabH (cs.map (·.2)) H b = some (.tbl #[]) := fun {b} hb => if_pos hb
  have outT : ∀ {b : Addr}, b ∉ cs.map (·.2) → tabH (cs.map (·.2)) H b = H b := fun {b} hb => if_neg hb
  -- what is no list and no table is not tracked
  have seen : ∀ {b : Addr} {o : Obj}, sA.heap.get? b = some o → (∀ vs n, o.data ≠ .seq vs n) → o.data ≠ .fields #[] → tabH (cs.map (·.2)) H b = none := fun {b o} e d1 d2 => by
    by_cases hb : b ∈ cs.map (·.2)
    · rw [(tabAt hb).1] at e
      cases e
      exact absurd rfl d2
    · rw [outT hb]
      cases q : H b with
      | none => rfl
      | some u =>
        obtain ⟨_, vs, n, z⟩ := away b o (by rw [q]; exact Option.some_ne_none _) e
        exact absurd z (d1 vs n)
  have nsH : ∀ {b : Addr} {m : Str → Option Value}, sA.heap.Ns b m → (hidT sA.heap (tabH (cs.map (·.2)) H)).Ns b m := fun {b m} ⟨o, es, ep, e, d, rest⟩ =>
    ⟨o, es, ep, hidT_get e (seen e (fun vs n z => by rw [d] at z; cases z) (fun z => by rw [d] at z; cases z)), d, rest⟩
  have kinH : K.In (hidT sA.heap (tabH (cs.map (·.2)) H)) := fun b o e => by
    refine hidT_get (KX b o e) ?_
    by_cases hb : b ∈ cs.map (·.2)
    · rw [(tabAt hb).2] at e; cases e
    · rw [outT hb]
      cases q : H b with
      | none => rfl
      | some u =>
        have := (away b o (by rw [q]; exact Option.some_ne_none _) (KX b o e)).1
        rw [e] at this
        cases this
  have mod : Mod K mg (hidT sA.heap (tabH (cs.map (·.2)) H)) := by
    obtain ⟨mc, l1, l2⟩ := hlim
    exact ⟨kinH, nsH hns, ⟨mb, nsH hb, hbb⟩, mc, nsH l1, l2⟩
  have hokT : HOk P w (tabH (cs.map (·.2)) H) sA.heap := fun b o e => by
    by_cases hb : b ∈ cs.map (·.2)
    · rw [inT hb] at e
      cases e
      exact (tabAt hb).1
    · rw [outT hb] at e
      have out : ∀ {d : Addr} {u : HO}, H d = some u → tabH (cs.map (·.2)) H d = some u := fun {d u} q => by
        rw [outT fun z => by rw [nH z] at q; cases q]
        exact q
      exact (hok b o e).stay (fun d u _ z => z) (fun d z => out z) fun d xs z => out z
  have env : Env0 P w K mg (hidT sA.heap (tabH (cs.map (·.2)) H)) callerA [] sA (tabH (cs.map (·.2)) H) :=
    ⟨rfl, mod, fun b o e => of_hidT e, Nat.le_of_eq (hidT_size _ _), trivial, fun b hb => absurd hb List.not_mem_nil, hokT, .of_eq hgen⟩
  have TB : ∀ p ∈ cs, LamX.TabB (hidT sA.heap (tabH (cs.map (·.2)) H)) mg p.1 p.2 := fun p hp => by
    obtain ⟨hd, hP, _⟩ := hcs p hp
    obtain ⟨o, us, file, tf, flags, tg, inF, text, tt, e1, r1, r2, r3, r4⟩ := hd
    obtain ⟨bm, ob, b1, b2, b3, b4, b5, b6⟩ := hbm
    have nG : bm ≠ mainGlobals := fun q => by
      obtain ⟨o', es, ep, e, d, _⟩ := hns
      rw [q, e] at b3
      cases b3
      rw [d] at b6
      cases b6
    have nP : bm ≠ p.2 := fun q => by
      rw [q, hP] at b3
      cases b3
      cases b6
    refine ⟨⟨o, us, file, tf, flags, tg, inF, text, tt, hidT_get e1 (seen e1 (fun vs n z => by rw [r2] at z; cases z) (fun z => ?_)), r1, r2, r3, r4⟩, ⟨bm, ob, b1, b2, nG, nP, hidT_get b3 (seen b3 (fun vs n z => by rw [b6] at z; cases z) (fun z => by rw [b6] at z; cases z)), b4, b5, b6⟩, fun z => ?_⟩
    · rw [r2] at z
      cases z
      simp at r3
    · obtain ⟨o', es, ep, e, d, _⟩ := hns
      rw [z, hP] at e
      cases e
      cases d
  refine codeAny_mono ((F _ kinH (nsH hns) TB).go callerA [] sA _ ⟨[.ref a], []⟩ [.ref a] [.ref a] _ _ rfl hr env (hbind sA (.ref a)) (.cons rfl .nil) hsp) fun res sB hB => ?_
  cases res with
  | error e =>
    obtain ⟨_, _, _, _, _, _, _, _, _, _, _, _, z⟩ := hB
    exact z.elim
  | ok fl =>
    cases fl with
    | next => exact hB.elim
    | brk => exact hB.elim
    | cont => exact hB.elim
    | ret u =>
      obtain ⟨v, HB, osB, bareB, unB, okB, relB, qB⟩ := hB
      have qB : v = .bl true := qB
      subst qB
      have eu : u = Value.bool true := relB
      subst eu
      have noF : ∀ {b : Addr}, b ∉ frs [] := fun {b} => List.not_mem_nil
      have same : ∀ {b : Addr} {o : Obj}, b ∉ cs.map (·.2) → sA.heap.get? b = some o → sB.heap.get? b = some o := fun {b o} hb e => by
        cases q : H b with
        | none => exact unB.keep b o e (by rw [outT hb]; exact q) noF List.not_mem_nil
        | some u =>
          rcases hO b with z | ⟨ob, xs, z⟩
          · rw [q] at z
            cases z
          · have g1 := (hok b _ z).1
            have g2 := (okB b _ (unB.frzs b ob _ (by rw [outT hb]; exact z))).1
            rw [e] at g1
            cases g1
            exact g2
      have grew : ∀ {b : Addr}, b ∈ cs.map (·.2) → ∃ more : Array Value, sB.heap.get? b = some { cls := .none, data := .fields more } := fun {b} hb => by
        obtain ⟨more, z⟩ := unB.tbls b #[] (inT hb)
        exact ⟨_, okB b _ z⟩
      refine ⟨rfl, ⟨fun b o e => ?_, fun b o e => ?_⟩, osB, bareB⟩
      · by_cases hb : b ∈ cs.map (·.2)
        · obtain ⟨p, hp, rfl⟩ := List.mem_map.mp hb
          obtain ⟨more, hm⟩ := grew hb
          have h0 := (hcs p hp).2.1
          rw [h0] at e
          cases e
          exact .inr (.inl ⟨((hcs p hp).1.tab h0).isCodeTable, rfl, #[], more, rfl, by rw [Array.empty_append]; exact hm⟩)
        · exact .inl (same hb e)
      · by_cases hb : b ∈ cs.map (·.2)
        · obtain ⟨more, hm⟩ := grew hb
          exact ⟨_, hm⟩
        · exact ⟨o, same hb e⟩
end
end PD
namespace PD
open PySem L2 PyProof.Rows PySem.Spec
open Evl (Ex)
abbrev TR := (L2.St → V → Hp → Prop) → L2.St → Hp → Prop
structure PSr (X : Cx) (ss : List Stmt) (t : TR) : Prop where
  run : ∀ (pins : List (Addr × Obj)) (s : Shared) (σ : L2.St) (H : Hp) (D : L2.St → V → Hp → Prop), Inv X pins σ H s → t D σ H → wpAny (model X.prog X.w) X.A (execs ss X.env) (fun fl s' => ∃ u v σ' H', fl = .ret u ∧ Inv X pins σ' H' s' ∧ RelV v u ∧ D σ' v H') X.xe s
section
variable {X : Cx} {st : Stmt} {ss : List Stmt} {t : TS} {u : TR} {e : Expr} {te : TE} {pos : Pos}
theorem psr_ret (he : PE X e te) : PSr X [.Return (some e) pos] (fun D σ H => te σ H fun v H1 => D σ v H1) := by
  refine ⟨fun pins s σ H D I h => wpAny_execs_cons (wpAny_Return_some (thn (he.run pins s σ H _ I h) fun w s1 ⟨x, H1, I1, r1, q1⟩ => ?_))⟩
  exact ⟨w, x, σ, H1, rfl, I1, r1, q1⟩
theorem psr_cons (h : PS X st t) (hs : PSr X ss u) : PSr X (st :: ss) (fun D σ H => t { nx := u D, rt := fun _ _ => False } σ H) := by
  refine ⟨fun pins s σ H D I h' => wpAny_execs_cons (thn (h.run pins s σ H { nx := u D, rt := fun _ _ => False } I h') fun f s1 q => ?_)⟩
  cases f with
  | next =>
    obtain ⟨σ', H', I', q⟩ := q
    exact hs.run pins s1 σ' H' D I' q
  | ret v =>
    obtain ⟨_, _, _, _, _, z⟩ := q
    exact z.elim
  | brk =>
    obtain ⟨_, _, _, z⟩ := q
    exact z.elim
  | cont =>
    obtain ⟨_, _, _, z⟩ := q
    exact z.elim
theorem PSr.wk {u' : TR} (h : PSr X ss u) (w : ∀ D σ H, u' D σ H → u D σ H) : PSr X ss u' := ⟨fun pins s σ H D I q => h.run pins s σ H D I (w D σ H q)⟩
end
section
variable {P : Program} {w : World} {K : PySem.W.Frag} {mg : Str → Option Value} {base : Heap} {CX : CXT} {k : Nat} {f : Addr} {fd : FuncData} {ps N : List Str} {sp : Sp}
/-- .. and what it leaves behind in cells may be told -/
theorem fnG_ofL {x qual : Str} {st : Stmt} (F : Fun K x qual st f fd) (S : FnScope N ps (defScope st)) (len : ∀ vs H Q E, sp vs H Q E → vs.length = ps.length)
    (body : ∀ (A : Around) (outer : List Env) (s : Shared) (H : Hp) (vs : List V) (Q : VK) (E : XK), A.guards = some [] → Room k (A.deeper (envOfC qual (defScope st) s.heap.objs.size f fd.code)) → sp vs H Q E →
      ∃ t, PSr (cxOf CX P w K mg base N qual (defScope st) f fd.code A outer s H E) (defBody st) t ∧ t (fun σ' v H' => ∀ s', Inv (cxOf CX P w K mg base N qual (defScope st) f fd.code A outer s H E) [] σ' H' s' → ∃ Sx : List (Addr × HO), (Sx.map (·.1)).Nodup ∧ CeS Sx s'.heap ∧ (∀ q ∈ Sx, H' q.1 = none ∧ s.heap.objs.size ≤ q.1) ∧ Q v (addS Sx H')) (L2.start N vs) H) : FnG P w K mg base CX (k + 1) f fd ps sp := by
  obtain ⟨oc, od, kV, doc, pm, an, cdv, ct, osl, efd, lk, hcd⟩ := F.ex
  have ecd : fd.code = cdv := by rw [efd]
  refine ⟨len, fun A outer s H args us vs Q E hgd hr e0 hbi hva hsp => ?_⟩
  have kin : K.In s.heap := e0.mod.kin.keeps fun b o e => (e0.bs b o e).1
  have nolim : s.heap.NoLimit := e0.mod.nolimit.keeps fun b o e => (e0.bs b o e).1
  have kinds : ∀ y ∈ ps.zip us, (defScope st).names.lookup y.1 = some .local ∨ ((defScope st).names.lookup y.1 = some .cell ∧ ((cellsFrom (s.heap.objs.size + 1) (defScope st).names []).lookup y.1).isSome = true) := by
    intro y hy
    obtain ⟨nm, vl⟩ := y
    rcases S.par nm (List.of_mem_zip hy).1 with loc | cel
    · exact .inl loc
    · exact .inr ⟨cel, PySem.W.cellsFrom_some _ _ _ (.inl cel)⟩
  obtain ⟨t, ht, hq⟩ := body A outer s H vs Q E hgd (hr.deeper _) hsp
  rw [ecd] at ht hq
  subst efd
  refine codeAny_call_function hr.depth (kin _ _ lk) rfl S.co S.gen rfl (PySem.W.codeRec_of kin hcd) (hbi _ _ _ _ ?_)
  refine wpAny_newFunctionEnv_cells S.kind kinds fun env henv sA xA => ?_
  subst henv
  refine ⟨nolim.keeps xA.toInCall.keep, codeAny_func ?_⟩
  have IA : Inv (cxOf CX P w K mg base N qual (defScope st) f cdv A outer s H E) [] (L2.start N vs) H sA := inv_start S hr.hd e0 (len _ _ _ _ hsp) hva xA
  refine wpAny_mono (ht.run [] sA (L2.start N vs) H _ IA hq) (fun fl sB hs => ?_) fun e sB hs => hs
  obtain ⟨u, v, σB, HB, rfl, JB, rB, qB⟩ := hs
  obtain ⟨Sx, nd, hce, hn, q⟩ := qB sB JB
  have un : Un (frs outer) [] H HB s.heap sB.heap := JB.base
  have outS : ∀ {b : Addr} {u : HO}, HB b = some u → b ∉ Sx.map (·.1) := fun {b u} h z => by
    obtain ⟨q, hq, rfl⟩ := List.mem_map.mp z
    rw [(hn q hq).1] at h
    cases h
  have oldS : ∀ {b : Addr} {o : Obj}, s.heap.get? b = some o → b ∉ Sx.map (·.1) := fun {b o} h z => by
    obtain ⟨q, hq, rfl⟩ := List.mem_map.mp z
    exact absurd (Nat.lt_of_lt_of_le (Heap.lt_size h) (hn q hq).2) (Nat.lt_irrefl _)
  refine ⟨v, addS Sx HB, JB.os, JB.bare, ⟨un.keep, un.slot, fun b o e n hx => ?_, un.there, fun b xs e => ?_, fun b o u e => ?_, fun b ps e => ?_⟩, hok_add nd hce (fun q hq => (hn q hq).1) JB.hok, rB, q⟩
  · rw [addS_out (oldS e)]; exact un.free b o e n hx
  · have := un.tups b xs e; rw [addS_out (outS this)]; exact this
  · have := un.frzs b o u e; rw [addS_out (outS this)]; exact this
  · obtain ⟨more, z⟩ := un.tbls b ps e
    exact ⟨more, by rw [addS_out (outS z)]; exact z⟩
end
structure LamI where
  path : List Nat
  scope : Scope
  js : List Nat
/-- the lambdas made so far, in a list that is held -/
def HotS (X : Cx) (G : Hp) : List LamI → List V → Prop
  | [], vs => vs = []
  | l :: ls, vs => ∃ f C r, vs = .ref f :: r ∧ Hot X l.path l.scope G f C ∧ HotS X G ls r
theorem HotS.ex {X : Cx} {G G' : Hp} (e : Ex G G') : ∀ {ls : List LamI} {vs : List V}, HotS X G ls vs → HotS X G' ls vs
  | [], _, h => h
  | _ :: _, _, ⟨f, C, r, h1, h2, h3⟩ => ⟨f, C, r, h1, h2.ex e, HotS.ex e h3⟩
theorem HotS.snoc {X : Cx} {G : Hp} {l : LamI} {f : Addr} {C : CloF} (h : Hot X l.path l.scope G f C) : ∀ {ls : List LamI} {vs : List V}, HotS X G ls vs → HotS X G (ls ++ [l]) (vs ++ [.ref f])
  | [], _, h' => by cases h'; exact ⟨f, C, [], rfl, h, rfl⟩
  | _ :: _, _, ⟨g, C', r, h1, h2, h3⟩ => by subst h1; exact ⟨g, C', r ++ [.ref f], rfl, h2, HotS.snoc h h3⟩
theorem HotS.len {X : Cx} {G : Hp} : ∀ {ls : List LamI} {vs : List V}, HotS X G ls vs → vs.length = ls.length
  | [], _, h => by cases h; rfl
  | _ :: _, _, ⟨f, C, r, h1, _, h3⟩ => by subst h1; simp [HotS.len h3]
def LamSt (X : Cx) (M : Mk0) (i : Nat) (ls : List LamI) (ρ : Rho) (P : Option Addr) (F : Hp) (L : List Addr) (H0 : Hp) (σ : L2.St) (H : Hp) : Prop := ∃ (L' : List Addr) (p : Addr) (vs : List V), Ex (hide L H0) (hide L' H) ∧ F p = none ∧ R X.k0 M P (upd F p (.lst vs)) L' ρ σ H ∧ σ[i]? = some (some (.ref p)) ∧ HotS X (hide L' H) ls vs
section
variable {X : Cx} {M : Mk0} {i : Nat} {x : Str} {px pa pc pos spos : Pos} {lam : Expr} {l : LamI} {ls : List LamI} {ss : List Stmt} {P : Option Addr} {F : Hp} {L : List Addr} {H0 : Hp} {ρ : Rho}
/-- the list is begun -/
theorem lam_first (hl : PE X lam (tLamR X M l.path l.scope)) (hg : PG X (.Name x px) (gName i)) (hs : swapsWithSole [.Name x px] (.List [lam] pos) spos.line X.env = pure false := by rfl) (hw : swappedStores [.Name x px] (.List [lam] pos) X.env = pure none := by rfl)
    (h1 : (assignEach [.Name x px] X.env).map (·.2) = [assign (.Name x px) X.env] := by rfl) (hst : starEach [lam] X.env = (false, eval lam X.env) :: starEach [] X.env := by rfl) :
    PS X (.Assign [.Name x px] (.List [lam] pos) spos) (fun D σ H => ∃ P F L ρ, R X.k0 M P F L ρ σ H ∧ ρ.sl[i]? = some .no ∧ ∀ σ' H', LamSt X M i [l] ρ P F L H σ' H' → D.nx σ' H') := by
  refine PS.wk (ps_asg (pe_lst (pa_cons hl pa_nil hst)) hg hs hw h1) fun D σ H ⟨P, F, L, ρ, r, h0, q⟩ => ?_
  refine ⟨P, F, L, ρ, r, fun f C H1 e1 r1 hot => ⟨by show (1 : Nat) ≤ sizeLine; rw [sizeLine_eq]; omega, fun p hp => ?_⟩⟩
  have hF : F p = none := by
    cases z : F p with
    | none => rfl
    | some o => have := (r1.fr p o z).1; rw [hp] at this; cases this
  have r2 := r1.pinNew (o := HO.lst [.ref f]) hp
  have ex := ex_pin (L := L) (o := HO.lst [V.ref f]) hp
  have r3 := r2.setD i .no (some (.ref p)) trivial fun xs z => nomatch z
  have e0 : ρ.set i .no = ρ := by
    show Rho.mk (ρ.sl.set i .no) ρ.n = ρ
    have : ρ.sl.set i .no = ρ.sl := by
      apply List.ext_getElem?
      intro j
      by_cases e : i = j
      · subst e
        rw [List.getElem?_set_self (List.getElem?_eq_some_iff.mp h0).1, h0]
      · rw [List.getElem?_set_ne e]
    rw [this]
  rw [e0] at r3
  refine q _ _ ⟨_, p, [.ref f], e1.trans ex, hF, r3, ?_, f, C, [], rfl, hot.ex ex, rfl⟩
  have hi : i < σ.length := by rw [r1.len]; exact (List.getElem?_eq_some_iff.mp h0).1
  rw [List.getElem?_set_self hi]
/-- .. goes on -/
def tLamM (X : Cx) (M : Mk0) (i : Nat) (l : LamI) : TS := fun D σ H => ∃ ls P F L H0 ρ, LamSt X M i ls ρ P F L H0 σ H ∧ ls.length ≤ 100 ∧ ∀ σ' H', LamSt X M i (ls ++ [l]) ρ P F L H0 σ' H' → D.nx σ' H'
theorem lam_more (hl : PE X lam (tLamR X M l.path l.scope)) (hp : PE X (.Call (.Attribute (.Name x px) "append" pa) [lam] [] pc) (tBM X.K "list" rAppend (tVar i) (tCons (tLamR X M l.path l.scope) tNil)))
    (hs : swapsWith (.Call (.Attribute (.Name x px) "append" pa) [lam] [] pc) none spos.line X.env = pure false := by rfl) :
    PS X (.Expr (.Call (.Attribute (.Name x px) "append" pa) [lam] [] pc) spos) (tLamM X M i l) := by
  refine PS.wk (ps_expr hp hs) fun D σ H ⟨ls, P, F, L, H0, ρ, ⟨L', p, vs, ex, hF, r, hσ, hot⟩, hlen, q⟩ => ?_
  obtain ⟨g1, g2⟩ := r.pinned
  refine ⟨.ref p, hσ, .inl ⟨rfl, vs, .inl (.inl g1)⟩, ?_⟩
  refine ⟨P, _, L', ρ, r, fun f C H1 e1 r1 h1 => ?_⟩
  obtain ⟨k1, k2⟩ := r1.pinned
  refine ⟨p, vs, .ref f, rfl, rfl, k1, by rw [hot.len, sizeLine_eq]; omega, ?_⟩
  have hh := hide_repin (H := H1) (o' := HO.lst (vs ++ [.ref f])) k2
  refine q σ _ ⟨L', p, vs ++ [.ref f], by rw [hh]; exact ex.trans e1, hF, r1.repin, hσ, ?_⟩
  rw [hh]
  exact HotS.snoc h1 (hot.ex e1)
/-- .. and is returned -/
theorem psr_lams {rp rpos : Pos} (hx : PE X (.Name x rp) (tVar i)) : ∀ (more : List (Stmt × LamI)), (∀ p ∈ more, PS X p.1 (tLamM X M i p.2)) → PSr X (more.map (·.1) ++ [.Return (some (.Name x rp)) rpos]) (fun D σ H => ∃ done P F L H0 ρ, LamSt X M i done ρ P F L H0 σ H ∧ done.length + more.length ≤ 100 ∧
      ∀ σ' H' p, σ'[i]? = some (some (.ref p)) → LamSt X M i (done ++ more.map (·.2)) ρ P F L H0 σ' H' → D σ' (.ref p) H')
  | [], _ => PSr.wk (psr_ret hx) fun D σ H ⟨done, P, F, L, H0, ρ, h, _, q⟩ => by
      have h' := h
      obtain ⟨L', p, vs, ex, hF, r, hσ, hot⟩ := h
      exact ⟨.ref p, hσ, q σ H p hσ (by rw [List.map_nil, List.append_nil]; exact h')⟩
  | (st, l) :: more, h => PSr.wk (psr_cons (h _ List.mem_cons_self) (psr_lams hx more fun p hp => h p (List.mem_cons_of_mem _ hp))) fun D σ H ⟨done, P, F, L, H0, ρ, st0, hl, q⟩ =>
      ⟨done, P, F, L, H0, ρ, st0, by simp at hl; omega, fun σ' H' st1 => ⟨done ++ [l], P, F, L, H0, ρ, st1, by simp at hl ⊢; omega, fun σ'' H'' p hp st2 => q σ'' H'' p hp (by rw [List.append_assoc] at st2; exact st2)⟩⟩
end
def capsL (sl : List Sl) : List LamI → Option (List D)
  | [] => some []
  | l :: r => match capsD sl l.js, capsL sl r with
    | some cs, some ds => some (cloD l.path cs :: ds)
    | _, _ => none
/-- what is known of each of the lambdas by the text -/
structure LamI.Ok (l : LamI) (κ : Nat) (N : List Str) (sc : Scope) : Prop where
  head : l.path.headD 0 = κ
  free : ∀ y ∈ l.scope.names, y.2 = .free → sc.names.lookup y.1 = some .cell ∨ sc.names.lookup y.1 = some .free
  js : l.js.map (fun j => N[j]?) = (frees l.scope).map some
  nd : (frees l.scope).Nodup
section
variable {X : Cx} {M : Mk0} {i κ : Nat} {P : Option Addr} {F : Hp} {L : List Addr} {H0 H : Hp} {ρ : Rho} {σ : L2.St} {s : Shared}
theorem lam_fin {ls : List LamI} {ds : List D} {p : Addr} (I : Inv X [] σ H s) (h : LamSt X M i ls ρ P F L H0 σ H) (hp : σ[i]? = some (some (.ref p))) (hc : capsL ρ.sl ls = some ds) (hok : ∀ l ∈ ls, l.Ok κ X.N X.env.scope) (hfn : ∀ x, X.fn x = true) (hn1 : (X.env.cells.map (·.1)).Nodup) (hn2 : (X.env.cells.map (·.2)).Nodup) :
    ∃ Sx : List (Addr × HO), (Sx.map (·.1)).Nodup ∧ CeS Sx s.heap ∧ (∀ q ∈ Sx, H q.1 = none ∧ X.s_0.heap.objs.size ≤ q.1) ∧ ∃ L2, Ex (hide L H0) (hide L2 (addS Sx H)) ∧ R X.k0 M P F L2 ρ σ (addS Sx H) ∧ Rp X.k0 (hide L2 (addS Sx H)) (.ref p) (.list ds) := by
  obtain ⟨L', p', vs, ex, hF, r, hσ, hot⟩ := h
  rw [hσ] at hp
  cases hp
  obtain ⟨os, l1, l2⟩ := cell_objs (s := s) X.env.cells fun x hx => by
    obtain ⟨j, hj⟩ := List.mem_iff_getElem?.mp hx
    exact I.cell x.1 x.2 (cl_look hn1 hj)
  let C0 : CloF := ⟨"", ⟨[], [], none, [], [], none, []⟩, default, default, .none, .none, 0, default, X.env.cells, os⟩
  have mem : ∀ {q : Addr × HO}, q ∈ C0.cells κ → ∃ (j : Nat) (y : Str × Addr) (o : Obj), X.env.cells[j]? = some y ∧ os[j]? = some o ∧ q = (y.2, CeO κ o) := fun {q} hq => cells_mem hq
  have eS : (C0.cells κ).map (·.1) = X.env.cells.map (·.2) := by
    apply List.ext_getElem?
    intro j
    unfold CloF.cells
    rw [List.getElem?_map, List.getElem?_map, List.getElem?_zipWith]
    show _ = Option.map _ (C0.cl[j]?)
    cases e1 : C0.cl[j]? with
    | none => rfl
    | some y =>
      have hi := (List.getElem?_eq_some_iff.mp e1).1
      rw [List.getElem?_eq_getElem (show j < C0.os.length by show j < os.length; rw [l1]; exact hi)]
      rfl
  have nd : ((C0.cells κ).map (·.1)).Nodup := by rw [eS]; exact hn2
  have hce : CeS (C0.cells κ) s.heap := fun q hq => by
    obtain ⟨j, y, o, e1, e2, rfl⟩ := mem hq
    exact ⟨κ, o, rfl, l2 j y o e1 e2⟩
  have hn : ∀ q ∈ C0.cells κ, H q.1 = none ∧ X.s_0.heap.objs.size ≤ q.1 := fun q hq => by
    obtain ⟨j, y, o, e1, e2, rfl⟩ := mem hq
    have lk := cl_look hn1 e1
    exact ⟨I.freeC _ _ lk, I.ok.cab _ _ (hfn _) lk⟩
  have inS : ∀ {y : Str} {c : Addr} {o : Obj}, X.env.cells.lookup y = some c → s.heap.get? c = some o → (c, CeO κ o) ∈ C0.cells κ := fun {y c o} h1 h2 => by
    obtain ⟨j, hj⟩ := cl_idx h1
    have hlt := (List.getElem?_eq_some_iff.mp hj).1
    have e2 : os[j]? = some os[j] := List.getElem?_eq_getElem (by rw [l1]; exact hlt)
    have := l2 j _ _ hj e2
    rw [h2] at this
    cases this
    unfold CloF.cells
    refine List.mem_iff_getElem?.mpr ⟨j, ?_⟩
    rw [List.getElem?_zipWith]
    rw [show C0.cl[j]? = some (y, c) from hj, show C0.os[j]? = some os[j] from e2]
  have x1 : Ex H (addS (C0.cells κ) H) := ex_add fun q hq => (hn q hq).1
  have exF : Ex (hide L' H) (hide (L'.filter fun a => decide (a ≠ p)) H) := hide_sub fun a ha => (List.mem_filter.mp ha).1
  have r2 := r.reveal hF
  have see : hide (L'.filter fun a => decide (a ≠ p)) H p = some (.lst vs) := hide_some.mpr ⟨filter_ne, r.pinned.1⟩
  have up := hide_ex (L := L'.filter fun a => decide (a ≠ p)) x1
  refine ⟨C0.cells κ, nd, hce, hn, _, ex.trans (exF.trans up), r2.ex x1, .lst (.inl (.inl (up _ _ see))) ?_⟩
  -- each of them
  have each : ∀ (ls : List LamI) (vs : List V) (ds : List D), (∀ l ∈ ls, l.Ok κ X.N X.env.scope) → HotS X (hide L' H) ls vs → capsL ρ.sl ls = some ds → RpAll X.k0 (hide (L'.filter fun a => decide (a ≠ p)) (addS (C0.cells κ) H)) vs ds := by
    intro ls
    induction ls with
    | nil => intro vs ds _ h1 h2; cases h1; cases h2; exact .nil
    | cons l ls ih =>
      intro vs ds hk h1 h2
      obtain ⟨f, C, rr, rfl, hh, hr⟩ := h1
      unfold capsL at h2
      cases e1 : capsD ρ.sl l.js with
      | none => rw [e1] at h2; cases h2
      | some cs =>
        cases e2 : capsL ρ.sl ls with
        | none => rw [e1, e2] at h2; cases h2
        | some ds2 =>
          rw [e1, e2] at h2
          cases h2
          have lo := hk l List.mem_cons_self
          obtain ⟨C', cvs, eo, ec, eoc, hC, hv, hz, hce'⟩ := hot_clo I r2 (hh.ex exF) e1 lo.free lo.js lo.nd hfn
          refine .cons (.clo hC (up _ _ ?_) (up _ _ ?_) (fun q hq => ?_) (dpa_ex up _ _ hv)) (ih rr ds2 (fun l hl => hk l (List.mem_cons_of_mem _ hl)) hr e2)
          · rw [eo]; exact (hh.ex exF).obj
          · rw [ec, eoc]; exact (hh.ex exF).cod
          · obtain ⟨_, y, hy⟩ := hz q hq
            obtain ⟨j, z, o, f1, f2, rfl⟩ := cells_mem hq
            obtain ⟨k, o', g1, g2⟩ := hce' _ hq
            have : CeO (l.path.headD 0) o = CeO k o' := g1
            unfold CeO at this
            simp only [HO.frz.injEq, HO.own.injEq] at this
            have g2 : s.heap.get? z.2 = some o := by rw [this.1]; exact g2
            rw [lo.head]
            refine hide_some.mpr ⟨fun w => ?_, addS_in nd (inS hy g2)⟩
            obtain ⟨u, hu⟩ := r2.tr _ w
            rw [(hz _ hq).1.1] at hu
            cases hu
  exact each ls vs ds hok hot hc
end
theorem cells_nd2 : ∀ (names : List (Str × NameKind)) (n : Nat) (acc : List (Str × Addr)), (∀ x ∈ acc, x.2 < n) → (acc.map (·.2)).Nodup → ((cellsFrom n names acc).map (·.2)).Nodup
  | [], _, _, _, h => h
  | (x, k) :: r, n, acc, h1, h2 => by
    unfold cellsFrom
    split
    · refine cells_nd2 r (n + 1) _ (fun y hy => ?_) ?_
      · rcases List.mem_cons.mp hy with e | hy
        · rw [e]; exact Nat.lt_succ_self n
        · exact Nat.lt_succ_of_lt (h1 y hy)
      · rw [List.map_cons, List.nodup_cons]
        refine ⟨fun z => ?_, h2⟩
        obtain ⟨y, hy, e⟩ := List.mem_map.mp z
        have hlt := h1 y hy
        have e : y.2 = n := e
        rw [e] at hlt
        exact absurd hlt (Nat.lt_irrefl _)
    · exact cells_nd2 r n acc h1 h2
theorem cells_nd1 : ∀ (names : List (Str × NameKind)) (n : Nat) (acc : List (Str × Addr)), (names.map (·.1) ++ acc.map (·.1)).Nodup → ((cellsFrom n names acc).map (·.1)).Nodup
  | [], n, acc, h => by
    unfold cellsFrom
    simpa using h
  | (x, k) :: r, n, acc, h => by
    rw [List.map_cons, List.cons_append, List.nodup_cons] at h
    unfold cellsFrom
    split
    · refine cells_nd1 r (n + 1) _ ?_
      rw [List.map_cons]
      rw [List.nodup_append] at h ⊢
      obtain ⟨h0, h1, h2, h3⟩ := h
      refine ⟨h1, List.nodup_cons.mpr ⟨fun z => h0 (List.mem_append_right _ z), h2⟩, fun a ha b hb => ?_⟩
      rcases List.mem_cons.mp hb with e | hb
      · intro z
        rw [z, e] at ha
        exact h0 (List.mem_append_left _ ha)
      · exact h3 a ha b hb
    · exact cells_nd1 r n acc h.2
def tFirst (X : Cx) (M : Mk0) (i : Nat) (l : LamI) : TS := fun D σ H => ∃ P F L ρ, R X.k0 M P F L ρ σ H ∧ ρ.sl[i]? = some .no ∧ ∀ σ' H', LamSt X M i [l] ρ P F L H σ' H' → D.nx σ' H'
def fLams (nN : Nat) (ls : List LamI) : FE := fun ρ k => ∃ ds, capsL (ρ.sl ++ List.replicate (nN - ρ.sl.length) .no) ls = some ds ∧ k (.list ds) ρ
section
variable {P : Program} {w : World} {K : PySem.W.Frag} {mg : Str → Option Value} {base : Heap} {k : Nat} {f : Addr} {fd : FuncData} {ps N : List Str} {M : Mk0}
theorem fnLams {x qual : Str} {st : Stmt} {l0 : LamI} {ms : List LamI} {κ i : Nat} (F : Fun K x qual st f fd) (S : FnScope N ps (defScope st)) (hok : ∀ l ∈ l0 :: ms, l.Ok κ N (defScope st)) (hi : ps.length ≤ i ∧ i < N.length) (hnd : ((defScope st).names.map (·.1)).Nodup) (hl : ms.length ≤ 50)
    (body : ∀ (X : Cx) (A : Around) (outer : List Env) (s : Shared) (H : Hp) (E : XK), X = cxOf (L2.CX P w) P w K mg base N qual (defScope st) f fd.code A outer s H E →
      ∃ (st0 : Stmt) (more : List (Stmt × LamI)) (y : Str) (rp rpos : Pos), ms = more.map (·.2) ∧ defBody st = st0 :: (more.map (·.1) ++ [.Return (some (.Name y rp)) rpos]) ∧ PS X st0 (tFirst X M i l0) ∧ (∀ p ∈ more, PS X p.1 (tLamM X M i p.2)) ∧ PE X (.Name y rp) (tVar i)) :
    FnG P w K mg base (L2.CX P w) (k + 1) f fd ps (spD ⟨K, w, P⟩ M ps.length (fLams N.length (l0 :: ms))) := by
  refine fnG_ofL F S (fun vs H Q E h => spD_len vs H Q E h) fun A outer s H vs Q E hg hr ⟨P', F', L, ρ, r, hb, hlen, ds, hds, hk⟩ => ?_
  obtain ⟨st0, more, y, rp, rpos, em, eb, h0, hm, hx⟩ := body _ A outer s H E rfl
  rw [eb]
  have rs := r.start hb N
  refine ⟨_, psr_cons h0 (psr_lams hx more hm), P', F', L, _, rs, ?_, fun σ1 H1 s1 => ⟨[l0], P', F', L, H, _, s1, ?_, fun σ2 H2 p hp s2 s' I => ?_⟩⟩
  · show (ρ.sl ++ List.replicate (N.length - ρ.sl.length) Sl.no)[i]? = some .no
    rw [List.getElem?_append_right (by omega), List.getElem?_replicate]
    rw [if_pos (by omega)]
  · have : more.length = ms.length := by rw [em, List.length_map]
    simp
    omega
  · rw [List.singleton_append, ← em] at s2
    obtain ⟨Sx, a1, a2, a3, L2', a4, a5, a6⟩ := lam_fin (κ := κ) I s2 hp hds hok (fun _ => rfl) (cells_nd1 _ _ _ (by simpa using hnd)) (cells_nd2 _ _ _ (fun x hx => absurd hx List.not_mem_nil) List.nodup_nil)
    have a7 := r.swap hb a5 a4
    exact ⟨Sx, a1, a2, a3, hk (.ref p) L2' _ a4 a7 a6⟩
end
end PD
namespace PD
open PySem L2 PyProof.Rows PySem.Spec
open Evl (Ex)
theorem walkGT {l : PySem.W.OpenLaw} {n k : Nat} {q : Program} {loose : List Str} {XP : (Str → Option Value) → Heap → Prop} {YP : World → Heap → Prop} {d : DefRec} {K : Params → PySem.W.Frag} {sp : PySem.W.Frag → World → List Addr → Sp} {x : Str} (gs : List Str)
    (hn : l.most = some n) (hn2 : n ≤ sizeLine) (hdf : d.params.defaults = []) (hr : Room k callerA) (hgs : (gs.all fun g => (recsOf q).any fun e => e.name == g) = true) (hY : ∀ (w : World) (h : Heap), YP w h → (K w.params).In h)
    (F : ∀ (w : World) (mg : Str → Option Value) (fa : Addr) (h : Heap), (K w.params).In h → h.Ns mainGlobals mg → mg d.name = some (.ref fa) → (∀ g ∈ gs, ∃ c Pt, TabAt mg h g c Pt) →
      ∃ (cs : List (Addr × Addr)) (fd : FuncData), (∀ p ∈ cs, PySem.W.CodeHd h p.1 p.2 ∧ h.get? p.2 = some { cls := .none, data := .fields #[] } ∧ (K w.params).lookup p.2 = none) ∧ (∀ (s : Shared) (u : Value), BindsTo s fd ⟨[u], []⟩ [(x, u)]) ∧
        ∀ base : Heap, (K w.params).In base → base.Ns mainGlobals mg → (∀ p ∈ cs, LamX.TabB base mg p.1 p.2) → FnG l.prog w (K w.params) mg base (L2.CX l.prog w) k fa fd [x] (sp (K w.params) w (cs.map (·.2))))
    (hsp : ∀ (K : PySem.W.Frag) (w : World) (T : List Addr) (H : Hp) (a : Addr) (ns : List Int), ns.length ≤ n → (∀ t ∈ T, H t = some (.tbl #[])) → SqL K H a (ns.map V.int) → sp K w T [.ref a] H (fun v _ => v = .bl true) fun _ _ _ => False) :
    PySem.W.WalkO q loose XP YP l.row.toRowW d [] (fun f vs => PySem.call f vs) := by
  refine Att.attach_call hn hdf fun w s₀ sA mg mb fa o pm cd doc a vs ns G Y ho hd hcd hmg hobj hints hlen hgen => ?_
  have KX := hY w _ Y
  have tabs : ∀ g ∈ gs, ∃ c Pt, TabAt mg sA.heap g c Pt := fun g hg => by
    obtain ⟨e, he, e1⟩ := List.any_eq_true.mp (List.all_eq_true.mp hgs g hg)
    obtain ⟨a', o', fd', c', P', g1, g2, g3, g4, g5, g6⟩ := G.T.tab e he
    rw [beq_iff_eq.mp e1] at g1
    exact ⟨c', P', a', o', fd', g1, g2, g3, g4, PySem.W.CodeHd.of g5 g6, g6.2⟩
  obtain ⟨cs, fd, hcs, hb, hF⟩ := F w mg fa _ KX G.T.g hmg tabs
  have hlv := hints.length
  have rv := vals_ints hints
  have hsz : ns.length ≤ sizeLine := Nat.le_trans hlen hn2
  have inT : ∀ (H : Hp), ∀ t ∈ cs.map (·.2), tabH (cs.map (·.2)) H t = some (.tbl #[]) := fun H t ht => if_pos ht
  cases hk : (K w.params).lookup a with
  | some ob =>
    have same := KX a ob hk
    rw [hobj] at same
    cases same
    refine enterGT (H := fun _ => none) (cs := cs) KX G.T.g G.T.b G.T.builtins G.T.nolimit hgen G.T.bmain hcs hr hF hb (hsp _ _ _ _ a ns hlen (inT _) ?_) (fun b u z => nomatch z) (fun _ => .inl rfl) fun b o z => absurd rfl z
    exact .inr ⟨_, vs.toArray, _, hk, rfl, rfl, rfl, by rw [List.size_toArray]; omega, by simpa using rv⟩
  | none =>
    have hH : ∀ b, (fun c => if c = a then some (HO.frz { cls := .type "list", data := .seq vs.toArray } (.lst (ns.map V.int))) else none : Hp) b = none ∨
        (fun c => if c = a then some (HO.frz { cls := .type "list", data := .seq vs.toArray } (.lst (ns.map V.int))) else none : Hp) b = some (.frz { cls := .type "list", data := .seq vs.toArray } (.lst (ns.map V.int))) ∧ b = a := by
      intro b
      by_cases e : b = a
      · exact .inr ⟨if_pos e, e⟩
      · exact .inl (if_neg e)
    have only : Only (fun c => if c = a then some (HO.frz { cls := .type "list", data := .seq vs.toArray } (.lst (ns.map V.int))) else none : Hp) := fun b => (hH b).imp id fun z => ⟨_, _, z.1⟩
    have aT : a ∉ cs.map (·.2) := fun z => by
      obtain ⟨p, hp, e⟩ := List.mem_map.mp z
      have := (hcs p hp).2.1
      rw [e, hobj] at this
      cases this
    refine enterGT (H := fun c => if c = a then some (HO.frz { cls := .type "list", data := .seq vs.toArray } (.lst (ns.map V.int))) else none) (cs := cs) KX G.T.g G.T.b G.T.builtins G.T.nolimit hgen G.T.bmain hcs hr hF hb
      (hsp _ _ _ _ a ns hlen (inT _) (.inl (.inr ⟨_, (if_neg aT).trans (if_pos rfl)⟩))) (fun b u z => ?_) only fun b o z e => ?_
    · rcases hH b with y | ⟨y, rfl⟩
      · rw [y] at z
        cases z
      · rw [y] at z
        cases z
        exact ⟨hobj, by rw [List.length_map]; exact hsz, vs, _, rv, hobj⟩
    · rcases hH b with y | ⟨y, rfl⟩
      · exact absurd y z
      · refine ⟨hk, ?_⟩
        rw [hobj] at e
        cases e
        exact ⟨_, _, rfl⟩
/-- the table of a def's code object, by the written part -/
def tabOfO (o : Obj) : Option Value := match o.data with
  | .fields vs => vs[11]?
  | _ => none
def tabOf (K : PySem.W.Frag) (cd : Value) : Option Addr := match cd with
  | .ref c => match (K.lookup c).bind tabOfO with
    | some (.ref p) => if (K.lookup p).isNone then some p else none
    | _ => none
  | _ => none
theorem tab_mk {K : PySem.W.Frag} {h : Heap} {mg : Str → Option Value} {g : Str} {c Pt f p : Addr} {oc cd : Value} {od : Option Addr} {fd : FuncData} {sl : Array (Option Value)} (X : K.In h) (hm : mg g = some (.ref f)) (hl : K.lookup f = some ⟨oc, od, .func fd, sl⟩) (hc : fd.code = cd) (ht : tabOf K cd = some p) (T : TabAt mg h g c Pt) :
    fd.code = .ref c ∧ PySem.W.CodeHd h c Pt ∧ h.get? Pt = some { cls := .none, data := .fields #[] } ∧ K.lookup Pt = none := by
  obtain ⟨a, o, fd', g1, g2, g3, g4, g5, g6⟩ := T
  rw [hm] at g1
  cases g1
  rw [X _ _ hl] at g2
  cases g2
  cases g3
  refine ⟨g4, g5, g6, ?_⟩
  rw [← hc, g4] at ht
  unfold tabOf at ht
  simp only at ht
  split at ht
  · rename_i p' hb
    split at ht
    · rename_i hn
      obtain ⟨o', ho, hv⟩ := Option.bind_eq_some_iff.mp hb
      obtain ⟨ob, us, _, _, _, _, _, _, _, e1, _, e3, e4, _⟩ := g5
      rw [X _ _ ho] at e1
      cases e1
      unfold tabOfO at hv
      rw [e3] at hv
      have hv : us[11]? = some (.ref p') := hv
      rw [hv] at e4
      cases e4
      simpa using hn
    · cases ht
  · cases ht
end PD
namespace PD
open PySem L2 PyProof.Rows PySem.Spec
open Evl (Ex)
theorem tuple_mul1 (l : Addr) (items : Array Value) (n : Nat) (dd : Option Addr) (sl : Array (Option Value)) (u : Tok) :
    Meets (Builtin.«tuple.__mul__» ⟨[.ref l, .int 1 u], []⟩) (fun _ R s => s.heap.get? l = some { cls := .type "tuple", dict := dd, data := .seq items n, slots := sl } ∧ R (.ok (.ret (Value.ref l))) s) :=
  .of_wp fun prog w A R s h => by
    obtain ⟨hp, g, d, tk, os⟩ := s
    obtain ⟨hl, h⟩ := h
    have f1 := AutoSeq1.idx_int
    have c0 : (decide ((1 : Int) < -(2 ^ 63)) || decide ((1 : Int) ≥ 2 ^ 63)) = false := by decide
    have c1 : (items.isEmpty || (1 : Int) == 1) = true := by simp
    wp_walk using wpAny_loadPart' hl
    repeat (first
      | (refine wpAny_ite_false (decide_eq_false (by rw [c0]; exact Bool.false_ne_true)) ?_; wp_walk using wpAny_loadPart' hl)
      | (refine wpAny_ite_true (decide_eq_true c1) ?_; wp_walk using wpAny_loadPart' hl))
    exact ⟨_, rfl, h⟩
def rRep1 (K : PySem.W.Frag) : R2 := fun x y H Q => ∃ l xs, x = .ref l ∧ y = .int 1 ∧ SqT K H l xs ∧ Q (.ref l) H
def rRepLA (K : PySem.W.Frag) : R2 := fun x y H Q => ∃ l k xs, x = .ref l ∧ y = .int k ∧ SqL K H l xs ∧ -(2 ^ 63) ≤ k ∧ k < 2 ^ 63 ∧ xs.length * k.toNat ≤ sizeLine ∧ ∀ p, H p = none → Q (.ref p) (upd H p (.lst (List.replicate k.toNat xs).flatten))
section
variable {K : Fr0} {X : Cx}
theorem op_rep1 : OpR X (binaryOp .Mult) (rRep1 X.K) := by
  intro pins s σ H x y v u Q I rx ry h
  obtain ⟨l, xs, rfl, rfl, hT, q⟩ := h
  cases rx
  obtain ⟨t, rfl⟩ := ry
  obtain ⟨its, r, ⟨⟨cls, dd, data, sl⟩, ho, hc, n, hd⟩, hs⟩ := I.tuple hT
  simp only at hc hd
  subst hc hd
  refine wpAny_binaryOp_repeat_ref (T := "tuple") (U := "int") (by decide) ⟨_, ho, rfl⟩ (fun s' => typeIs_int s' 1 t) noFill_tuple_mul F.fills_int_mul F.slot_int_rmul repeat_tuple F.slot_int_index.lookup
    (call_meets F.slot_int_rmul (typeIs_int s 1 t) F.entry_int_rmul (F.args_int_rmul_2 _ _) (int_rmul_tuple 1 t l its.toArray n dd sl)
      ⟨ho, rfl, ⟨_, ho, rfl⟩, call_meets F.slot_tuple_mul ⟨_, ho, rfl⟩ F.entry_tuple_mul (F.args_tuple_mul_2 _ _) (tuple_mul1 l its.toArray n dd sl t) ⟨ho, ?_⟩⟩)
  exact ⟨.ref l, H, I, rfl, q⟩
theorem op_repLA : OpR X (binaryOp .Mult) (rRepLA X.K) := by
  intro pins s σ H x y v u Q I rx ry h
  obtain ⟨l, k, xs, rfl, rfl, hL, h1, h2, hz, q⟩ := h
  cases rx
  obtain ⟨t, rfl⟩ := ry
  obtain ⟨its, r, ⟨⟨c1, d1, w1, s1⟩, n, ho, e1, e2, e3⟩, _⟩ := I.list hL
  simp only at e1 e2 e3
  subst e1 e2 e3
  have hl : its.length = xs.length := r.length.symm
  have hlen : its.toArray.size * k.toNat ≤ sizeLine := by rw [List.size_toArray, hl]; exact hz
  have hcap : ¬ its.toArray.size * k.toNat > (2 ^ 63 - 1) / 8 := by
    have : (sizeLine : Nat) ≤ (2 ^ 63 - 1) / 8 := by decide
    omega
  have hfit : ¬ (!Builtin.List.listFitsIndex k) = true := by
    rw [fitsIndex_both h1 h2]
    exact Bool.false_ne_true
  have hlong : ¬ Builtin.List.listTooLong (its.toArray.size * k.toNat) = true := by
    rw [notLongL hlen]
    exact Bool.false_ne_true
  have hnew : List.foldl (fun x1 x2 => x1 ++ x2) #[] (List.replicate (if its.toArray.isEmpty = true then 0 else k.toNat) its.toArray) = (List.replicate k.toNat its).flatten.toArray := by
    rw [size_rep]
    cases its with
    | nil => simp
    | cons a r' => rw [if_neg (by simp)]
  refine wpAny_binaryOp_repeat_ref (T := "list") (U := "int") (by decide) ⟨_, ho, rfl⟩ (fun s' => typeIs_int s' k t) noFill_list_mul F.fills_int_mul F.slot_int_rmul repeat_list F.slot_int_index.lookup
    (call_meets F.slot_int_rmul (typeIs_int s k t) F.entry_int_rmul (F.args_int_rmul_2 _ _) (lm_int_rmul_list_any k t l its.toArray n none s1)
      ⟨ho, rfl, ⟨_, ho, rfl⟩, call_meets F.slot_list_mul ⟨_, ho, rfl⟩ F.entry_list_mul (F.args_list_mul_2 _ _) (lm_list_mul_any l its.toArray n none s1 k t hfit hcap hlong) ⟨ho, ?_⟩⟩)
  rw [hnew]
  exact ⟨.ref _, _, I.lnew (t' := s.toks) (r.rep k.toNat) (by rw [PyProof.Rows.lm_len_rep_flat, Nat.mul_comm]; exact hz), rfl, q _ I.fresh⟩
def gMulX : D → D → Option D
  | .tuple xs, .int k => if k = 1 then some (.tuple xs) else gMul (.tuple xs) (.int k)
  | .list xs, .int k => if 0 ≤ k ∧ k ≤ 1000 ∧ xs.length ≤ 1000 then some (.list (List.replicate k.toNat xs).flatten) else none
  | x, y => gMul x y
def rMulX (K : PySem.W.Frag) : R2 := opOr (rMulA K) (opOr (rRep1 K) (rRepLA K))
theorem op_mulX : OpR X (binaryOp .Mult) (rMulX X.K) := or_op op_mulA (or_op op_rep1 op_repLA)
theorem rd_mulX : R2D K (rMulX K.f) gMulX := by
  intro L H x y dx dy d Q tr hx hy hg k
  unfold gMulX at hg
  split at hg
  · split at hg
    · cases hg
      rename_i xs kk hz
      obtain ⟨a, vs, rfl, h1, h2⟩ := rp_tuple hx
      refine .inr (.inl ⟨a, vs, rfl, by rw [rp_int hy, hz], h1, k _ _ (Ex.refl _) hx⟩)
    · exact .inl (rd_mul L H x y _ _ d Q tr hx hy hg k)
  · split at hg
    · cases hg
      rename_i xs kk hz
      obtain ⟨a, vs, rfl, h1, h2⟩ := rp_list hx
      have e1 := dpa_len h2
      refine .inr (.inr ⟨a, kk, vs, rfl, rp_int hy, h1, by omega, by omega, ?_, fun p hp => k _ _ (Ex.new hp) (new_lst tr hp (rp_rep h2 _))⟩)
      rw [sizeLine_eq]
      have a1 : vs.length * kk.toNat ≤ 1000 * 1000 := Nat.mul_le_mul (by omega) (by omega)
      omega
    · cases hg
  · exact .inl (rd_mul L H x y _ _ d Q tr hx hy hg k)
end
end PD
namespace PD
open PySem L2 PyProof.Rows PySem.Spec
def lamE (p : Program) (path : List Nat) : Expr := (lamAt p path).getD default
def eArgs : Expr → Arguments
  | .Lambda a _ _ _ => a
  | _ => ⟨[], [], none, [], [], none, []⟩
def eBody : Expr → Expr
  | .Lambda _ b _ _ => b
  | e => e
def eScope : Expr → Scope
  | .Lambda _ _ s _ => s
  | _ => default
def ePos : Expr → Pos
  | .Lambda _ _ _ p => p
  | _ => ⟨0, 0, 0, 0⟩
end PD
namespace K02
open PySem L2 PyProof.Rows PySem.Spec PD GM GP GA
open Evl (Ex)
def top (i : Nat) : Stmt := PySem.Challenge.pw_guardkeeps_k02_wishes_kinds_and_runs_ref.main.body.getD i (.Pass ⟨0, 0, 0, 0⟩)
def nm0 : Nat → Nat → Str := fun l c => match l, c with
  | 132, 13 => "_law_calls.<locals>.<lambda>"
  | 133, 17 => "_law_calls.<locals>.<lambda>"
  | 134, 17 => "_law_calls.<locals>.<lambda>"
  | 135, 17 => "_law_calls.<locals>.<lambda>"
  | 136, 17 => "_law_calls.<locals>.<lambda>"
  | 137, 17 => "_law_calls.<locals>.<lambda>"
  | 158, 24 => "_law_kinds_right.<locals>.<lambda>"
  | _, _ => ""
abbrev MM (TT : List Addr) : Mk0 := MAt TT nm0
structure Txt (mg : Str → Option Value) : Prop where
  ValueError : mg "ValueError" = none
  all : mg "all" = none
  any : mg "any" = none
  bool : mg "bool" = none
  c_LONGEST_RUN : ∃ t, mg "LONGEST_RUN" = some (.int 400 t)
  c_MOST_AHEAD : ∃ t, mg "MOST_AHEAD" = some (.int 2 t)
  c_MOST_DEEDS : ∃ t, mg "MOST_DEEDS" = some (.int 4 t)
  c_MOST_HELD : ∃ t, mg "MOST_HELD" = some (.int 3 t)
  c_MOST_STATES : ∃ t, mg "MOST_STATES" = some (.int 6 t)
  enumerate : mg "enumerate" = none
  int : mg "int" = none
  isinstance : mg "isinstance" = none
  len : mg "len" = none
  list : mg "list" = none
  min : mg "min" = none
  range : mg "range" = none
  set : mg "set" = none
  sorted : mg "sorted" = none
  tuple : mg "tuple" = none
  zip : mg "zip" = none
section
variable {P : Program} {w : World} {K : PySem.W.Frag} {mg : Str → Option Value} {base : Heap} {TT : List Addr}
abbrev s_law_next : Stmt := top 31
theorem sc_law_next : FnScope ["m", "total", "rest", "k", "cell", "mixed"] ["m", "total"] (defScope s_law_next) := ⟨rfl, rfl, rfl, by decide +kernel, rfl, by decide +kernel, by decide +kernel⟩
theorem ok_law_next {f : Addr} {fd : FuncData} (F : Fun K "_law_next" "_law_next" s_law_next f fd) (T : Txt mg) : FnG P w K mg base (L2.CX P w) 1 f fd ["m", "total"] (spD ⟨K, w, P⟩ (MM TT) 2 W_nextA) := by
  refine fnG_of F sc_law_next (fun vs H Q E h => spD_len vs H Q E h) fun cdv A outer s H vs Q E hgd hr ⟨P', F', L, ρ, r, hb, hl, hw⟩ => ?_
  have nd := sc_law_next.nd
  have hu : (A.deeper (envOfC "_law_next" (defScope s_law_next) s.heap.objs.size f cdv)).units + 64 < cLine := hr.units
  have hu1 : (A.deeper (envOfC "_law_next" (defScope s_law_next) s.heap.objs.size f cdv)).units + 1 < cLine := by omega
  refine ⟨_, PSs.nox (C8.pss_cut (ps_while PassesOwn.never (PW.pt (pw_and (pt_cmpR (op_neD hu) (pe_dget hu1 (pv 0) pe_str (fun _ _ => rfl)) (pe_lst pa_nil) (nomark _)) (pw_and1 (pt_cmpR op_eq (pe_ix ix_list (pe_dget hu1 (pv 0) pe_str (fun _ _ => rfl)) pe_int (fun _ _ => rfl)) pe_int (nomark _)))))
      (pss_one (ps_dput hu1 (pv 0) pe_str (pe_slice sl_list (pe_dget hu1 (pv 0) pe_str (fun _ _ => rfl)) (po_some pe_int) po_none) rfl)))
    (pss_cons (ps_if (pt_cmpR (op_neD hu) (pe_dget hu1 (pv 0) pe_str (fun _ _ => rfl)) (pe_lst pa_nil) (nomark _))
      (pss_cons (ps_set (i := 2) nd rfl (Or.inl rfl) (pe_callTy call_int1 (by rfl) T.int (by decide +kernel) (pa_cons (pe_ix ix_list (pe_dget hu1 (pv 0) pe_str (fun _ _ => rfl)) pe_int (fun _ _ => rfl)) pa_nil) (by decide) (by decide)))
      (pss_cons (ps_asg (pe_op op_fdiv (pv 2) (pv 1)) (pg_sub (pe_dget hu1 (pv 0) pe_str (fun _ _ => rfl)) pe_int set_list))
      (pss_one (ps_ret (pe_op op_mod (pv 2) (pv 1))))))
      pss_nil)
    (pss_cons (ps_set (i := 3) nd rfl (Or.inl rfl) (pe_op op_add (pe_dget hu1 (pv 0) pe_str (fun _ _ => rfl)) pe_int))
    (pss_cons (ps_dput hu1 (pv 0) pe_str (pv 3) rfl)
    (C8.pss_cut (ps_set (i := 4) nd rfl (Or.inl rfl) (pe_ifExp (pt_cmpR (op_neD hu) (pe_dget hu1 (pv 0) pe_str (fun _ _ => rfl)) (pe_lst pa_nil) (nomark _)) (pe_ix ix_list (pe_dget hu1 (pv 0) pe_str (fun _ _ => rfl)) (pe_op op_mod (pe_callTy call_int1 (by rfl) T.int (by decide +kernel) (pa_cons (pv 3) pa_nil) (by decide) (by decide)) (pe_callB call_len_seq (by rfl) T.len (by decide +kernel) (pa_cons (pe_dget hu1 (pv 0) pe_str (fun _ _ => rfl)) pa_nil) (by decide) (by decide))) (fun _ _ => rfl)) pe_int))
    (pss_cons (ps_set (i := 5) nd rfl (Or.inl rfl) (pe_op op_mul (pe_callTy call_int1 (by rfl) T.int (by decide +kernel) (pa_cons (pe_op op_add (pe_op op_add (pe_op op_mod (pe_callTy call_int1 (by rfl) T.int (by decide +kernel) (pa_cons (pv 4) pa_nil) (by decide) (by decide)) pe_int) (pe_op op_mul pe_int (pv 3))) (pe_op op_mul (pe_op op_mul pe_int (pv 3)) (pv 3))) pa_nil) (by decide) (by decide)) pe_int))
    (pss_cons (ps_set (i := 5) nd rfl (Or.inl rfl) (pe_op op_mul (pe_callTy call_int1 (by rfl) T.int (by decide +kernel) (pa_cons (pe_op op_add (pe_op op_mod (pe_callTy call_int1 (by rfl) T.int (by decide +kernel) (pa_cons (pv 5) pa_nil) (by decide) (by decide)) pe_int) (pe_op op_mul pe_int (pv 3))) pa_nil) (by decide) (by decide)) pe_int))
    (pss_one (ps_ret (pe_op op_mod (pe_callTy call_int1 (by rfl) T.int (by decide +kernel) (pa_cons (pe_op op_fdiv (pe_op op_mod (pe_callTy call_int1 (by rfl) T.int (by decide +kernel) (pa_cons (pv 5) pa_nil) (by decide) (by decide)) pe_int) pe_int) pa_nil) (by decide) (by decide)) (pv 1))))))))))), ?_⟩
  obtain ⟨t, e0, ht, ht2, hn, hk⟩ := hw
  obtain ⟨sl, n⟩ := ρ
  simp only at e0
  subst e0
  obtain ⟨p, eP, e1⟩ := r.getSt (i := 0) rfl
  subst eP
  obtain ⟨c, l0, cs, ls0, k0, eA, ncl, hp, hc, hl0, hk0, hkn, hc63, hl63⟩ : ∃ (c l0 : Addr) (cs ls0 : List Int) (k0 : Int), ((∀ a ∈ [p, c, l0], a ∈ L ∧ F' a = none) ∧ ∀ (i : Nat) (xs : Ow) (l : Addr), ([.st, .d (.int t)] : List Sl)[i]? = some (.own xs) → (vs.map some)[i]? = some (some (.ref l)) → l ∉ [p, c, l0]) ∧ c ≠ l0 ∧ H p = some (.dK (kvA c l0 k0)) ∧ H c = some (.lst (cs.map V.int)) ∧ H l0 = some (.lst (ls0.map V.int)) ∧ 0 ≤ k0 ∧ k0 ≤ n ∧ cs.length ≤ 63 ∧ ls0.length ≤ 63 := by
    obtain ⟨A, ⟨c, l, cs, ls, k, eA, n1, h1, h2, h3, a, b, r1, r2⟩, g1, g2⟩ := r.m p rfl
    subst eA
    exact ⟨c, l, cs, ls, k, ⟨g1, g2⟩, n1, h1, h2, h3, a, b, r1, r2⟩
  have hlen : vs.length = 2 := by have := r.len; simpa using this
  obtain ⟨v1, v2, rfl⟩ : ∃ v1 v2, vs = [v1, v2] := by
    match vs, hlen with
    | [a, b], _ => exact ⟨a, b, rfl⟩
  obtain rfl : v1 = .ref p := by simpa using e1
  obtain ⟨v3, e2, e3⟩ := r.sl 1 (.d (.int t)) (some v2) rfl rfl
  obtain rfl := Option.some.inj e2
  obtain rfl := rp_int e3
  have nl0p : l0 ≠ p := fun e => by rw [e, hp] at hl0; cases hl0
  have SA0 : SA H p c l0 cs l0 ls0 k0 H := ⟨hp, hc, hl0, ncl, .inl rfl, fun a o h _ _ => h, ⟨_, hl0⟩, ncl, hl63⟩
  refine ⟨fun σ H1 => σ = [some (.ref p), some (.int t), none, none, none, none] ∧ ∃ l ls, SA H p c l0 cs l ls k0 H1, ?_, ?_⟩
  · -- the loop
    refine ⟨fun m σ H1 => σ = [some (.ref p), some (.int t), none, none, none, none] ∧ ∃ l ls, ls.length = m ∧ SA H p c l0 cs l ls k0 H1, ⟨_, rfl, l0, ls0, rfl, SA0⟩, ?_⟩
    rintro m σ H1 ⟨rfl, l, ls, hm, S⟩
    refine t_neNil w rfl S.hp kvA_left S.hl fun t1 ht1 => ?_
    have S1 := S.new (o := HO.lst []) ht1
    cases ls with
    | nil => exact ⟨rfl, l, [], S1⟩
    | cons x xs =>
      refine iteT (t_get rfl S1.hp kvA_left ⟨l, _, 0, .int x, rfl, rfl, .inl (.inl S1.hl), at0, rfl, _, rfl, ?_⟩)
      by_cases hx : x = 0
      · subst hx
        rw [decide_eq_true rfl]
        refine iteT ⟨fun σ H1 => σ = [some (.ref p), some (.int t), none, none, none, none] ∧ ∃ l, SA H p c l0 cs l xs k0 H1, ?_, ?_⟩
        · rintro σ' H' ⟨rfl, l', S'⟩
          exact ⟨xs.length, by rw [← hm]; exact Nat.lt_succ_self _, rfl, l', xs, rfl, S'⟩
        · refine t_get rfl S1.hp kvA_left ⟨1, rfl, l, _, rfl, .inl (.inl S1.hl), fun t2 ht2' => ?_⟩
          have S2 := S1.new (o := HO.lst (cutV (((0 : Int) :: xs).map V.int) (some 1) none)) ht2'
          refine ⟨_, rfl, ?_⟩
          have hput := DPut.k (k := (.inr "left" : Key)) (v := .ref t2) S2.hp (by show 3 < sizeLine; rw [sizeLine_eq]; omega)
          rw [kvA_pleft] at hput
          refine ⟨p, _, rfl, hput, rfl, t2, ?_⟩
          have ntp : t2 ≠ p := (ne_of_none S1.hp ht2').symm
          have ntc : t2 ≠ c := (ne_of_none S1.hc ht2').symm
          refine ⟨upd_same, by rw [upd_ne S2.np.2.symm]; exact S2.hc, by rw [upd_ne ntp, upd_same]; exact congrArg (fun z => some (HO.lst z)) cut1, ntc.symm, .inr ?_, fun a o h n1 n2 => by rw [upd_ne n1]; exact S2.same a o h n1 n2, ?_, S.cn, by have := S.ln; simp at this; omega⟩
          · cases z : H t2 with
            | none => rfl
            | some o =>
              have := S1.same t2 o z ntp (fun e => by obtain ⟨o', h'⟩ := S1.h0; rw [← e, ht2'] at h'; cases h')
              rw [ht2'] at this
              cases this
          · obtain ⟨o, ho⟩ := S2.h0
            exact ⟨o, by rw [upd_ne nl0p]; exact ho⟩
      · rw [decide_eq_false (fun e => hx (V.int.inj e))]
        exact ⟨rfl, l, _, S1⟩
  · -- behind it
    rintro σ H1 ⟨rfl, l, ls, S⟩
    refine t_neNil w rfl S.hp kvA_left S.hl fun t1 ht1 => ?_
    have S1 := S.new (o := HO.lst []) ht1
    cases ls with
    | cons x xs =>
      refine iteT (t_get rfl S1.hp kvA_left ⟨l, _, 0, .int x, rfl, rfl, .inl (.inl S1.hl), at0, .inl ⟨x, rfl, ?_⟩⟩)
      refine ⟨_, rfl, _, rfl, x, t, rfl, rfl, ⟨ht, ht2⟩, t_get rfl S1.hp kvA_left ⟨l, _, 0, 0, rfl, rfl, S1.hl, by unfold ixN; simp, ?_⟩⟩
      refine ⟨_, rfl, _, rfl, x, t, rfl, rfl, ht, ?_⟩
      have S2 : SA H p c l0 cs l ((x / t) :: xs) k0 (upd (upd H1 t1 (.lst [])) l (.lst (((x :: xs).map V.int).set 0 (.int (x / t))))) :=
        ⟨by rw [upd_ne S1.np.1]; exact S1.hp, by rw [upd_ne S1.ncl]; exact S1.hc, by rw [upd_same]; rfl, S1.ncl, S1.fresh, fun a o h n1 n2 => ?_, ?_, S1.cn, by have := S1.ln; simpa using this⟩
      · exact endA r eA S2 (nt3 hp hc hl0) hc63 hk0 (by show k0 ≤ ((n + 1 : Nat) : Int); omega) ht hk
      · have := S1.same a o h n1 n2
        rw [upd_ne (fun e => by
          rcases S1.fresh with f | f
          · exact n2 (e.trans f)
          · rw [e, f] at h; cases h)]
        exact this
      · by_cases e : l0 = l
        · exact ⟨_, by rw [e]; exact upd_same⟩
        · obtain ⟨o, ho⟩ := S1.h0
          exact ⟨o, by rw [upd_ne e]; exact ho⟩
    | nil =>
      refine iteF ?_
      refine t_get rfl S1.hp kvA_at ⟨_, _, rfl, rfl, ?_⟩
      have hput := DPut.k (k := (.inr "at" : Key)) (v := .int (k0 + 1)) S1.hp (by show 3 < sizeLine; rw [sizeLine_eq]; omega)
      rw [kvA_pat] at hput
      refine ⟨_, rfl, _, rfl, p, _, rfl, hput, ?_⟩
      have S2 : SA H p c l0 cs l [] (k0 + 1) (upd (upd H1 t1 (.lst [])) p (.dK (kvA c l (k0 + 1)))) :=
        ⟨upd_same, by rw [upd_ne S1.np.2.symm]; exact S1.hc, by rw [upd_ne S1.np.1.symm]; exact S1.hl, S1.ncl, S1.fresh, fun a o h n1 n2 => by rw [upd_ne n1]; exact S1.same a o h n1 n2, by
          obtain ⟨o, ho⟩ := S1.h0
          exact ⟨o, by rw [upd_ne nl0p]; exact ho⟩, S1.cn, by simp⟩
      refine ⟨fun σ H1 => ∃ cl : Int, σ = [some (.ref p), some (.int t), none, some (.int (k0 + 1)), some (.int cl), none] ∧ SA H p c l0 cs l [] (k0 + 1) H1, ?_, ?_⟩
      · refine t_neNil w rfl S2.hp kvA_cells S2.hc fun t2 ht2' => ?_
        have S3 := S2.new (o := HO.lst []) ht2'
        by_cases hcs : cs = []
        · rw [decide_eq_true hcs]
          exact iteF ⟨3, rfl, S3⟩
        · rw [decide_eq_false hcs]
          have hpos : 0 < cs.length := List.length_pos_iff.mpr hcs
          have g0 : 0 ≤ (k0 + 1) % (cs.length : Int) := Int.emod_nonneg _ (by omega)
          have g1 : (k0 + 1) % (cs.length : Int) < cs.length := Int.emod_lt_of_pos _ (by omega)
          obtain ⟨j, hj⟩ := Int.eq_ofNat_of_zero_le g0
          have hjl : j < cs.length := by omega
          refine iteT (t_get rfl S3.hp kvA_cells ⟨_, rfl, .inl ⟨_, rfl, t_get rfl S3.hp kvA_cells ⟨c, _, rfl, .inl (.inl (.inl S3.hc)), _, _, rfl, rfl, ?_, ?_⟩⟩⟩)
          · show (0 : Int) < ((cs.map V.int).length : Int)
            rw [List.length_map]
            omega
          · refine ⟨c, _, _, .int cs[j], rfl, rfl, .inl (.inl S3.hc), ?_, cs[j], rfl, S3⟩
            show atI (cs.map V.int) ((k0 + 1) % ((cs.map V.int).length : Int)) = some (V.int cs[j])
            rw [List.length_map, hj]
            exact atI_nat (by rw [List.getElem?_map, List.getElem?_eq_getElem hjl]; rfl)
      · rintro σ H2 ⟨cl, rfl, S⟩
        have hkb : -(2 ^ 64) < k0 + 1 ∧ k0 + 1 < 2 ^ 64 := by
          have hn' : n < 1000000000000 := hn
          constructor
          · have : (0 : Int) ≤ 2 ^ 64 := by decide
            omega
          · have : (1000000000001 : Int) < 2 ^ 64 := by decide
            omega
        refine ⟨_, rfl, .inl ⟨cl, rfl, cl, 2147483629, rfl, rfl, (by decide : (0 : Int) < 2147483629), _, rfl, 7919, k0 + 1, rfl, rfl, .inr hkb, _, _, rfl, rfl, _, rfl, 19, k0 + 1, rfl, rfl, .inr hkb, _, rfl, _, k0 + 1, rfl, rfl, .inr hkb, _, _, rfl, rfl, .inl ⟨_, rfl, ?_⟩⟩⟩
        refine ⟨_, 48271, rfl, rfl, .inr (by decide), ?_⟩
        refine ⟨_, rfl, .inl ⟨_, rfl, _, 2147483647, rfl, rfl, (by decide : (0 : Int) < 2147483647), _, rfl, 104729, k0 + 1, rfl, rfl, .inr hkb, _, _, rfl, rfl, .inl ⟨_, rfl, ?_⟩⟩⟩
        refine ⟨_, 69621, rfl, rfl, .inr (by decide), ?_⟩
        refine ⟨_, rfl, .inl ⟨_, rfl, _, 2147483587, rfl, rfl, (by decide : (0 : Int) < 2147483587), _, 11, rfl, rfl, (by decide : (0 : Int) < 11 ∧ (11 : Int) < 1073741824), .inl ⟨_, rfl, ?_⟩⟩⟩
        refine ⟨_, rfl, _, t, rfl, rfl, ht, ?_⟩
        exact endA r eA S (nt3 hp hc hl0) hc63 (by omega) (by show k0 + 1 ≤ ((n + 1 : Nat) : Int); omega) ht hk
abbrev s_law_begun : Stmt := top 30
theorem sc_law_begun : FnScope ["script", "cell"] ["script"] (defScope s_law_begun) := ⟨rfl, rfl, rfl, by decide +kernel, rfl, by decide +kernel, by decide +kernel⟩
theorem ok_law_begun {f : Addr} {fd : FuncData} (F : Fun K "_law_begun" "_law_begun" s_law_begun f fd) (T : Txt mg) : FnG P w K mg base (L2.CX P w) 1 f fd ["script"] (spB ⟨K, w, P⟩ (MM TT) 1 B_law) := by
  refine fnG_of F sc_law_begun (fun vs H Q E h => h.1) fun cdv A outer s H vs Q E hgd hr ⟨hlen, ds, hd, ⟨ns, e, h63⟩, q⟩ => ?_
  have nd := sc_law_begun.nd
  refine ⟨_, PSs.nox (pss_one (ps_ret (pe_disp (pps_cons pe_str (pe_callTy call_list_of (by rfl) T.list (by decide +kernel) (pa_cons (pv 0) pa_nil) (by decide) (by decide))
    (pps_cons pe_str (pn_lc (M := MA) rfl nd (own := [("cell", 1)]) (vs := [1]) (pdi_seq (pd_var (pv 0))) (blkOk_by (own := [("cell", 1)]) (N := ["script", "cell"]) (sc := defScope s_law_begun) (by decide +kernel)) rfl (fun _ _ _ _ _ => pg1_name (i := 1) (pg_name (i := 1) nd rfl (by first | exact Or.inl rfl | exact Or.inr rfl))) (fun _ _ _ _ _ => ptn_one (pdt_cmp op_ge rd_cmp (pd_var (pv 1)) (pd_op op_pow rd_pow (pd_int) (pd_int)) (by first | exact nomark _ | rfl))) (fun _ _ _ _ _ => pd_var (pv 1)) s).pe
    (pps_cons pe_str pe_int pps_nil))) rfl rfl (by simp) (by decide)))), ?_⟩
  subst e
  cases hd with
  | cons h1 h2 =>
    cases h2
    obtain ⟨a, us, rfl, g1, g2⟩ : ∃ a us, _ = V.ref a ∧ SqL K H a us ∧ RpAll ⟨K, w, P⟩ H us (ns.map .int) := by
      have h3 := h1
      rw [← hide_nil H] at h3
      have := rp_list h3
      rw [hide_nil] at this
      exact this
    have eu := dpa_ints_eq g2
    subst eu
    intro p hp
    have x1 : Ex H (upd H p (.dK [])) := Ex.new hp
    refine ⟨_, rfl, a, _, rfl, .inl (Evl.ex_l x1 g1), fun c hc => ?_⟩
    have x2 := Ex.new (o := HO.lst (ns.map V.int)) hc
    generalize hH2 : upd (upd H p (.dK [])) c (.lst (ns.map V.int)) = H2 at x2
    have d2 : Rp ⟨K, w, P⟩ H2 (.ref a) (.list (ns.map .int)) := dp_ex (x1.trans x2) _ _ h1
    have sg : R ⟨K, w, P⟩ MA none (fun _ => none) [] ⟨[.d (.list (ns.map .int)), .no], 0⟩ [some (.ref a), none] H2 := by
      refine ⟨rfl, fun i s o e1 e2 => ?_, fun a o z => (by cases z), fun a z => absurd z List.not_mem_nil, fun i j xs ys l _ z => ?_, fun i xs l z => ?_, fun q z => (by cases z), fun t z => absurd z List.not_mem_nil⟩
      · match i, e1, e2 with
        | 0, e1, e2 => cases e1; cases e2; exact ⟨_, rfl, by rw [hide_nil]; exact d2⟩
        | 1, e1, e2 => cases e1; trivial
      · match i, z with
        | 0, z => cases z
        | 1, z => cases z
      · match i, z with
        | 0, z => cases z
        | 1, z => cases z
    refine ⟨none, fun _ => none, [], _, sg, ⟨.list (ns.map .int), rfl, ns.map .int, rfl, by rw [List.length_map]; omega, comp_big ns [] _ _ _ _ rfl fun ms hm => ?_⟩⟩
    intro l vs L' H' e3 hF r3 d3
    obtain rfl := dpa_ints_eq d3
    have hl := r3.fr l _ upd_same
    rw [hide_nil] at e3
    have x3 : Ex H2 H' := fun a o ho => (hide_some.mp (e3 a o ho)).2
    have hl2 : H2 l = none := by
      cases z : H2 l with
      | none => rfl
      | some o => exact absurd hl.2 (hide_some.mp (e3 l o z)).1
    have hp2 : H2 p = some (.dK []) := x2 _ _ upd_same
    have hc2 : H2 c = some (.lst (ns.map V.int)) := by rw [← hH2]; exact upd_same
    have npc : p ≠ c := ne_of_none upd_same hc
    have npl : p ≠ l := ne_of_none hp2 hl2
    have ncl : c ≠ l := ne_of_none hc2 hl2
    refine ⟨x3 _ _ hp2, [(.inr "cells", .ref c), (.inr "left", .ref l), (.inr "at", .int 0)], rfl, (by show 3 ≤ 15; omega), ?_⟩
    refine q p [p, c, l] _ (fun b o hb => ?_) (fun b hb => ?_) ⟨c, l, ns, ms, 0, rfl, ncl, upd_same, by rw [upd_ne npc.symm]; exact x3 _ _ hc2, by rw [upd_ne npl.symm]; exact hl.1, Int.le_refl _, by omega, h63, by simpa using Nat.le_trans hm (by simpa using h63)⟩
    · rw [upd_ne (ne_of_none hb hp)]
      exact x3 _ _ (x2 _ _ (x1 _ _ hb))
    · have hz := hb
      rcases List.mem_cons.mp hz with z | hz
      · subst z; exact ⟨hp, _, upd_same⟩
      · have fb : b ≠ p → H2 b = none → H b = none := fun _ h => by
          cases z : H b with
          | none => rfl
          | some o => rw [x2 _ _ (x1 _ _ z)] at h; cases h
        rcases List.mem_cons.mp hz with z | hz
        · subst z
          refine ⟨?_, _, by rw [upd_ne npc.symm]; exact x3 _ _ hc2⟩
          rw [upd_ne npc.symm] at hc
          exact hc
        · rcases List.mem_cons.mp hz with z | hz
          · subst z
            exact ⟨fb npl.symm hl2, _, by rw [upd_ne npl.symm]; exact hl.1⟩
          · cases hz
abbrev W_law_next := W_nextA
abbrev mW_law_next := mW_nextA
abbrev s_is_count : Stmt := top 1
theorem sc_is_count : FnScope ["thing"] ["thing"] (defScope s_is_count) := ⟨rfl, rfl, rfl, by decide +kernel, rfl, by decide +kernel, by decide +kernel⟩
theorem raw_is_count {f : Addr} {fd : FuncData} (F : Fun K "is_count" "is_count" s_is_count f fd) (T : Txt mg) : FnG P w K mg base (L2.CX P w) (1) f fd ["thing"] (spD ⟨K, w, P⟩ (MM TT) 1 (fBody 1 w_is_count)) := by
  refine fnD F sc_is_count fun cdv A outer s H E hgd hr => ?_
  have nd := (sc_is_count).nd
  have hu : (A.deeper (envOfC "is_count" (defScope s_is_count) s.heap.objs.size f cdv)).units + 64 < cLine := hr.units
  exact pds_cons (pds_if (PDW.pt (pdw_or (pdt_truth (pd_isiX (T := "bool") (by decide) (by rfl) T.isinstance (pe_tyName (by rfl) T.bool (by decide +kernel)) (pd_var (pv 0)))) (pdw_or1 (pdt_not (pdt_truth (pd_isiX (T := "int") (by decide) (by rfl) T.isinstance (pe_tyName (by rfl) T.int (by decide +kernel)) (pd_var (pv 0)))))))) (pds_one (pds_ret (pd_bl))) (pds_nil))
    (pds_one (pds_ret (pd_cmp op_ge rd_cmp (pd_var (pv 0)) (pd_int) (by first | exact nomark _ | rfl))))
abbrev s_is_integer : Stmt := top 2
theorem sc_is_integer : FnScope ["thing", "least", "most"] ["thing", "least", "most"] (defScope s_is_integer) := ⟨rfl, rfl, rfl, by decide +kernel, rfl, by decide +kernel, by decide +kernel⟩
theorem raw_is_integer {f : Addr} {fd : FuncData} {a_is_count : Addr} {d_is_count : FuncData} (F : Fun K "is_integer" "is_integer" s_is_integer f fd) (T : Txt mg) (g_is_count : mg "is_count" = some (.ref a_is_count)) (G_is_count : FnG P w K mg base (L2.CX P w) 1 a_is_count d_is_count ["thing"] (spD ⟨K, w, P⟩ (MM TT) 1 W_is_count)) (b_is_count : Binds K d_is_count ["thing"] []) (k_is_count : PySem.W.keepIn K (.ref a_is_count) = true) : FnG P w K mg base (L2.CX P w) (2) f fd ["thing", "least", "most"] (spD ⟨K, w, P⟩ (MM TT) 3 (fBody 3 w_is_integer)) := by
  refine fnD F sc_is_integer fun cdv A outer s H E hgd hr => ?_
  have nd := (sc_is_integer).nd
  have hu : (A.deeper (envOfC "is_integer" (defScope s_is_integer) s.heap.objs.size f cdv)).units + 64 < cLine := hr.units
  exact pds_one (pds_ret (pd_and (pd_call mW_is_count (G_is_count.mono (by decide)) hgd hr (by rfl) g_is_count k_is_count b_is_count (pda_d (pdl_cons (pd_var (pv 0)) (pdl_nil)))) (pd_one (pd_chain op_le op_le rd_cmp rd_cmp (pd_var (pv 1)) (pd_var (pv 0)) (pd_var (pv 2))))))
abbrev s_is_triple : Stmt := top 3
theorem sc_is_triple : FnScope ["thing"] ["thing"] (defScope s_is_triple) := ⟨rfl, rfl, rfl, by decide +kernel, rfl, by decide +kernel, by decide +kernel⟩
theorem raw_is_triple {f : Addr} {fd : FuncData} (F : Fun K "is_triple" "is_triple" s_is_triple f fd) (T : Txt mg) : FnG P w K mg base (L2.CX P w) (1) f fd ["thing"] (spD ⟨K, w, P⟩ (MM TT) 1 (fBody 1 w_is_triple)) := by
  refine fnD F sc_is_triple fun cdv A outer s H E hgd hr => ?_
  have nd := (sc_is_triple).nd
  have hu : (A.deeper (envOfC "is_triple" (defScope s_is_triple) s.heap.objs.size f cdv)).units + 64 < cLine := hr.units
  exact pds_one (pds_ret (pd_and (pd_isiX (T := "tuple") (by decide) (by rfl) T.isinstance (pe_tyName (by rfl) T.tuple (by decide +kernel)) (pd_var (pv 0))) (pd_one (pd_cmp (op_eqA hu) rd_eqA (pd_b1 call_lenA r1_len (by rfl) T.len (by decide +kernel) (pd_var (pv 0))) (pd_int) (by first | exact nomark _ | rfl)))))
abbrev s_are_numbers : Stmt := top 4
theorem sc_are_numbers : FnScope ["thing", "many", "one"] ["thing", "many"] (defScope s_are_numbers) := ⟨rfl, rfl, rfl, by decide +kernel, rfl, by decide +kernel, by decide +kernel⟩
theorem raw_are_numbers {f : Addr} {fd : FuncData} {a_is_integer : Addr} {d_is_integer : FuncData} (F : Fun K "are_numbers" "are_numbers" s_are_numbers f fd) (T : Txt mg) (g_is_integer : mg "is_integer" = some (.ref a_is_integer)) (G_is_integer : FnG P w K mg base (L2.CX P w) 2 a_is_integer d_is_integer ["thing", "least", "most"] (spD ⟨K, w, P⟩ (MM TT) 3 W_is_integer)) (b_is_integer : Binds K d_is_integer ["thing", "least", "most"] []) (k_is_integer : PySem.W.keepIn K (.ref a_is_integer) = true) : FnG P w K mg base (L2.CX P w) (3) f fd ["thing", "many"] (spD ⟨K, w, P⟩ (MM TT) 2 (fBody 3 w_are_numbers)) := by
  refine fnD F sc_are_numbers fun cdv A outer s H E hgd hr => ?_
  have nd := (sc_are_numbers).nd
  have hu : (A.deeper (envOfC "are_numbers" (defScope s_are_numbers) s.heap.objs.size f cdv)).units + 64 < cLine := hr.units
  exact pds_cons (pds_if (pdt_not (pdt_truth (pd_isiX (T := "tuple") (by decide) (by rfl) T.isinstance (pe_tyName (by rfl) T.tuple (by decide +kernel)) (pd_var (pv 0))))) (pds_one (pds_ret (pd_bl))) (pds_nil))
    (pds_one (pds_ret (pd_b1 (cr_all rfl) r1_all (by rfl) T.all (by decide +kernel) (pd_ofN (pn_lc rfl nd (own := [("one", 2)]) (vs := [2]) (pdi_seq (pd_var (pv 0))) (blkOk_by (own := [("one", 2)]) (N := ["thing", "many", "one"]) (sc := defScope s_are_numbers) (by decide +kernel)) rfl (fun _ _ _ _ _ => pg1_name (i := 2) (pg_name (i := 2) nd rfl (by first | exact Or.inl rfl | exact Or.inr rfl))) (fun _ _ _ _ _ => ptn_nil) (fun _ _ _ _ _ => pd_call mW_is_integer (G_is_integer.mono (by decide)) hgd hr (by rfl) g_is_integer k_is_integer b_is_integer (pda_d (pdl_cons (pd_var (pv 2)) (pdl_cons (pd_int) (pdl_cons (pd_op op_sub rd_sub (pd_var (pv 1)) (pd_int)) (pdl_nil)))))) s)))))
abbrev s_are_ascending : Stmt := top 5
theorem sc_are_ascending : FnScope ["thing", "many"] ["thing", "many"] (defScope s_are_ascending) := ⟨rfl, rfl, rfl, by decide +kernel, rfl, by decide +kernel, by decide +kernel⟩
theorem raw_are_ascending {f : Addr} {fd : FuncData} {a_are_numbers : Addr} {d_are_numbers : FuncData} {a_are_rising : Addr} {d_are_rising : FuncData} (F : Fun K "are_ascending" "are_ascending" s_are_ascending f fd) (T : Txt mg) (g_are_numbers : mg "are_numbers" = some (.ref a_are_numbers)) (g_are_rising : mg "are_rising" = some (.ref a_are_rising)) (G_are_numbers : FnG P w K mg base (L2.CX P w) 3 a_are_numbers d_are_numbers ["thing", "many"] (spD ⟨K, w, P⟩ (MM TT) 2 W_are_numbers)) (b_are_numbers : Binds K d_are_numbers ["thing", "many"] []) (k_are_numbers : PySem.W.keepIn K (.ref a_are_numbers) = true) (G_are_rising : FnG P w K mg base (L2.CX P w) 1 a_are_rising d_are_rising ["things"] (spD ⟨K, w, P⟩ (MM TT) 1 W_are_rising)) (b_are_rising : Binds K d_are_rising ["things"] []) (k_are_rising : PySem.W.keepIn K (.ref a_are_rising) = true) : FnG P w K mg base (L2.CX P w) (4) f fd ["thing", "many"] (spD ⟨K, w, P⟩ (MM TT) 2 (fBody 2 w_are_ascending)) := by
  refine fnD F sc_are_ascending fun cdv A outer s H E hgd hr => ?_
  have nd := (sc_are_ascending).nd
  have hu : (A.deeper (envOfC "are_ascending" (defScope s_are_ascending) s.heap.objs.size f cdv)).units + 64 < cLine := hr.units
  exact pds_cons (pds_if (pdt_not (pdt_truth (pd_call mW_are_numbers (G_are_numbers.mono (by decide)) hgd hr (by rfl) g_are_numbers k_are_numbers b_are_numbers (pda_d (pdl_cons (pd_var (pv 0)) (pdl_cons (pd_var (pv 1)) (pdl_nil))))))) (pds_one (pds_ret (pd_bl))) (pds_nil))
    (pds_one (pds_ret (pd_call mW_are_rising (G_are_rising.mono (by decide)) hgd hr (by rfl) g_are_rising k_are_rising b_are_rising (pda_d (pdl_cons (pd_var (pv 0)) (pdl_nil))))))
abbrev s_are_rising : Stmt := top 6
theorem sc_are_rising : FnScope ["things", "low", "high"] ["things"] (defScope s_are_rising) := ⟨rfl, rfl, rfl, by decide +kernel, rfl, by decide +kernel, by decide +kernel⟩
theorem raw_are_rising {f : Addr} {fd : FuncData} (F : Fun K "are_rising" "are_rising" s_are_rising f fd) (T : Txt mg) : FnG P w K mg base (L2.CX P w) (1) f fd ["things"] (spD ⟨K, w, P⟩ (MM TT) 1 (fBody 3 w_are_rising)) := by
  refine fnD F sc_are_rising fun cdv A outer s H E hgd hr => ?_
  have nd := (sc_are_rising).nd
  have hu : (A.deeper (envOfC "are_rising" (defScope s_are_rising) s.heap.objs.size f cdv)).units + 64 < cLine := hr.units
  exact pds_one (pds_ret (pd_b1 (cr_all rfl) r1_all (by rfl) T.all (by decide +kernel) (pd_ofN (pn_lc rfl nd (own := [("low", 1), ("high", 2)]) (vs := [1, 2]) (pdi_zip (by rfl) T.zip (pdl_cons (pd_var (pv 0)) (pdl_cons (pd_slice (pd_var (pv 0)) (pdo_some (pd_int)) (pdo_none)) (pdl_nil)))) (blkOk_by (own := [("low", 1), ("high", 2)]) (N := ["things", "low", "high"]) (sc := defScope s_are_rising) (by decide +kernel)) rfl (fun _ _ _ _ _ => pg1_tup (pgn_cons (pg1_name (i := 1) (pg_name (i := 1) nd rfl (by first | exact Or.inl rfl | exact Or.inr rfl))) (pgn_cons (pg1_name (i := 2) (pg_name (i := 2) nd rfl (by first | exact Or.inl rfl | exact Or.inr rfl))) (pgn_nil) (pgs_cons (pg1_name (i := 2) (pg_name (i := 2) nd rfl (by first | exact Or.inl rfl | exact Or.inr rfl))).pg (pgn_nil).pg)) (pgs_cons (pg1_name (i := 1) (pg_name (i := 1) nd rfl (by first | exact Or.inl rfl | exact Or.inr rfl))).pg (pgn_cons (pg1_name (i := 2) (pg_name (i := 2) nd rfl (by first | exact Or.inl rfl | exact Or.inr rfl))) (pgn_nil) (pgs_cons (pg1_name (i := 2) (pg_name (i := 2) nd rfl (by first | exact Or.inl rfl | exact Or.inr rfl))).pg (pgn_nil).pg)).pg)) (pg_tup rfl (pgn_cons (pg1_name (i := 1) (pg_name (i := 1) nd rfl (by first | exact Or.inl rfl | exact Or.inr rfl))) (pgn_cons (pg1_name (i := 2) (pg_name (i := 2) nd rfl (by first | exact Or.inl rfl | exact Or.inr rfl))) (pgn_nil) (pgs_cons (pg1_name (i := 2) (pg_name (i := 2) nd rfl (by first | exact Or.inl rfl | exact Or.inr rfl))).pg (pgn_nil).pg)) (pgs_cons (pg1_name (i := 1) (pg_name (i := 1) nd rfl (by first | exact Or.inl rfl | exact Or.inr rfl))).pg (pgn_cons (pg1_name (i := 2) (pg_name (i := 2) nd rfl (by first | exact Or.inl rfl | exact Or.inr rfl))) (pgn_nil) (pgs_cons (pg1_name (i := 2) (pg_name (i := 2) nd rfl (by first | exact Or.inl rfl | exact Or.inr rfl))).pg (pgn_nil).pg)).pg)).pg)) (fun _ _ _ _ _ => ptn_nil) (fun _ _ _ _ _ => pd_cmp op_lt rd_cmp (pd_var (pv 1)) (pd_var (pv 2)) (by first | exact nomark _ | rfl)) s))))
def intOfD : D → Int
  | .int x => x
  | _ => 0
def lenD : D → Nat
  | .tuple xs => xs.length
  | _ => 0
def wishErr3 (q T G : D) : Option Str :=
  if intB q 1 4 = true then (if stepsB T (intOfD q) = true then (if ascB G (lenD T) = true ∧ (0 : Int) ∈ intsOfD G then none else some "good") else some "steps") else some "deeds"
def wishErr : D → Option Str
  | .tuple [q, T, G] => wishErr3 q T G
  | _ => some "form"
def okW : D → Prop
  | .tuple [q, T, G] => noInst q = true ∧ okD2 T ∧ okD G
  | d => noInst d = true
theorem okW_no {d : D} (h : okW d) : noInst d = true := by
  cases d <;> first | rfl | exact h
theorem is3_cases (d : D) : is3B d = false ∨ ∃ a b c, d = .tuple [a, b, c] := by
  cases d with
  | tuple xs =>
    match xs with
    | [] => exact .inl rfl
    | [_] => exact .inl rfl
    | [_, _] => exact .inl rfl
    | [a, b, c] => exact .inr ⟨a, b, c, rfl⟩
    | _ :: _ :: _ :: _ :: _ => exact .inl rfl
  | none => exact .inl rfl
  | bool _ => exact .inl rfl
  | int _ => exact .inl rfl
  | str _ => exact .inl rfl
  | list _ => exact .inl rfl
  | dict _ => exact .inl rfl
theorem wishErr_form {d : D} (h : is3B d = false) : wishErr d = some "form" := by
  rcases is3_cases d with _ | ⟨a, b, c, rfl⟩
  · unfold wishErr
    split
    · cases h
    · rfl
  · cases h
def bw (C : Addr) (p : Str) (k : XC) (ρ : Rho) : Prop := k (.ref C) [(.str "part", .str p)] ρ
def U_need_wish (C_BadWish : Addr) : FX := fun ρ k => ∃ d p, ρ.sl = [.d d] ∧ okW d ∧ wishErr d = some p ∧ bw C_BadWish p k ρ
theorem mU_need_wish (C_BadWish : Addr) (ρ : Rho) (k k' : XC) (hM : ∀ c fl ρ', k c fl ρ' → k' c fl ρ') (z : U_need_wish C_BadWish ρ k) : U_need_wish C_BadWish ρ k' := by
  obtain ⟨d, p, e1, e2, e3, e4⟩ := z
  exact ⟨d, p, e1, e2, e3, hM _ _ _ e4⟩
abbrev s_need_wish : Stmt := top 15
theorem sc_need_wish : FnScope ["thing", "deeds", "steps", "good"] ["thing"] (defScope s_need_wish) := ⟨rfl, rfl, rfl, by decide +kernel, rfl, by decide +kernel, by decide +kernel⟩
def w_need_wish : FS := fsSeq (fsIf (ftNot (ftT (fCall 1 W_is_triple (faD (flCons (fVar 0) (flNil)))))) (fsNever) (fsNext))
  (fsSeq (fsAsg (fVar 0) (fgTup 3 (fgCons (fgN 1) (fgCons (fgN 2) (fgCons (fgN 3) (fgNil))))))
  (fsSeq (fsIf (ftNot (ftT (fCall 3 W_is_integer (faD (flCons (fVar 1) (flCons (fC (.int 1)) (flCons (fC (.int 4)) (flNil)))))))) (fsNever) (fsNext))
  (fsSeq (fsIf (ftNot (ftT (fCall 2 W_are_steps (faD (flCons (fVar 2) (flCons (fVar 1) (flNil))))))) (fsNever) (fsNext))
  (fsSeq (fsIf (ftOr (ftNot (ftT (fCall 2 W_are_ascending (faD (flCons (fVar 3) (flCons (fUn gLen (fVar 2)) (flNil))))))) (ftB (fOp gNotIn (fC (.int 0)) (fVar 3)))) (fsNever) (fsNext))
  (fsRet (fVar 0))))))
def u_need_wish (C_BadWish : Addr) : FX := fxOr (fxIf (ftNot (ftT (fCall 1 W_is_triple (faD (flCons (fVar 0) (flNil)))))) (fxRaise (.ref C_BadWish) (some "part") (fC (.str "form"))) (fxNo)) (fxThen (fsIf (ftNot (ftT (fCall 1 W_is_triple (faD (flCons (fVar 0) (flNil)))))) (fsNever) (fsNext)) (fxThen (fsAsg (fVar 0) (fgTup 3 (fgCons (fgN 1) (fgCons (fgN 2) (fgCons (fgN 3) (fgNil)))))) (fxOr (fxIf (ftNot (ftT (fCall 3 W_is_integer (faD (flCons (fVar 1) (flCons (fC (.int 1)) (flCons (fC (.int 4)) (flNil)))))))) (fxRaise (.ref C_BadWish) (some "part") (fC (.str "deeds"))) (fxNo)) (fxThen (fsIf (ftNot (ftT (fCall 3 W_is_integer (faD (flCons (fVar 1) (flCons (fC (.int 1)) (flCons (fC (.int 4)) (flNil)))))))) (fsNever) (fsNext)) (fxOr (fxIf (ftNot (ftT (fCall 2 W_are_steps (faD (flCons (fVar 2) (flCons (fVar 1) (flNil))))))) (fxRaise (.ref C_BadWish) (some "part") (fC (.str "steps"))) (fxNo)) (fxThen (fsIf (ftNot (ftT (fCall 2 W_are_steps (faD (flCons (fVar 2) (flCons (fVar 1) (flNil))))))) (fsNever) (fsNext)) (fxIf (ftOr (ftNot (ftT (fCall 2 W_are_ascending (faD (flCons (fVar 3) (flCons (fUn gLen (fVar 2)) (flNil))))))) (ftB (fOp gNotIn (fC (.int 0)) (fVar 3)))) (fxRaise (.ref C_BadWish) (some "part") (fC (.str "good"))) (fxNo))))))))
theorem raw_need_wish {f : Addr} {fd : FuncData} {a_is_integer : Addr} {d_is_integer : FuncData} {a_is_triple : Addr} {d_is_triple : FuncData} {a_are_ascending : Addr} {d_are_ascending : FuncData} {a_are_steps : Addr} {d_are_steps : FuncData} {C_BadWish : Addr} {I_BadWish : Addr} {D_BadWish : FuncData} (F : Fun K "need_wish" "need_wish" s_need_wish f fd) (T : Txt mg) (g_is_integer : mg "is_integer" = some (.ref a_is_integer)) (g_is_triple : mg "is_triple" = some (.ref a_is_triple)) (g_are_ascending : mg "are_ascending" = some (.ref a_are_ascending)) (g_are_steps : mg "_are_steps" = some (.ref a_are_steps)) (m_BadWish : mg "BadWish" = some (.ref C_BadWish)) (G_is_integer : FnG P w K mg base (L2.CX P w) 2 a_is_integer d_is_integer ["thing", "least", "most"] (spD ⟨K, w, P⟩ (MM TT) 3 W_is_integer)) (b_is_integer : Binds K d_is_integer ["thing", "least", "most"] []) (k_is_integer : PySem.W.keepIn K (.ref a_is_integer) = true) (G_is_triple : FnG P w K mg base (L2.CX P w) 1 a_is_triple d_is_triple ["thing"] (spD ⟨K, w, P⟩ (MM TT) 1 W_is_triple)) (b_is_triple : Binds K d_is_triple ["thing"] []) (k_is_triple : PySem.W.keepIn K (.ref a_is_triple) = true) (G_are_ascending : FnG P w K mg base (L2.CX P w) 4 a_are_ascending d_are_ascending ["thing", "many"] (spD ⟨K, w, P⟩ (MM TT) 2 W_are_ascending)) (b_are_ascending : Binds K d_are_ascending ["thing", "many"] []) (k_are_ascending : PySem.W.keepIn K (.ref a_are_ascending) = true) (G_are_steps : FnG P w K mg base (L2.CX P w) 4 a_are_steps d_are_steps ["thing", "deeds"] (spD ⟨K, w, P⟩ (MM TT) 2 W_are_steps)) (b_are_steps : Binds K d_are_steps ["thing", "deeds"] []) (k_are_steps : PySem.W.keepIn K (.ref a_are_steps) = true) (Z_BadWish : ExC K C_BadWish I_BadWish) (N_BadWish : FnOk P w K mg base (L2.CX P w) 1 I_BadWish D_BadWish ["self", "part"] (spExA C_BadWish "part")) (B_BadWish : Binds K D_BadWish ["self", "part"] []) : FnG P w K mg base (L2.CX P w) (5) f fd ["thing"] (spX ⟨K, w, P⟩ (MM TT) 1 (fBody 4 w_need_wish) (fBodyX 4 (u_need_wish C_BadWish))) := by
  refine fnX F sc_need_wish fun X cdv A outer s H E eX hgd hr tk po => ?_
  subst eX
  have nd := (sc_need_wish).nd
  have hu : (A.deeper (envOfC "need_wish" (defScope s_need_wish) s.heap.objs.size f cdv)).units + 64 < cLine := hr.units
  refine ⟨?_, ?_⟩
  · exact pds_cons (pds_if (pdt_not (pdt_truth (pd_call mW_is_triple (G_is_triple.mono (by decide)) hgd hr (by rfl) g_is_triple k_is_triple b_is_triple (pda_d (pdl_cons (pd_var (pv 0)) (pdl_nil)))))) (pds_one (pds_never)) (pds_nil))
          (pds_cons (pds_asg (pd_var (pv 0)) (pg1_tup (pgn_cons (pg1_name (i := 1) (pg_name (i := 1) nd rfl (by first | exact Or.inl rfl | exact Or.inr rfl))) (pgn_cons (pg1_name (i := 2) (pg_name (i := 2) nd rfl (by first | exact Or.inl rfl | exact Or.inr rfl))) (pgn_cons (pg1_name (i := 3) (pg_name (i := 3) nd rfl (by first | exact Or.inl rfl | exact Or.inr rfl))) (pgn_nil) (pgs_cons (pg1_name (i := 3) (pg_name (i := 3) nd rfl (by first | exact Or.inl rfl | exact Or.inr rfl))).pg (pgn_nil).pg)) (pgs_cons (pg1_name (i := 2) (pg_name (i := 2) nd rfl (by first | exact Or.inl rfl | exact Or.inr rfl))).pg (pgn_cons (pg1_name (i := 3) (pg_name (i := 3) nd rfl (by first | exact Or.inl rfl | exact Or.inr rfl))) (pgn_nil) (pgs_cons (pg1_name (i := 3) (pg_name (i := 3) nd rfl (by first | exact Or.inl rfl | exact Or.inr rfl))).pg (pgn_nil).pg)).pg)) (pgs_cons (pg1_name (i := 1) (pg_name (i := 1) nd rfl (by first | exact Or.inl rfl | exact Or.inr rfl))).pg (pgn_cons (pg1_name (i := 2) (pg_name (i := 2) nd rfl (by first | exact Or.inl rfl | exact Or.inr rfl))) (pgn_cons (pg1_name (i := 3) (pg_name (i := 3) nd rfl (by first | exact Or.inl rfl | exact Or.inr rfl))) (pgn_nil) (pgs_cons (pg1_name (i := 3) (pg_name (i := 3) nd rfl (by first | exact Or.inl rfl | exact Or.inr rfl))).pg (pgn_nil).pg)) (pgs_cons (pg1_name (i := 2) (pg_name (i := 2) nd rfl (by first | exact Or.inl rfl | exact Or.inr rfl))).pg (pgn_cons (pg1_name (i := 3) (pg_name (i := 3) nd rfl (by first | exact Or.inl rfl | exact Or.inr rfl))) (pgn_nil) (pgs_cons (pg1_name (i := 3) (pg_name (i := 3) nd rfl (by first | exact Or.inl rfl | exact Or.inr rfl))).pg (pgn_nil).pg)).pg)).pg)) (pg_tup rfl (pgn_cons (pg1_name (i := 1) (pg_name (i := 1) nd rfl (by first | exact Or.inl rfl | exact Or.inr rfl))) (pgn_cons (pg1_name (i := 2) (pg_name (i := 2) nd rfl (by first | exact Or.inl rfl | exact Or.inr rfl))) (pgn_cons (pg1_name (i := 3) (pg_name (i := 3) nd rfl (by first | exact Or.inl rfl | exact Or.inr rfl))) (pgn_nil) (pgs_cons (pg1_name (i := 3) (pg_name (i := 3) nd rfl (by first | exact Or.inl rfl | exact Or.inr rfl))).pg (pgn_nil).pg)) (pgs_cons (pg1_name (i := 2) (pg_name (i := 2) nd rfl (by first | exact Or.inl rfl | exact Or.inr rfl))).pg (pgn_cons (pg1_name (i := 3) (pg_name (i := 3) nd rfl (by first | exact Or.inl rfl | exact Or.inr rfl))) (pgn_nil) (pgs_cons (pg1_name (i := 3) (pg_name (i := 3) nd rfl (by first | exact Or.inl rfl | exact Or.inr rfl))).pg (pgn_nil).pg)).pg)) (pgs_cons (pg1_name (i := 1) (pg_name (i := 1) nd rfl (by first | exact Or.inl rfl | exact Or.inr rfl))).pg (pgn_cons (pg1_name (i := 2) (pg_name (i := 2) nd rfl (by first | exact Or.inl rfl | exact Or.inr rfl))) (pgn_cons (pg1_name (i := 3) (pg_name (i := 3) nd rfl (by first | exact Or.inl rfl | exact Or.inr rfl))) (pgn_nil) (pgs_cons (pg1_name (i := 3) (pg_name (i := 3) nd rfl (by first | exact Or.inl rfl | exact Or.inr rfl))).pg (pgn_nil).pg)) (pgs_cons (pg1_name (i := 2) (pg_name (i := 2) nd rfl (by first | exact Or.inl rfl | exact Or.inr rfl))).pg (pgn_cons (pg1_name (i := 3) (pg_name (i := 3) nd rfl (by first | exact Or.inl rfl | exact Or.inr rfl))) (pgn_nil) (pgs_cons (pg1_name (i := 3) (pg_name (i := 3) nd rfl (by first | exact Or.inl rfl | exact Or.inr rfl))).pg (pgn_nil).pg)).pg)).pg)).pg)))
          (pds_cons (pds_if (pdt_not (pdt_truth (pd_call mW_is_integer (G_is_integer.mono (by decide)) hgd hr (by rfl) g_is_integer k_is_integer b_is_integer (pda_d (pdl_cons (pd_var (pv 1)) (pdl_cons (pd_int) (pdl_cons (pd_gint (by rfl) T.c_MOST_DEEDS) (pdl_nil)))))))) (pds_one (pds_never)) (pds_nil))
          (pds_cons (pds_if (pdt_not (pdt_truth (pd_call mW_are_steps (G_are_steps.mono (by decide)) hgd hr (by rfl) g_are_steps k_are_steps b_are_steps (pda_d (pdl_cons (pd_var (pv 2)) (pdl_cons (pd_var (pv 1)) (pdl_nil))))))) (pds_one (pds_never)) (pds_nil))
          (pds_cons (pds_if (PDW.pt (pdw_or (pdt_not (pdt_truth (pd_call mW_are_ascending (G_are_ascending.mono (by decide)) hgd hr (by rfl) g_are_ascending k_are_ascending b_are_ascending (pda_d (pdl_cons (pd_var (pv 3)) (pdl_cons (pd_b1 call_lenA r1_len (by rfl) T.len (by decide +kernel) (pd_var (pv 2))) (pdl_nil))))))) (pdw_or1 (pdt_cmp op_notIn_seq rd_notIn (pd_int) (pd_var (pv 3)) (by first | exact nomark _ | rfl))))) (pds_one (pds_never)) (pds_nil))
          (pds_one (pds_ret (pd_var (pv 0))))))))
  · exact prs_or (prs_hd (pr_if (pdt_not (pdt_truth (pd_call mW_is_triple (G_is_triple.mono (by decide)) hgd hr (by rfl) g_is_triple k_is_triple b_is_triple (pda_d (pdl_cons (pd_var (pv 0)) (pdl_nil)))))) (prs_hd (pr_raise rfl tk Z_BadWish N_BadWish (hr.mono (by decide)) B_BadWish (by rfl) m_BadWish (pd_str)) (pds_nil)) (prs_no (pds_nil))) (pds_cons (pds_asg (pd_var (pv 0)) (pg1_tup (pgn_cons (pg1_name (i := 1) (pg_name (i := 1) nd rfl (by first | exact Or.inl rfl | exact Or.inr rfl))) (pgn_cons (pg1_name (i := 2) (pg_name (i := 2) nd rfl (by first | exact Or.inl rfl | exact Or.inr rfl))) (pgn_cons (pg1_name (i := 3) (pg_name (i := 3) nd rfl (by first | exact Or.inl rfl | exact Or.inr rfl))) (pgn_nil) (pgs_cons (pg1_name (i := 3) (pg_name (i := 3) nd rfl (by first | exact Or.inl rfl | exact Or.inr rfl))).pg (pgn_nil).pg)) (pgs_cons (pg1_name (i := 2) (pg_name (i := 2) nd rfl (by first | exact Or.inl rfl | exact Or.inr rfl))).pg (pgn_cons (pg1_name (i := 3) (pg_name (i := 3) nd rfl (by first | exact Or.inl rfl | exact Or.inr rfl))) (pgn_nil) (pgs_cons (pg1_name (i := 3) (pg_name (i := 3) nd rfl (by first | exact Or.inl rfl | exact Or.inr rfl))).pg (pgn_nil).pg)).pg)) (pgs_cons (pg1_name (i := 1) (pg_name (i := 1) nd rfl (by first | exact Or.inl rfl | exact Or.inr rfl))).pg (pgn_cons (pg1_name (i := 2) (pg_name (i := 2) nd rfl (by first | exact Or.inl rfl | exact Or.inr rfl))) (pgn_cons (pg1_name (i := 3) (pg_name (i := 3) nd rfl (by first | exact Or.inl rfl | exact Or.inr rfl))) (pgn_nil) (pgs_cons (pg1_name (i := 3) (pg_name (i := 3) nd rfl (by first | exact Or.inl rfl | exact Or.inr rfl))).pg (pgn_nil).pg)) (pgs_cons (pg1_name (i := 2) (pg_name (i := 2) nd rfl (by first | exact Or.inl rfl | exact Or.inr rfl))).pg (pgn_cons (pg1_name (i := 3) (pg_name (i := 3) nd rfl (by first | exact Or.inl rfl | exact Or.inr rfl))) (pgn_nil) (pgs_cons (pg1_name (i := 3) (pg_name (i := 3) nd rfl (by first | exact Or.inl rfl | exact Or.inr rfl))).pg (pgn_nil).pg)).pg)).pg)) (pg_tup rfl (pgn_cons (pg1_name (i := 1) (pg_name (i := 1) nd rfl (by first | exact Or.inl rfl | exact Or.inr rfl))) (pgn_cons (pg1_name (i := 2) (pg_name (i := 2) nd rfl (by first | exact Or.inl rfl | exact Or.inr rfl))) (pgn_cons (pg1_name (i := 3) (pg_name (i := 3) nd rfl (by first | exact Or.inl rfl | exact Or.inr rfl))) (pgn_nil) (pgs_cons (pg1_name (i := 3) (pg_name (i := 3) nd rfl (by first | exact Or.inl rfl | exact Or.inr rfl))).pg (pgn_nil).pg)) (pgs_cons (pg1_name (i := 2) (pg_name (i := 2) nd rfl (by first | exact Or.inl rfl | exact Or.inr rfl))).pg (pgn_cons (pg1_name (i := 3) (pg_name (i := 3) nd rfl (by first | exact Or.inl rfl | exact Or.inr rfl))) (pgn_nil) (pgs_cons (pg1_name (i := 3) (pg_name (i := 3) nd rfl (by first | exact Or.inl rfl | exact Or.inr rfl))).pg (pgn_nil).pg)).pg)) (pgs_cons (pg1_name (i := 1) (pg_name (i := 1) nd rfl (by first | exact Or.inl rfl | exact Or.inr rfl))).pg (pgn_cons (pg1_name (i := 2) (pg_name (i := 2) nd rfl (by first | exact Or.inl rfl | exact Or.inr rfl))) (pgn_cons (pg1_name (i := 3) (pg_name (i := 3) nd rfl (by first | exact Or.inl rfl | exact Or.inr rfl))) (pgn_nil) (pgs_cons (pg1_name (i := 3) (pg_name (i := 3) nd rfl (by first | exact Or.inl rfl | exact Or.inr rfl))).pg (pgn_nil).pg)) (pgs_cons (pg1_name (i := 2) (pg_name (i := 2) nd rfl (by first | exact Or.inl rfl | exact Or.inr rfl))).pg (pgn_cons (pg1_name (i := 3) (pg_name (i := 3) nd rfl (by first | exact Or.inl rfl | exact Or.inr rfl))) (pgn_nil) (pgs_cons (pg1_name (i := 3) (pg_name (i := 3) nd rfl (by first | exact Or.inl rfl | exact Or.inr rfl))).pg (pgn_nil).pg)).pg)).pg)).pg)))
          (pds_cons (pds_if (pdt_not (pdt_truth (pd_call mW_is_integer (G_is_integer.mono (by decide)) hgd hr (by rfl) g_is_integer k_is_integer b_is_integer (pda_d (pdl_cons (pd_var (pv 1)) (pdl_cons (pd_int) (pdl_cons (pd_gint (by rfl) T.c_MOST_DEEDS) (pdl_nil)))))))) (pds_one (pds_never)) (pds_nil))
          (pds_cons (pds_if (pdt_not (pdt_truth (pd_call mW_are_steps (G_are_steps.mono (by decide)) hgd hr (by rfl) g_are_steps k_are_steps b_are_steps (pda_d (pdl_cons (pd_var (pv 2)) (pdl_cons (pd_var (pv 1)) (pdl_nil))))))) (pds_one (pds_never)) (pds_nil))
          (pds_cons (pds_if (PDW.pt (pdw_or (pdt_not (pdt_truth (pd_call mW_are_ascending (G_are_ascending.mono (by decide)) hgd hr (by rfl) g_are_ascending k_are_ascending b_are_ascending (pda_d (pdl_cons (pd_var (pv 3)) (pdl_cons (pd_b1 call_lenA r1_len (by rfl) T.len (by decide +kernel) (pd_var (pv 2))) (pdl_nil))))))) (pdw_or1 (pdt_cmp op_notIn_seq rd_notIn (pd_int) (pd_var (pv 3)) (by first | exact nomark _ | rfl))))) (pds_one (pds_never)) (pds_nil))
          (pds_one (pds_ret (pd_var (pv 0)))))))))
          (prs_tl (pds_if (pdt_not (pdt_truth (pd_call mW_is_triple (G_is_triple.mono (by decide)) hgd hr (by rfl) g_is_triple k_is_triple b_is_triple (pda_d (pdl_cons (pd_var (pv 0)) (pdl_nil)))))) (pds_one (pds_never)) (pds_nil)) (prs_tl (pds_asg (pd_var (pv 0)) (pg1_tup (pgn_cons (pg1_name (i := 1) (pg_name (i := 1) nd rfl (by first | exact Or.inl rfl | exact Or.inr rfl))) (pgn_cons (pg1_name (i := 2) (pg_name (i := 2) nd rfl (by first | exact Or.inl rfl | exact Or.inr rfl))) (pgn_cons (pg1_name (i := 3) (pg_name (i := 3) nd rfl (by first | exact Or.inl rfl | exact Or.inr rfl))) (pgn_nil) (pgs_cons (pg1_name (i := 3) (pg_name (i := 3) nd rfl (by first | exact Or.inl rfl | exact Or.inr rfl))).pg (pgn_nil).pg)) (pgs_cons (pg1_name (i := 2) (pg_name (i := 2) nd rfl (by first | exact Or.inl rfl | exact Or.inr rfl))).pg (pgn_cons (pg1_name (i := 3) (pg_name (i := 3) nd rfl (by first | exact Or.inl rfl | exact Or.inr rfl))) (pgn_nil) (pgs_cons (pg1_name (i := 3) (pg_name (i := 3) nd rfl (by first | exact Or.inl rfl | exact Or.inr rfl))).pg (pgn_nil).pg)).pg)) (pgs_cons (pg1_name (i := 1) (pg_name (i := 1) nd rfl (by first | exact Or.inl rfl | exact Or.inr rfl))).pg (pgn_cons (pg1_name (i := 2) (pg_name (i := 2) nd rfl (by first | exact Or.inl rfl | exact Or.inr rfl))) (pgn_cons (pg1_name (i := 3) (pg_name (i := 3) nd rfl (by first | exact Or.inl rfl | exact Or.inr rfl))) (pgn_nil) (pgs_cons (pg1_name (i := 3) (pg_name (i := 3) nd rfl (by first | exact Or.inl rfl | exact Or.inr rfl))).pg (pgn_nil).pg)) (pgs_cons (pg1_name (i := 2) (pg_name (i := 2) nd rfl (by first | exact Or.inl rfl | exact Or.inr rfl))).pg (pgn_cons (pg1_name (i := 3) (pg_name (i := 3) nd rfl (by first | exact Or.inl rfl | exact Or.inr rfl))) (pgn_nil) (pgs_cons (pg1_name (i := 3) (pg_name (i := 3) nd rfl (by first | exact Or.inl rfl | exact Or.inr rfl))).pg (pgn_nil).pg)).pg)).pg)) (pg_tup rfl (pgn_cons (pg1_name (i := 1) (pg_name (i := 1) nd rfl (by first | exact Or.inl rfl | exact Or.inr rfl))) (pgn_cons (pg1_name (i := 2) (pg_name (i := 2) nd rfl (by first | exact Or.inl rfl | exact Or.inr rfl))) (pgn_cons (pg1_name (i := 3) (pg_name (i := 3) nd rfl (by first | exact Or.inl rfl | exact Or.inr rfl))) (pgn_nil) (pgs_cons (pg1_name (i := 3) (pg_name (i := 3) nd rfl (by first | exact Or.inl rfl | exact Or.inr rfl))).pg (pgn_nil).pg)) (pgs_cons (pg1_name (i := 2) (pg_name (i := 2) nd rfl (by first | exact Or.inl rfl | exact Or.inr rfl))).pg (pgn_cons (pg1_name (i := 3) (pg_name (i := 3) nd rfl (by first | exact Or.inl rfl | exact Or.inr rfl))) (pgn_nil) (pgs_cons (pg1_name (i := 3) (pg_name (i := 3) nd rfl (by first | exact Or.inl rfl | exact Or.inr rfl))).pg (pgn_nil).pg)).pg)) (pgs_cons (pg1_name (i := 1) (pg_name (i := 1) nd rfl (by first | exact Or.inl rfl | exact Or.inr rfl))).pg (pgn_cons (pg1_name (i := 2) (pg_name (i := 2) nd rfl (by first | exact Or.inl rfl | exact Or.inr rfl))) (pgn_cons (pg1_name (i := 3) (pg_name (i := 3) nd rfl (by first | exact Or.inl rfl | exact Or.inr rfl))) (pgn_nil) (pgs_cons (pg1_name (i := 3) (pg_name (i := 3) nd rfl (by first | exact Or.inl rfl | exact Or.inr rfl))).pg (pgn_nil).pg)) (pgs_cons (pg1_name (i := 2) (pg_name (i := 2) nd rfl (by first | exact Or.inl rfl | exact Or.inr rfl))).pg (pgn_cons (pg1_name (i := 3) (pg_name (i := 3) nd rfl (by first | exact Or.inl rfl | exact Or.inr rfl))) (pgn_nil) (pgs_cons (pg1_name (i := 3) (pg_name (i := 3) nd rfl (by first | exact Or.inl rfl | exact Or.inr rfl))).pg (pgn_nil).pg)).pg)).pg)).pg)))
          (prs_or (prs_hd (pr_if (pdt_not (pdt_truth (pd_call mW_is_integer (G_is_integer.mono (by decide)) hgd hr (by rfl) g_is_integer k_is_integer b_is_integer (pda_d (pdl_cons (pd_var (pv 1)) (pdl_cons (pd_int) (pdl_cons (pd_gint (by rfl) T.c_MOST_DEEDS) (pdl_nil)))))))) (prs_hd (pr_raise rfl tk Z_BadWish N_BadWish (hr.mono (by decide)) B_BadWish (by rfl) m_BadWish (pd_str)) (pds_nil)) (prs_no (pds_nil))) (pds_cons (pds_if (pdt_not (pdt_truth (pd_call mW_are_steps (G_are_steps.mono (by decide)) hgd hr (by rfl) g_are_steps k_are_steps b_are_steps (pda_d (pdl_cons (pd_var (pv 2)) (pdl_cons (pd_var (pv 1)) (pdl_nil))))))) (pds_one (pds_never)) (pds_nil))
          (pds_cons (pds_if (PDW.pt (pdw_or (pdt_not (pdt_truth (pd_call mW_are_ascending (G_are_ascending.mono (by decide)) hgd hr (by rfl) g_are_ascending k_are_ascending b_are_ascending (pda_d (pdl_cons (pd_var (pv 3)) (pdl_cons (pd_b1 call_lenA r1_len (by rfl) T.len (by decide +kernel) (pd_var (pv 2))) (pdl_nil))))))) (pdw_or1 (pdt_cmp op_notIn_seq rd_notIn (pd_int) (pd_var (pv 3)) (by first | exact nomark _ | rfl))))) (pds_one (pds_never)) (pds_nil))
          (pds_one (pds_ret (pd_var (pv 0)))))))
          (prs_tl (pds_if (pdt_not (pdt_truth (pd_call mW_is_integer (G_is_integer.mono (by decide)) hgd hr (by rfl) g_is_integer k_is_integer b_is_integer (pda_d (pdl_cons (pd_var (pv 1)) (pdl_cons (pd_int) (pdl_cons (pd_gint (by rfl) T.c_MOST_DEEDS) (pdl_nil)))))))) (pds_one (pds_never)) (pds_nil)) (prs_or (prs_hd (pr_if (pdt_not (pdt_truth (pd_call mW_are_steps (G_are_steps.mono (by decide)) hgd hr (by rfl) g_are_steps k_are_steps b_are_steps (pda_d (pdl_cons (pd_var (pv 2)) (pdl_cons (pd_var (pv 1)) (pdl_nil))))))) (prs_hd (pr_raise rfl tk Z_BadWish N_BadWish (hr.mono (by decide)) B_BadWish (by rfl) m_BadWish (pd_str)) (pds_nil)) (prs_no (pds_nil))) (pds_cons (pds_if (PDW.pt (pdw_or (pdt_not (pdt_truth (pd_call mW_are_ascending (G_are_ascending.mono (by decide)) hgd hr (by rfl) g_are_ascending k_are_ascending b_are_ascending (pda_d (pdl_cons (pd_var (pv 3)) (pdl_cons (pd_b1 call_lenA r1_len (by rfl) T.len (by decide +kernel) (pd_var (pv 2))) (pdl_nil))))))) (pdw_or1 (pdt_cmp op_notIn_seq rd_notIn (pd_int) (pd_var (pv 3)) (by first | exact nomark _ | rfl))))) (pds_one (pds_never)) (pds_nil))
          (pds_one (pds_ret (pd_var (pv 0))))))
          (prs_tl (pds_if (pdt_not (pdt_truth (pd_call mW_are_steps (G_are_steps.mono (by decide)) hgd hr (by rfl) g_are_steps k_are_steps b_are_steps (pda_d (pdl_cons (pd_var (pv 2)) (pdl_cons (pd_var (pv 1)) (pdl_nil))))))) (pds_one (pds_never)) (pds_nil)) (prs_hd (pr_if (PDW.pt (pdw_or (pdt_not (pdt_truth (pd_call mW_are_ascending (G_are_ascending.mono (by decide)) hgd hr (by rfl) g_are_ascending k_are_ascending b_are_ascending (pda_d (pdl_cons (pd_var (pv 3)) (pdl_cons (pd_b1 call_lenA r1_len (by rfl) T.len (by decide +kernel) (pd_var (pv 2))) (pdl_nil))))))) (pdw_or1 (pdt_cmp op_notIn_seq rd_notIn (pd_int) (pd_var (pv 3)) (by first | exact nomark _ | rfl))))) (prs_hd (pr_raise rfl tk Z_BadWish N_BadWish (hr.mono (by decide)) B_BadWish (by rfl) m_BadWish (pd_str)) (pds_nil)) (prs_no (pds_nil))) (pds_one (pds_ret (pd_var (pv 0)))))))))))
theorem ok_need_wish : ∀ ρ k, W_need_wish ρ k → fBody 4 w_need_wish ρ k := GP.ok_need_wish
theorem okx_need_wish (C : Addr) : ∀ ρ k, U_need_wish C ρ k → fBodyX 4 (u_need_wish C) ρ k := by
  rintro ⟨sl, n⟩ k ⟨d, p, e, hd, hp, z⟩
  simp only at e
  subst e
  simp [u_need_wish, fBodyX, fxOr, fxThen, fxIf, fxRaise, fxNo]
  simp [and_assoc, Rho.set, dropOwn, ftLend, fLend, lendR, frz, ow, nList, -forall_exists_index, fBody, fsSeq, fsIf, fsRet, fsNext, fsDrop, fsAsg, fsNever, fsFor, fsOwn, fsPar2, fsPar3, fsPar_od, fsPar_do, fsPar_oo, fVar, fC, fUn, fOp, fChain, fTup, fLst, fCall, faD, faSt, flCons, flNil, fSl, foSome, foNone, fAnd, fOr, fNot, fIf, fOfN, fn1, fnLst, fnCat, fgN, fgTup, fgCons, fgNil, fiSeq, fiRange1, fiRange2, fiEnumA, fiZip, ftOr, ftAnd, ftNot, ftB, ftT, ftYes, truD_b, truD_i, truD_l, truD_t, truD_n, gIx_t0, gIx_t1, gIx_t2, gSl_t, gSl_l, gIsT, notDict, isT, isN, tyName, gLen_t, gLen_l, gTuple_l, gCmp, gAdd_ii, gAdd_ll, PD.gSub, gNeg, gMod, seqD, forD, wipeR, gEqA, gNeA, gEq_ii, gNe_ii, gEq_tt, gIn_ints, gIn_intsL, gNotIn_ints, gNotIn_intsL, fM0, fM1, fJoined, fJ, flStar, starD, fCall0, gIsTX, noInst_n, noInst_b, noInst_i, noInst_s, noInst_l, noInst_t, fFld, fMeth, fMake, faNil, fsFld, fLendO, fDisp, fpCons, fpNil, fDict0, fiAny, walkD, fiOver, dKeys, dVals, dPairs, fsOwnD, fsPut, fOwnIx, fPop, fsExt, fDc, compK, gInX, gNotInX, gIxX, fGet]
  rcases is3_cases d with h3 | ⟨q, T, G, rfl⟩
  · refine .inl ⟨d, rfl, okW_no hd, ?_⟩
    rw [wishErr_form h3] at hp
    cases hp
    rw [h3]
    exact ⟨rfl, z⟩
  · refine .inr ⟨_, rfl, rfl, rfl, _, rfl, rfl, q, _, rfl, T, _, rfl, G, _, rfl, rfl, ?_⟩
    obtain ⟨hq, hT, hG⟩ := hd
    have hp : wishErr3 q T G = some p := hp
    unfold wishErr3 at hp
    by_cases h1 : intB q 1 4 = true
    · rw [if_pos h1] at hp
      obtain ⟨qi, rfl⟩ : ∃ i, q = .int i := by cases q <;> first | exact ⟨_, rfl⟩ | cases h1
      have hp : (if stepsB T qi = true then (if ascB G (lenD T) = true ∧ (0 : Int) ∈ intsOfD G then none else some ("good" : Str)) else some ("steps" : Str)) = some p := hp
      refine .inr ⟨_, 1, 4, rfl, hq, by rw [h1]; rfl, ?_⟩
      by_cases h2 : stepsB T qi = true
      · rw [if_pos h2] at hp
        obtain ⟨xs, rfl⟩ : ∃ xs, T = .tuple xs := by cases T <;> first | exact ⟨_, rfl⟩ | cases h2
        refine .inr ⟨_, qi, rfl, hT, by rw [h2]; rfl, .int xs.length, rfl, G, xs.length, rfl, hG, ?_⟩
        have hp : (if ascB G xs.length = true ∧ (0 : Int) ∈ intsOfD G then none else some ("good" : Str)) = some p := hp
        by_cases h4 : ascB G xs.length = true
        · by_cases h5 : (0 : Int) ∈ intsOfD G
          · rw [if_pos ⟨h4, h5⟩] at hp; cases hp
          · rw [if_neg fun y => h5 y.2] at hp
            cases hp
            have hG1 := (numsB_ints (d := G) (m := xs.length) (by unfold ascB at h4; exact (Bool.and_eq_true_iff.mp h4).1)).1
            rw [h4]
            refine .inr ⟨rfl, .bool true, ?_, rfl, z⟩
            rw [hG1, gNotIn_ints, decide_eq_false h5]
            rfl
        · rw [if_neg fun y => h4 y.1] at hp
          cases hp
          refine .inl ⟨?_, z⟩
          rw [Bool.eq_false_iff.mpr h4]
          rfl
      · rw [if_neg h2] at hp
        cases hp
        refine .inl ⟨T, qi, rfl, hT, ?_⟩
        rw [Bool.eq_false_iff.mpr h2]
        exact ⟨rfl, z⟩
    · rw [if_neg h1] at hp
      cases hp
      refine .inl ⟨q, 1, 4, rfl, hq, ?_⟩
      rw [Bool.eq_false_iff.mpr h1]
      exact ⟨rfl, z⟩
def runB (d : D) (q : Int) : Bool := numsB d q && decide ((lenD d : Int) ≤ 400)
abbrev s_is_run : Stmt := top 17
theorem sc_is_run : FnScope ["thing", "deeds"] ["thing", "deeds"] (defScope s_is_run) := ⟨rfl, rfl, rfl, by decide +kernel, rfl, by decide +kernel, by decide +kernel⟩
def w_is_run : FS := fsRet (fAnd (fCall 2 W_are_numbers (faD (flCons (fVar 0) (flCons (fVar 1) (flNil))))) (fOp gLe (fUn gLen (fVar 0)) (fC (.int 400))))
theorem raw_is_run {f : Addr} {fd : FuncData} {a_are_numbers : Addr} {d_are_numbers : FuncData} (F : Fun K "is_run" "is_run" s_is_run f fd) (T : Txt mg) (g_are_numbers : mg "are_numbers" = some (.ref a_are_numbers)) (G_are_numbers : FnG P w K mg base (L2.CX P w) 3 a_are_numbers d_are_numbers ["thing", "many"] (spD ⟨K, w, P⟩ (MM TT) 2 W_are_numbers)) (b_are_numbers : Binds K d_are_numbers ["thing", "many"] []) (k_are_numbers : PySem.W.keepIn K (.ref a_are_numbers) = true) : FnG P w K mg base (L2.CX P w) (4) f fd ["thing", "deeds"] (spD ⟨K, w, P⟩ (MM TT) 2 (fBody 2 w_is_run)) := by
  refine fnD F sc_is_run fun cdv A outer s H E hgd hr => ?_
  have nd := (sc_is_run).nd
  have hu : (A.deeper (envOfC "is_run" (defScope s_is_run) s.heap.objs.size f cdv)).units + 64 < cLine := hr.units
  exact pds_one (pds_ret (pd_and (pd_call mW_are_numbers (G_are_numbers.mono (by decide)) hgd hr (by rfl) g_are_numbers k_are_numbers b_are_numbers (pda_d (pdl_cons (pd_var (pv 0)) (pdl_cons (pd_var (pv 1)) (pdl_nil))))) (pd_one (pd_cmp op_le rd_cmp (pd_b1 call_lenA r1_len (by rfl) T.len (by decide +kernel) (pd_var (pv 0))) (pd_gint (by rfl) T.c_LONGEST_RUN) (by first | exact nomark _ | rfl)))))
def W_is_run : FE := fun ρ k => ∃ (d : D) (q : Int), ρ.sl = [.d d, .d (.int q)] ∧ (okD d) ∧ k (.bool (runB d q)) ρ
theorem mW_is_run (ρ : Rho) (k k' : KD) (hM : ∀ d ρ', k d ρ' → k' d ρ') (q : W_is_run ρ k) : W_is_run ρ k' := by
  obtain ⟨d, q, e1, e2, e3⟩ := q
  exact ⟨d, q, e1, e2, hM _ _ e3⟩
theorem ok_is_run : ∀ ρ k, W_is_run ρ k → fBody 2 w_is_run ρ k := by
  rintro ⟨sl, n⟩ k ⟨d, q, e, hd, z⟩
  simp only at e
  subst e
  simp [w_is_run]
  simp [and_assoc, Rho.set, dropOwn, ftLend, fLend, lendR, frz, ow, nList, -forall_exists_index, fBody, fsSeq, fsIf, fsRet, fsNext, fsDrop, fsAsg, fsNever, fsFor, fsOwn, fsPar2, fsPar3, fsPar_od, fsPar_do, fsPar_oo, fVar, fC, fUn, fOp, fChain, fTup, fLst, fCall, faD, faSt, flCons, flNil, fSl, foSome, foNone, fAnd, fOr, fNot, fIf, fOfN, fn1, fnLst, fnCat, fgN, fgTup, fgCons, fgNil, fiSeq, fiRange1, fiRange2, fiEnumA, fiZip, ftOr, ftAnd, ftNot, ftB, ftT, ftYes, truD_b, truD_i, truD_l, truD_t, truD_n, gIx_t0, gIx_t1, gIx_t2, gSl_t, gSl_l, gIsT, notDict, isT, isN, tyName, gLen_t, gLen_l, gTuple_l, gCmp, gAdd_ii, gAdd_ll, PD.gSub, gNeg, gMod, seqD, forD, wipeR, gEqA, gNeA, gEq_ii, gNe_ii, gEq_tt, gIn_ints, gIn_intsL, gNotIn_ints, gNotIn_intsL, fM0, fM1, fJoined, fJ, flStar, starD, fCall0, gIsTX, noInst_n, noInst_b, noInst_i, noInst_s, noInst_l, noInst_t, fFld, fMeth, fMake, faNil, fsFld, fLendO, fDisp, fpCons, fpNil, fDict0, fiAny, walkD, fiOver, dKeys, dVals, dPairs, fsOwnD, fsPut, fOwnIx, fPop, fsExt, fDc, compK, gInX, gNotInX, gIxX, fGet]
  refine ⟨d, q, rfl, hd, ?_⟩
  unfold runB at z
  cases h : numsB d q with
  | false =>
    rw [h] at z
    exact .inl ⟨rfl, z⟩
  | true =>
    rw [h, Bool.true_and] at z
    obtain ⟨xs, rfl⟩ : ∃ xs, d = .tuple xs := by cases d <;> first | exact ⟨_, rfl⟩ | cases h
    exact .inr ⟨rfl, _, rfl, _, rfl, z⟩
def W_need_run : FE := fun ρ k => ∃ (q : Int) (d : D), ρ.sl = [.d (.int q), .d d] ∧ (okD d ∧ runB d q = true) ∧ k (d) ρ
theorem mW_need_run (ρ : Rho) (k k' : KD) (hM : ∀ d ρ', k d ρ' → k' d ρ') (q : W_need_run ρ k) : W_need_run ρ k' := by
  obtain ⟨q, d, e1, e2, e3⟩ := q
  exact ⟨q, d, e1, e2, hM _ _ e3⟩
def U_need_run (C_OutOfPlace : Addr) : FX := fun ρ k => ∃ (q : Int) (d : D), ρ.sl = [.d (.int q), .d d] ∧ okD d ∧ runB d q = false ∧ k (.ref C_OutOfPlace) [] ρ
theorem mU_need_run (C_OutOfPlace : Addr) (ρ : Rho) (k k' : XC) (hM : ∀ c fl ρ', k c fl ρ' → k' c fl ρ') (z : U_need_run C_OutOfPlace ρ k) : U_need_run C_OutOfPlace ρ k' := by
  obtain ⟨q, d, e1, e2, e3, e4⟩ := z
  exact ⟨q, d, e1, e2, e3, hM _ _ _ e4⟩
abbrev s_need_run : Stmt := top 16
theorem sc_need_run : FnScope ["deeds", "thing"] ["deeds", "thing"] (defScope s_need_run) := ⟨rfl, rfl, rfl, by decide +kernel, rfl, by decide +kernel, by decide +kernel⟩
def w_need_run : FS := fsSeq (fsIf (ftNot (ftT (fCall 2 W_is_run (faD (flCons (fVar 1) (flCons (fVar 0) (flNil))))))) (fsNever) (fsNext))
  (fsRet (fVar 1))
def u_need_run (C_OutOfPlace : Addr) : FX := fxIf (ftNot (ftT (fCall 2 W_is_run (faD (flCons (fVar 1) (flCons (fVar 0) (flNil))))))) (fxRaise (.ref C_OutOfPlace) (none) (fC (.str "run: a tuple of at most 400 deeds is wanted"))) (fxNo)
theorem raw_need_run {f : Addr} {fd : FuncData} {a_is_run : Addr} {d_is_run : FuncData} {C_OutOfPlace : Addr} {I_OutOfPlace : Addr} {D_OutOfPlace : FuncData} (F : Fun K "need_run" "need_run" s_need_run f fd) (T : Txt mg) (g_is_run : mg "is_run" = some (.ref a_is_run)) (m_OutOfPlace : mg "OutOfPlace" = some (.ref C_OutOfPlace)) (G_is_run : FnG P w K mg base (L2.CX P w) 4 a_is_run d_is_run ["thing", "deeds"] (spD ⟨K, w, P⟩ (MM TT) 2 W_is_run)) (b_is_run : Binds K d_is_run ["thing", "deeds"] []) (k_is_run : PySem.W.keepIn K (.ref a_is_run) = true) (Z_OutOfPlace : ExC K C_OutOfPlace I_OutOfPlace) (N_OutOfPlace : FnOk P w K mg base (L2.CX P w) 1 I_OutOfPlace D_OutOfPlace ["self", "text"] (spExN C_OutOfPlace)) (B_OutOfPlace : Binds K D_OutOfPlace ["self", "text"] []) : FnG P w K mg base (L2.CX P w) (5) f fd ["deeds", "thing"] (spX ⟨K, w, P⟩ (MM TT) 2 (fBody 2 w_need_run) (fBodyX 2 (u_need_run C_OutOfPlace))) := by
  refine fnX F sc_need_run fun X cdv A outer s H E eX hgd hr tk po => ?_
  subst eX
  have nd := (sc_need_run).nd
  have hu : (A.deeper (envOfC "need_run" (defScope s_need_run) s.heap.objs.size f cdv)).units + 64 < cLine := hr.units
  refine ⟨?_, ?_⟩
  · exact pds_cons (pds_if (pdt_not (pdt_truth (pd_call mW_is_run (G_is_run.mono (by decide)) hgd hr (by rfl) g_is_run k_is_run b_is_run (pda_d (pdl_cons (pd_var (pv 1)) (pdl_cons (pd_var (pv 0)) (pdl_nil))))))) (pds_one (pds_never)) (pds_nil))
          (pds_one (pds_ret (pd_var (pv 1))))
  · exact prs_hd (pr_if (pdt_not (pdt_truth (pd_call mW_is_run (G_is_run.mono (by decide)) hgd hr (by rfl) g_is_run k_is_run b_is_run (pda_d (pdl_cons (pd_var (pv 1)) (pdl_cons (pd_var (pv 0)) (pdl_nil))))))) (prs_hd (pr_raise0 rfl tk Z_OutOfPlace N_OutOfPlace (hr.mono (by decide)) B_OutOfPlace (by rfl) m_OutOfPlace (pd_str)) (pds_nil)) (prs_no (pds_nil))) (pds_one (pds_ret (pd_var (pv 1))))
theorem ok_need_run : ∀ ρ k, W_need_run ρ k → fBody 2 w_need_run ρ k := by
  rintro ⟨sl, n⟩ k ⟨q, d, e, ⟨hd, h⟩, z⟩
  simp only at e
  subst e
  simp [w_need_run]
  simp [and_assoc, Rho.set, dropOwn, ftLend, fLend, lendR, frz, ow, nList, -forall_exists_index, fBody, fsSeq, fsIf, fsRet, fsNext, fsDrop, fsAsg, fsNever, fsFor, fsOwn, fsPar2, fsPar3, fsPar_od, fsPar_do, fsPar_oo, fVar, fC, fUn, fOp, fChain, fTup, fLst, fCall, faD, faSt, flCons, flNil, fSl, foSome, foNone, fAnd, fOr, fNot, fIf, fOfN, fn1, fnLst, fnCat, fgN, fgTup, fgCons, fgNil, fiSeq, fiRange1, fiRange2, fiEnumA, fiZip, ftOr, ftAnd, ftNot, ftB, ftT, ftYes, truD_b, truD_i, truD_l, truD_t, truD_n, gIx_t0, gIx_t1, gIx_t2, gSl_t, gSl_l, gIsT, notDict, isT, isN, tyName, gLen_t, gLen_l, gTuple_l, gCmp, gAdd_ii, gAdd_ll, PD.gSub, gNeg, gMod, seqD, forD, wipeR, gEqA, gNeA, gEq_ii, gNe_ii, gEq_tt, gIn_ints, gIn_intsL, gNotIn_ints, gNotIn_intsL, fM0, fM1, fJoined, fJ, flStar, starD, fCall0, gIsTX, noInst_n, noInst_b, noInst_i, noInst_s, noInst_l, noInst_t, fFld, fMeth, fMake, faNil, fsFld, fLendO, fDisp, fpCons, fpNil, fDict0, fiAny, walkD, fiOver, dKeys, dVals, dPairs, fsOwnD, fsPut, fOwnIx, fPop, fsExt, fDc, compK, gInX, gNotInX, gIxX, fGet]
  exact ⟨d, q, rfl, hd, by rw [h]; rfl, z⟩
theorem okx_need_run (C : Addr) : ∀ ρ k, U_need_run C ρ k → fBodyX 2 (u_need_run C) ρ k := by
  rintro ⟨sl, n⟩ k ⟨q, d, e, hd, h, z⟩
  simp only at e
  subst e
  simp [u_need_run, fBodyX, fxOr, fxThen, fxIf, fxRaise, fxNo]
  simp [and_assoc, Rho.set, dropOwn, ftLend, fLend, lendR, frz, ow, nList, -forall_exists_index, fBody, fsSeq, fsIf, fsRet, fsNext, fsDrop, fsAsg, fsNever, fsFor, fsOwn, fsPar2, fsPar3, fsPar_od, fsPar_do, fsPar_oo, fVar, fC, fUn, fOp, fChain, fTup, fLst, fCall, faD, faSt, flCons, flNil, fSl, foSome, foNone, fAnd, fOr, fNot, fIf, fOfN, fn1, fnLst, fnCat, fgN, fgTup, fgCons, fgNil, fiSeq, fiRange1, fiRange2, fiEnumA, fiZip, ftOr, ftAnd, ftNot, ftB, ftT, ftYes, truD_b, truD_i, truD_l, truD_t, truD_n, gIx_t0, gIx_t1, gIx_t2, gSl_t, gSl_l, gIsT, notDict, isT, isN, tyName, gLen_t, gLen_l, gTuple_l, gCmp, gAdd_ii, gAdd_ll, PD.gSub, gNeg, gMod, seqD, forD, wipeR, gEqA, gNeA, gEq_ii, gNe_ii, gEq_tt, gIn_ints, gIn_intsL, gNotIn_ints, gNotIn_intsL, fM0, fM1, fJoined, fJ, flStar, starD, fCall0, gIsTX, noInst_n, noInst_b, noInst_i, noInst_s, noInst_l, noInst_t, fFld, fMeth, fMake, faNil, fsFld, fLendO, fDisp, fpCons, fpNil, fDict0, fiAny, walkD, fiOver, dKeys, dVals, dPairs, fsOwnD, fsPut, fOwnIx, fPop, fsExt, fDc, compK, gInX, gNotInX, gIxX, fGet]
  exact ⟨d, q, rfl, hd, by rw [h]; exact ⟨rfl, z⟩⟩
theorem runB_yes {r : List Int} {q : Int} (h : ∀ x ∈ r, Dd q x) (hl : r.length ≤ 400) : runB (tupI r) q = true := by
  unfold runB
  rw [numsB_yes h, Bool.true_and]
  refine decide_eq_true ?_
  show ((r.map PyData.int).length : Int) ≤ 400
  rw [List.length_map]
  omega
abbrev s_state_behind : Stmt := top 18
theorem sc_state_behind : FnScope ["steps", "state", "deeds", "deed"] ["steps", "state", "deeds"] (defScope s_state_behind) := ⟨rfl, rfl, rfl, by decide +kernel, rfl, by decide +kernel, by decide +kernel⟩
theorem raw_state_behind {f : Addr} {fd : FuncData} (F : Fun K "state_behind" "state_behind" s_state_behind f fd) (T : Txt mg) : FnG P w K mg base (L2.CX P w) (1) f fd ["steps", "state", "deeds"] (spD ⟨K, w, P⟩ (MM TT) 3 (fBody 4 w_state_behind)) := by
  refine fnD F sc_state_behind fun cdv A outer s H E hgd hr => ?_
  have nd := (sc_state_behind).nd
  have hu : (A.deeper (envOfC "state_behind" (defScope s_state_behind) s.heap.objs.size f cdv)).units + 64 < cLine := hr.units
  exact pds_cons (pds_for (fs := b_state_behind_1) PassesOwn.never rfl (pdi_seq (pd_var (pv 2))) (pg1_name (i := 3) (pg_name (i := 3) nd rfl (by first | exact Or.inl rfl | exact Or.inr rfl))) (pds_one (pds_asg (pd_ix ix_any rd_ix (pd_ix ix_any rd_ix (pd_var (pv 0)) (pd_var (pv 1)) (fun _ _ => rfl)) (pd_var (pv 3)) (fun _ _ => rfl)) (pg1_name (i := 1) (pg_name (i := 1) nd rfl (by first | exact Or.inl rfl | exact Or.inr rfl))))))
    (pds_one (pds_ret (pd_var (pv 1))))
def W_state_of : FE := fun ρ k => ∃ (q : Int) (T : List (List Int)) (G : List Int) (r : List Int), ρ.sl = [.d (wishD q T G), .d (tupI r)] ∧ (WOK q T G ∧ r.length ≤ 400 ∧ (∀ d ∈ r, Dd q d)) ∧ k (.int (walkT T 0 r)) ρ
theorem mW_state_of (ρ : Rho) (k k' : KD) (hM : ∀ d ρ', k d ρ' → k' d ρ') (q : W_state_of ρ k) : W_state_of ρ k' := by
  obtain ⟨q, T, G, r, e1, e2, e3⟩ := q
  exact ⟨q, T, G, r, e1, e2, hM _ _ e3⟩
/-- a bad wish, or a good wish and a bad run -/
def UB (C_BadWish C_OutOfPlace : Addr) : FX := fun ρ k => ∃ d r, ρ.sl = [.d d, .d r] ∧ ((okW d ∧ ∃ p, wishErr d = some p ∧ bw C_BadWish p k ρ) ∨ ∃ q T G, d = wishD q T G ∧ WOK q T G ∧ okD r ∧ runB r q = false ∧ k (.ref C_OutOfPlace) [] ρ)
theorem mUB (C_BadWish C_OutOfPlace : Addr) (ρ : Rho) (k k' : XC) (hM : ∀ c fl ρ', k c fl ρ' → k' c fl ρ') (z : UB C_BadWish C_OutOfPlace ρ k) : UB C_BadWish C_OutOfPlace ρ k' := by
  obtain ⟨d, r, e1, ⟨e2, p, e3, e4⟩ | ⟨q, T, G, e2, e3, e4, e5, e6⟩⟩ := z
  · exact ⟨d, r, e1, .inl ⟨e2, p, e3, hM _ _ _ e4⟩⟩
  · exact ⟨d, r, e1, .inr ⟨q, T, G, e2, e3, e4, e5, hM _ _ _ e6⟩⟩
abbrev U_state_of := UB
abbrev mU_state_of := mUB
abbrev s_state_of : Stmt := top 19
theorem sc_state_of : FnScope ["wish", "run"] ["wish", "run"] (defScope s_state_of) := ⟨rfl, rfl, rfl, by decide +kernel, rfl, by decide +kernel, by decide +kernel⟩
def w_state_of : FS := fsSeq (fsDrop (fCall 1 W_need_wish (faD (flCons (fVar 0) (flNil)))))
  (fsSeq (fsDrop (fCall 2 W_need_run (faD (flCons (fOp gIx (fVar 0) (fC (.int 0))) (flCons (fVar 1) (flNil))))))
  (fsRet (fCall 3 W_state_behind (faD (flCons (fOp gIx (fVar 0) (fC (.int 1))) (flCons (fC (.int 0)) (flCons (fVar 1) (flNil))))))))
def u_state_of (C_BadWish C_OutOfPlace : Addr) : FX := fxOr (fxCall 1 (U_need_wish C_BadWish) (faD (flCons (fVar 0) (flNil)))) (fxThen (fsDrop (fCall 1 W_need_wish (faD (flCons (fVar 0) (flNil))))) (fxCall 2 (U_need_run C_OutOfPlace) (faD (flCons (fOp gIx (fVar 0) (fC (.int 0))) (flCons (fVar 1) (flNil))))))
theorem raw_state_of {f : Addr} {fd : FuncData} {a_need_wish : Addr} {d_need_wish : FuncData} {a_need_run : Addr} {d_need_run : FuncData} {a_state_behind : Addr} {d_state_behind : FuncData} {C_BadWish : Addr} {C_OutOfPlace : Addr} (F : Fun K "state_of" "state_of" s_state_of f fd) (T : Txt mg) (g_need_wish : mg "need_wish" = some (.ref a_need_wish)) (g_need_run : mg "need_run" = some (.ref a_need_run)) (g_state_behind : mg "state_behind" = some (.ref a_state_behind)) (G_need_wish : FnG P w K mg base (L2.CX P w) 5 a_need_wish d_need_wish ["thing"] (spX ⟨K, w, P⟩ (MM TT) 1 W_need_wish (U_need_wish C_BadWish))) (b_need_wish : Binds K d_need_wish ["thing"] []) (k_need_wish : PySem.W.keepIn K (.ref a_need_wish) = true) (G_need_run : FnG P w K mg base (L2.CX P w) 5 a_need_run d_need_run ["deeds", "thing"] (spX ⟨K, w, P⟩ (MM TT) 2 W_need_run (U_need_run C_OutOfPlace))) (b_need_run : Binds K d_need_run ["deeds", "thing"] []) (k_need_run : PySem.W.keepIn K (.ref a_need_run) = true) (G_state_behind : FnG P w K mg base (L2.CX P w) 1 a_state_behind d_state_behind ["steps", "state", "deeds"] (spD ⟨K, w, P⟩ (MM TT) 3 W_state_behind)) (b_state_behind : Binds K d_state_behind ["steps", "state", "deeds"] []) (k_state_behind : PySem.W.keepIn K (.ref a_state_behind) = true) : FnG P w K mg base (L2.CX P w) (6) f fd ["wish", "run"] (spX ⟨K, w, P⟩ (MM TT) 2 (fBody 2 w_state_of) (fBodyX 2 (u_state_of C_BadWish C_OutOfPlace))) := by
  refine fnX F sc_state_of fun X cdv A outer s H E eX hgd hr tk po => ?_
  subst eX
  have nd := (sc_state_of).nd
  have hu : (A.deeper (envOfC "state_of" (defScope s_state_of) s.heap.objs.size f cdv)).units + 64 < cLine := hr.units
  refine ⟨?_, ?_⟩
  · exact pds_cons (pds_expr (pd_call mW_need_wish (G_need_wish.left.mono (by decide)) hgd hr (by rfl) g_need_wish k_need_wish b_need_wish (pda_d (pdl_cons (pd_var (pv 0)) (pdl_nil)))))
          (pds_cons (pds_expr (pd_call mW_need_run (G_need_run.left.mono (by decide)) hgd hr (by rfl) g_need_run k_need_run b_need_run (pda_d (pdl_cons (pd_ix ix_any rd_ix (pd_var (pv 0)) (pd_int) (fun _ _ => rfl)) (pdl_cons (pd_var (pv 1)) (pdl_nil))))))
          (pds_one (pds_ret (pd_call mW_state_behind (G_state_behind.mono (by decide)) hgd hr (by rfl) g_state_behind k_state_behind b_state_behind (pda_d (pdl_cons (pd_ix ix_any rd_ix (pd_var (pv 0)) (pd_int) (fun _ _ => rfl)) (pdl_cons (pd_int) (pdl_cons (pd_var (pv 1)) (pdl_nil)))))))))
  · exact prs_or (prs_hd (pr_expr (px_call tk (mU_need_wish C_BadWish) (G_need_wish.right.mono (by decide)) hgd hr (by rfl) g_need_wish k_need_wish b_need_wish (pda_d (pdl_cons (pd_var (pv 0)) (pdl_nil))))) (pds_cons (pds_expr (pd_call mW_need_run (G_need_run.left.mono (by decide)) hgd hr (by rfl) g_need_run k_need_run b_need_run (pda_d (pdl_cons (pd_ix ix_any rd_ix (pd_var (pv 0)) (pd_int) (fun _ _ => rfl)) (pdl_cons (pd_var (pv 1)) (pdl_nil))))))
          (pds_one (pds_ret (pd_call mW_state_behind (G_state_behind.mono (by decide)) hgd hr (by rfl) g_state_behind k_state_behind b_state_behind (pda_d (pdl_cons (pd_ix ix_any rd_ix (pd_var (pv 0)) (pd_int) (fun _ _ => rfl)) (pdl_cons (pd_int) (pdl_cons (pd_var (pv 1)) (pdl_nil))))))))))
          (prs_tl (pds_expr (pd_call mW_need_wish (G_need_wish.left.mono (by decide)) hgd hr (by rfl) g_need_wish k_need_wish b_need_wish (pda_d (pdl_cons (pd_var (pv 0)) (pdl_nil))))) (prs_hd (pr_expr (px_call tk (mU_need_run C_OutOfPlace) (G_need_run.right.mono (by decide)) hgd hr (by rfl) g_need_run k_need_run b_need_run (pda_d (pdl_cons (pd_ix ix_any rd_ix (pd_var (pv 0)) (pd_int) (fun _ _ => rfl)) (pdl_cons (pd_var (pv 1)) (pdl_nil)))))) (pds_one (pds_ret (pd_call mW_state_behind (G_state_behind.mono (by decide)) hgd hr (by rfl) g_state_behind k_state_behind b_state_behind (pda_d (pdl_cons (pd_ix ix_any rd_ix (pd_var (pv 0)) (pd_int) (fun _ _ => rfl)) (pdl_cons (pd_int) (pdl_cons (pd_var (pv 1)) (pdl_nil))))))))))
theorem ok_state_of : ∀ ρ k, W_state_of ρ k → fBody 2 w_state_of ρ k := by
  rintro ⟨sl, n⟩ k ⟨q, T, G, r, e, ⟨w, hl, hd⟩, z⟩
  simp only at e
  subst e
  have ht := w.t1
  simp [w_state_of]
  simp [and_assoc, Rho.set, dropOwn, ftLend, fLend, lendR, frz, ow, nList, -forall_exists_index, fBody, fsSeq, fsIf, fsRet, fsNext, fsDrop, fsAsg, fsNever, fsFor, fsOwn, fsPar2, fsPar3, fsPar_od, fsPar_do, fsPar_oo, fVar, fC, fUn, fOp, fChain, fTup, fLst, fCall, faD, faSt, flCons, flNil, fSl, foSome, foNone, fAnd, fOr, fNot, fIf, fOfN, fn1, fnLst, fnCat, fgN, fgTup, fgCons, fgNil, fiSeq, fiRange1, fiRange2, fiEnumA, fiZip, ftOr, ftAnd, ftNot, ftB, ftT, ftYes, truD_b, truD_i, truD_l, truD_t, truD_n, gIx_t0, gIx_t1, gIx_t2, gSl_t, gSl_l, gIsT, notDict, isT, isN, tyName, gLen_t, gLen_l, gTuple_l, gCmp, gAdd_ii, gAdd_ll, PD.gSub, gNeg, gMod, seqD, forD, wipeR, gEqA, gNeA, gEq_ii, gNe_ii, gEq_tt, gIn_ints, gIn_intsL, gNotIn_ints, gNotIn_intsL, fM0, fM1, fJoined, fJ, flStar, starD, fCall0, gIsTX, noInst_n, noInst_b, noInst_i, noInst_s, noInst_l, noInst_t, fFld, fMeth, fMake, faNil, fsFld, fLendO, fDisp, fpCons, fpNil, fDict0, fiAny, walkD, fiOver, dKeys, dVals, dPairs, fsOwnD, fsPut, fOwnIx, fPop, fsExt, fDc, compK, gInX, gNotInX, gIxX, fGet]
  exact ⟨q, T, G, rfl, w, q, tupI r, rfl, ⟨okD_tupI (by omega), runB_yes hd hl⟩, q, T, G, 0, r, rfl, ⟨w, ⟨by omega, by omega⟩, hd⟩, z⟩
theorem okx_state_of (C C' : Addr) : ∀ ρ k, U_state_of C C' ρ k → fBodyX 2 (u_state_of C C') ρ k := by
  rintro ⟨sl, n⟩ k ⟨d, r, e, h⟩
  simp only at e
  subst e
  simp [u_state_of, fBodyX, fxOr, fxThen, fxCall]
  simp [and_assoc, Rho.set, dropOwn, ftLend, fLend, lendR, frz, ow, nList, -forall_exists_index, fBody, fsSeq, fsIf, fsRet, fsNext, fsDrop, fsAsg, fsNever, fsFor, fsOwn, fsPar2, fsPar3, fsPar_od, fsPar_do, fsPar_oo, fVar, fC, fUn, fOp, fChain, fTup, fLst, fCall, faD, faSt, flCons, flNil, fSl, foSome, foNone, fAnd, fOr, fNot, fIf, fOfN, fn1, fnLst, fnCat, fgN, fgTup, fgCons, fgNil, fiSeq, fiRange1, fiRange2, fiEnumA, fiZip, ftOr, ftAnd, ftNot, ftB, ftT, ftYes, truD_b, truD_i, truD_l, truD_t, truD_n, gIx_t0, gIx_t1, gIx_t2, gSl_t, gSl_l, gIsT, notDict, isT, isN, tyName, gLen_t, gLen_l, gTuple_l, gCmp, gAdd_ii, gAdd_ll, PD.gSub, gNeg, gMod, seqD, forD, wipeR, gEqA, gNeA, gEq_ii, gNe_ii, gEq_tt, gIn_ints, gIn_intsL, gNotIn_ints, gNotIn_intsL, fM0, fM1, fJoined, fJ, flStar, starD, fCall0, gIsTX, noInst_n, noInst_b, noInst_i, noInst_s, noInst_l, noInst_t, fFld, fMeth, fMake, faNil, fsFld, fLendO, fDisp, fpCons, fpNil, fDict0, fiAny, walkD, fiOver, dKeys, dVals, dPairs, fsOwnD, fsPut, fOwnIx, fPop, fsExt, fDc, compK, gInX, gNotInX, gIxX, fGet]
  rcases h with ⟨hd, p, hp, z⟩ | ⟨q, T, G, rfl, w, hr, hb, z⟩
  · exact .inl ⟨d, p, rfl, hd, hp, z⟩
  · exact .inr ⟨q, T, G, rfl, w, .int q, rfl, q, r, rfl, hr, hb, z⟩
def W_is_good : FE := fun ρ k => ∃ (q : Int) (T : List (List Int)) (G : List Int) (r : List Int), ρ.sl = [.d (wishD q T G), .d (tupI r)] ∧ (WOK q T G ∧ r.length ≤ 400 ∧ (∀ d ∈ r, Dd q d)) ∧ k (.bool (decide (walkT T 0 r ∈ G))) ρ
theorem mW_is_good (ρ : Rho) (k k' : KD) (hM : ∀ d ρ', k d ρ' → k' d ρ') (q : W_is_good ρ k) : W_is_good ρ k' := by
  obtain ⟨q, T, G, r, e1, e2, e3⟩ := q
  exact ⟨q, T, G, r, e1, e2, hM _ _ e3⟩
abbrev U_is_good := UB
abbrev mU_is_good := mUB
abbrev s_is_good : Stmt := top 20
theorem sc_is_good : FnScope ["wish", "run"] ["wish", "run"] (defScope s_is_good) := ⟨rfl, rfl, rfl, by decide +kernel, rfl, by decide +kernel, by decide +kernel⟩
def w_is_good : FS := fsRet (fOp gIn (fCall 2 W_state_of (faD (flCons (fVar 0) (flCons (fVar 1) (flNil))))) (fOp gIx (fVar 0) (fC (.int 2))))
def u_is_good (C_BadWish C_OutOfPlace : Addr) : FX := fxCall 2 (U_state_of C_BadWish C_OutOfPlace) (faD (flCons (fVar 0) (flCons (fVar 1) (flNil))))
theorem raw_is_good {f : Addr} {fd : FuncData} {a_state_of : Addr} {d_state_of : FuncData} {C_BadWish : Addr} {C_OutOfPlace : Addr} (F : Fun K "is_good" "is_good" s_is_good f fd) (T : Txt mg) (g_state_of : mg "state_of" = some (.ref a_state_of)) (G_state_of : FnG P w K mg base (L2.CX P w) 6 a_state_of d_state_of ["wish", "run"] (spX ⟨K, w, P⟩ (MM TT) 2 W_state_of (U_state_of C_BadWish C_OutOfPlace))) (b_state_of : Binds K d_state_of ["wish", "run"] []) (k_state_of : PySem.W.keepIn K (.ref a_state_of) = true) : FnG P w K mg base (L2.CX P w) (7) f fd ["wish", "run"] (spX ⟨K, w, P⟩ (MM TT) 2 (fBody 2 w_is_good) (fBodyX 2 (u_is_good C_BadWish C_OutOfPlace))) := by
  refine fnX F sc_is_good fun X cdv A outer s H E eX hgd hr tk po => ?_
  subst eX
  have nd := (sc_is_good).nd
  have hu : (A.deeper (envOfC "is_good" (defScope s_is_good) s.heap.objs.size f cdv)).units + 64 < cLine := hr.units
  refine ⟨?_, ?_⟩
  · exact pds_one (pds_ret (pd_cmp op_in_seq rd_in (pd_call mW_state_of (G_state_of.left.mono (by decide)) hgd hr (by rfl) g_state_of k_state_of b_state_of (pda_d (pdl_cons (pd_var (pv 0)) (pdl_cons (pd_var (pv 1)) (pdl_nil))))) (pd_ix ix_any rd_ix (pd_var (pv 0)) (pd_int) (fun _ _ => rfl)) (by first | exact nomark _ | rfl)))
  · exact prs_hd (pr_ret (px_cmpl op_in_seq (px_call tk (mU_state_of C_BadWish C_OutOfPlace) (G_state_of.right.mono (by decide)) hgd hr (by rfl) g_state_of k_state_of b_state_of (pda_d (pdl_cons (pd_var (pv 0)) (pdl_cons (pd_var (pv 1)) (pdl_nil))))) (pd_ix ix_any rd_ix (pd_var (pv 0)) (pd_int) (fun _ _ => rfl)) (by first | exact nomark _ | rfl))) (pds_nil)
theorem ok_is_good : ∀ ρ k, W_is_good ρ k → fBody 2 w_is_good ρ k := by
  rintro ⟨sl, n⟩ k ⟨q, T, G, r, e, h, z⟩
  simp only at e
  subst e
  simp [w_is_good]
  simp [and_assoc, Rho.set, dropOwn, ftLend, fLend, lendR, frz, ow, nList, -forall_exists_index, fBody, fsSeq, fsIf, fsRet, fsNext, fsDrop, fsAsg, fsNever, fsFor, fsOwn, fsPar2, fsPar3, fsPar_od, fsPar_do, fsPar_oo, fVar, fC, fUn, fOp, fChain, fTup, fLst, fCall, faD, faSt, flCons, flNil, fSl, foSome, foNone, fAnd, fOr, fNot, fIf, fOfN, fn1, fnLst, fnCat, fgN, fgTup, fgCons, fgNil, fiSeq, fiRange1, fiRange2, fiEnumA, fiZip, ftOr, ftAnd, ftNot, ftB, ftT, ftYes, truD_b, truD_i, truD_l, truD_t, truD_n, gIx_t0, gIx_t1, gIx_t2, gSl_t, gSl_l, gIsT, notDict, isT, isN, tyName, gLen_t, gLen_l, gTuple_l, gCmp, gAdd_ii, gAdd_ll, PD.gSub, gNeg, gMod, seqD, forD, wipeR, gEqA, gNeA, gEq_ii, gNe_ii, gEq_tt, gIn_ints, gIn_intsL, gNotIn_ints, gNotIn_intsL, fM0, fM1, fJoined, fJ, flStar, starD, fCall0, gIsTX, noInst_n, noInst_b, noInst_i, noInst_s, noInst_l, noInst_t, fFld, fMeth, fMake, faNil, fsFld, fLendO, fDisp, fpCons, fpNil, fDict0, fiAny, walkD, fiOver, dKeys, dVals, dPairs, fsOwnD, fsPut, fOwnIx, fPop, fsExt, fDc, compK, gInX, gNotInX, gIxX, fGet]
  exact ⟨q, T, G, r, rfl, h, _, gIn_ints _ _, z⟩
theorem okx_is_good (C C' : Addr) : ∀ ρ k, U_is_good C C' ρ k → fBodyX 2 (u_is_good C C') ρ k := by
  rintro ⟨sl, n⟩ k ⟨d, r, e, h⟩
  simp only at e
  subst e
  simp [u_is_good, fBodyX, fxCall]
  simp [and_assoc, Rho.set, dropOwn, ftLend, fLend, lendR, frz, ow, nList, -forall_exists_index, fBody, fsSeq, fsIf, fsRet, fsNext, fsDrop, fsAsg, fsNever, fsFor, fsOwn, fsPar2, fsPar3, fsPar_od, fsPar_do, fsPar_oo, fVar, fC, fUn, fOp, fChain, fTup, fLst, fCall, faD, faSt, flCons, flNil, fSl, foSome, foNone, fAnd, fOr, fNot, fIf, fOfN, fn1, fnLst, fnCat, fgN, fgTup, fgCons, fgNil, fiSeq, fiRange1, fiRange2, fiEnumA, fiZip, ftOr, ftAnd, ftNot, ftB, ftT, ftYes, truD_b, truD_i, truD_l, truD_t, truD_n, gIx_t0, gIx_t1, gIx_t2, gSl_t, gSl_l, gIsT, notDict, isT, isN, tyName, gLen_t, gLen_l, gTuple_l, gCmp, gAdd_ii, gAdd_ll, PD.gSub, gNeg, gMod, seqD, forD, wipeR, gEqA, gNeA, gEq_ii, gNe_ii, gEq_tt, gIn_ints, gIn_intsL, gNotIn_ints, gNotIn_intsL, fM0, fM1, fJoined, fJ, flStar, starD, fCall0, gIsTX, noInst_n, noInst_b, noInst_i, noInst_s, noInst_l, noInst_t, fFld, fMeth, fMake, faNil, fsFld, fLendO, fDisp, fpCons, fpNil, fDict0, fiAny, walkD, fiOver, dKeys, dVals, dPairs, fsOwnD, fsPut, fOwnIx, fPop, fsExt, fDc, compK, gInX, gNotInX, gIxX, fGet]
  exact ⟨d, r, rfl, h⟩
abbrev U_live_states := U_need_wish
abbrev mU_live_states := mU_need_wish
abbrev s_live_states : Stmt := top 22
theorem sc_live_states : FnScope ["wish", "steps", "good", "live", "more"] ["wish"] (defScope s_live_states) := ⟨rfl, rfl, rfl, by decide +kernel, rfl, by decide +kernel, by decide +kernel⟩
def w_live_states : FS := fsSeq (fsAsg (fSl gSl (fCall 1 W_need_wish (faD (flCons (fVar 0) (flNil)))) (foSome (fC (.int 1))) (foNone)) (fgTup 2 (fgCons (fgN 1) (fgCons (fgN 2) (fgNil)))))
  (fsSeq (fsAsg (fVar 2) (fgN 3))
  (whD (ftT (fC (.bool true))) (fsSeq (fsAsg (fCall 2 W_with_those_ahead (faD (flCons (fVar 1) (flCons (fVar 3) (flNil))))) (fgN 4))
  (fsSeq (fsIf (ftB (fOp gEqA (fVar 4) (fVar 3))) (fsRet (fVar 4)) (fsNext))
  (fsAsg (fVar 4) (fgN 3))))))
def u_live_states (C_BadWish : Addr) : FX := fxCall 1 (U_need_wish C_BadWish) (faD (flCons (fVar 0) (flNil)))
theorem raw_live_states {f : Addr} {fd : FuncData} {a_need_wish : Addr} {d_need_wish : FuncData} {a_with_those_ahead : Addr} {d_with_those_ahead : FuncData} {C_BadWish : Addr} (F : Fun K "live_states" "live_states" s_live_states f fd) (T : Txt mg) (g_need_wish : mg "need_wish" = some (.ref a_need_wish)) (g_with_those_ahead : mg "_with_those_ahead" = some (.ref a_with_those_ahead)) (G_need_wish : FnG P w K mg base (L2.CX P w) 5 a_need_wish d_need_wish ["thing"] (spX ⟨K, w, P⟩ (MM TT) 1 W_need_wish (U_need_wish C_BadWish))) (b_need_wish : Binds K d_need_wish ["thing"] []) (k_need_wish : PySem.W.keepIn K (.ref a_need_wish) = true) (G_with_those_ahead : FnG P w K mg base (L2.CX P w) 1 a_with_those_ahead d_with_those_ahead ["steps", "states"] (spD ⟨K, w, P⟩ (MM TT) 2 W_with_those_ahead)) (b_with_those_ahead : Binds K d_with_those_ahead ["steps", "states"] []) (k_with_those_ahead : PySem.W.keepIn K (.ref a_with_those_ahead) = true) : FnG P w K mg base (L2.CX P w) (6) f fd ["wish"] (spX ⟨K, w, P⟩ (MM TT) 1 (fBody 5 w_live_states) (fBodyX 5 (u_live_states C_BadWish))) := by
  refine fnX F sc_live_states fun X cdv A outer s H E eX hgd hr tk po => ?_
  subst eX
  have nd := (sc_live_states).nd
  have hu : (A.deeper (envOfC "live_states" (defScope s_live_states) s.heap.objs.size f cdv)).units + 64 < cLine := hr.units
  refine ⟨?_, ?_⟩
  · exact pds_cons (pds_asg (pd_slice (pd_call mW_need_wish (G_need_wish.left.mono (by decide)) hgd hr (by rfl) g_need_wish k_need_wish b_need_wish (pda_d (pdl_cons (pd_var (pv 0)) (pdl_nil)))) (pdo_some (pd_int)) (pdo_none)) (pg1_tup (pgn_cons (pg1_name (i := 1) (pg_name (i := 1) nd rfl (by first | exact Or.inl rfl | exact Or.inr rfl))) (pgn_cons (pg1_name (i := 2) (pg_name (i := 2) nd rfl (by first | exact Or.inl rfl | exact Or.inr rfl))) (pgn_nil) (pgs_cons (pg1_name (i := 2) (pg_name (i := 2) nd rfl (by first | exact Or.inl rfl | exact Or.inr rfl))).pg (pgn_nil).pg)) (pgs_cons (pg1_name (i := 1) (pg_name (i := 1) nd rfl (by first | exact Or.inl rfl | exact Or.inr rfl))).pg (pgn_cons (pg1_name (i := 2) (pg_name (i := 2) nd rfl (by first | exact Or.inl rfl | exact Or.inr rfl))) (pgn_nil) (pgs_cons (pg1_name (i := 2) (pg_name (i := 2) nd rfl (by first | exact Or.inl rfl | exact Or.inr rfl))).pg (pgn_nil).pg)).pg)) (pg_tup rfl (pgn_cons (pg1_name (i := 1) (pg_name (i := 1) nd rfl (by first | exact Or.inl rfl | exact Or.inr rfl))) (pgn_cons (pg1_name (i := 2) (pg_name (i := 2) nd rfl (by first | exact Or.inl rfl | exact Or.inr rfl))) (pgn_nil) (pgs_cons (pg1_name (i := 2) (pg_name (i := 2) nd rfl (by first | exact Or.inl rfl | exact Or.inr rfl))).pg (pgn_nil).pg)) (pgs_cons (pg1_name (i := 1) (pg_name (i := 1) nd rfl (by first | exact Or.inl rfl | exact Or.inr rfl))).pg (pgn_cons (pg1_name (i := 2) (pg_name (i := 2) nd rfl (by first | exact Or.inl rfl | exact Or.inr rfl))) (pgn_nil) (pgs_cons (pg1_name (i := 2) (pg_name (i := 2) nd rfl (by first | exact Or.inl rfl | exact Or.inr rfl))).pg (pgn_nil).pg)).pg)).pg)))
          (pds_cons (pds_asg (pd_var (pv 2)) (pg1_name (i := 3) (pg_name (i := 3) nd rfl (by first | exact Or.inl rfl | exact Or.inr rfl))))
          (pds_one (pds_while po (pdt_truth (pd_bl)) (pds_cons (pds_asg (pd_call mW_with_those_ahead (G_with_those_ahead.mono (by decide)) hgd hr (by rfl) g_with_those_ahead k_with_those_ahead b_with_those_ahead (pda_d (pdl_cons (pd_var (pv 1)) (pdl_cons (pd_var (pv 3)) (pdl_nil))))) (pg1_name (i := 4) (pg_name (i := 4) nd rfl (by first | exact Or.inl rfl | exact Or.inr rfl))))
          (pds_cons (pds_if (pdt_cmp (op_eqA hu) rd_eqA (pd_var (pv 4)) (pd_var (pv 3)) (by first | exact nomark _ | rfl)) (pds_one (pds_ret (pd_var (pv 4)))) (pds_nil))
          (pds_one (pds_asg (pd_var (pv 4)) (pg1_name (i := 3) (pg_name (i := 3) nd rfl (by first | exact Or.inl rfl | exact Or.inr rfl))))))))))
  · exact prs_hd (pr_asg (px_slc (px_call tk (mU_need_wish C_BadWish) (G_need_wish.right.mono (by decide)) hgd hr (by rfl) g_need_wish k_need_wish b_need_wish (pda_d (pdl_cons (pd_var (pv 0)) (pdl_nil)))) (pdo_some (pd_int)) (pdo_none)) (pg1_tup (pgn_cons (pg1_name (i := 1) (pg_name (i := 1) nd rfl (by first | exact Or.inl rfl | exact Or.inr rfl))) (pgn_cons (pg1_name (i := 2) (pg_name (i := 2) nd rfl (by first | exact Or.inl rfl | exact Or.inr rfl))) (pgn_nil) (pgs_cons (pg1_name (i := 2) (pg_name (i := 2) nd rfl (by first | exact Or.inl rfl | exact Or.inr rfl))).pg (pgn_nil).pg)) (pgs_cons (pg1_name (i := 1) (pg_name (i := 1) nd rfl (by first | exact Or.inl rfl | exact Or.inr rfl))).pg (pgn_cons (pg1_name (i := 2) (pg_name (i := 2) nd rfl (by first | exact Or.inl rfl | exact Or.inr rfl))) (pgn_nil) (pgs_cons (pg1_name (i := 2) (pg_name (i := 2) nd rfl (by first | exact Or.inl rfl | exact Or.inr rfl))).pg (pgn_nil).pg)).pg)) (pg_tup rfl (pgn_cons (pg1_name (i := 1) (pg_name (i := 1) nd rfl (by first | exact Or.inl rfl | exact Or.inr rfl))) (pgn_cons (pg1_name (i := 2) (pg_name (i := 2) nd rfl (by first | exact Or.inl rfl | exact Or.inr rfl))) (pgn_nil) (pgs_cons (pg1_name (i := 2) (pg_name (i := 2) nd rfl (by first | exact Or.inl rfl | exact Or.inr rfl))).pg (pgn_nil).pg)) (pgs_cons (pg1_name (i := 1) (pg_name (i := 1) nd rfl (by first | exact Or.inl rfl | exact Or.inr rfl))).pg (pgn_cons (pg1_name (i := 2) (pg_name (i := 2) nd rfl (by first | exact Or.inl rfl | exact Or.inr rfl))) (pgn_nil) (pgs_cons (pg1_name (i := 2) (pg_name (i := 2) nd rfl (by first | exact Or.inl rfl | exact Or.inr rfl))).pg (pgn_nil).pg)).pg)).pg))) (pds_cons (pds_asg (pd_var (pv 2)) (pg1_name (i := 3) (pg_name (i := 3) nd rfl (by first | exact Or.inl rfl | exact Or.inr rfl))))
          (pds_one (pds_while po (pdt_truth (pd_bl)) (pds_cons (pds_asg (pd_call mW_with_those_ahead (G_with_those_ahead.mono (by decide)) hgd hr (by rfl) g_with_those_ahead k_with_those_ahead b_with_those_ahead (pda_d (pdl_cons (pd_var (pv 1)) (pdl_cons (pd_var (pv 3)) (pdl_nil))))) (pg1_name (i := 4) (pg_name (i := 4) nd rfl (by first | exact Or.inl rfl | exact Or.inr rfl))))
          (pds_cons (pds_if (pdt_cmp (op_eqA hu) rd_eqA (pd_var (pv 4)) (pd_var (pv 3)) (by first | exact nomark _ | rfl)) (pds_one (pds_ret (pd_var (pv 4)))) (pds_nil))
          (pds_one (pds_asg (pd_var (pv 4)) (pg1_name (i := 3) (pg_name (i := 3) nd rfl (by first | exact Or.inl rfl | exact Or.inr rfl))))))))))
theorem ok_live_states : ∀ ρ k, W_live_states ρ k → fBody 5 w_live_states ρ k := GP.ok_live_states
theorem okx_live_states (C : Addr) : ∀ ρ k, U_live_states C ρ k → fBodyX 5 (u_live_states C) ρ k := by
  rintro ⟨sl, n⟩ k ⟨d, p, e, h⟩
  simp only at e
  subst e
  simp [u_live_states, fBodyX, fxCall]
  simp [and_assoc, Rho.set, dropOwn, ftLend, fLend, lendR, frz, ow, nList, -forall_exists_index, fBody, fsSeq, fsIf, fsRet, fsNext, fsDrop, fsAsg, fsNever, fsFor, fsOwn, fsPar2, fsPar3, fsPar_od, fsPar_do, fsPar_oo, fVar, fC, fUn, fOp, fChain, fTup, fLst, fCall, faD, faSt, flCons, flNil, fSl, foSome, foNone, fAnd, fOr, fNot, fIf, fOfN, fn1, fnLst, fnCat, fgN, fgTup, fgCons, fgNil, fiSeq, fiRange1, fiRange2, fiEnumA, fiZip, ftOr, ftAnd, ftNot, ftB, ftT, ftYes, truD_b, truD_i, truD_l, truD_t, truD_n, gIx_t0, gIx_t1, gIx_t2, gSl_t, gSl_l, gIsT, notDict, isT, isN, tyName, gLen_t, gLen_l, gTuple_l, gCmp, gAdd_ii, gAdd_ll, PD.gSub, gNeg, gMod, seqD, forD, wipeR, gEqA, gNeA, gEq_ii, gNe_ii, gEq_tt, gIn_ints, gIn_intsL, gNotIn_ints, gNotIn_intsL, fM0, fM1, fJoined, fJ, flStar, starD, fCall0, gIsTX, noInst_n, noInst_b, noInst_i, noInst_s, noInst_l, noInst_t, fFld, fMeth, fMake, faNil, fsFld, fLendO, fDisp, fpCons, fpNil, fDict0, fiAny, walkD, fiOver, dKeys, dVals, dPairs, fsOwnD, fsPut, fOwnIx, fPop, fsExt, fDc, compK, gInX, gNotInX, gIxX, fGet]
  exact ⟨d, p, rfl, h⟩
def W_is_live : FE := fun ρ k => ∃ q T G r, ρ.sl = [.d (wishD q T G), .d (tupI r)] ∧ (WOK q T G ∧ r.length ≤ 400 ∧ (∀ d ∈ r, Dd q d)) ∧ ∀ b : Bool, k (.bool b) ρ
theorem mW_is_live (ρ : Rho) (k k' : KD) (hM : ∀ d ρ', k d ρ' → k' d ρ') (z : W_is_live ρ k) : W_is_live ρ k' := by
  obtain ⟨q, T, G, r, e1, e2, e3⟩ := z
  exact ⟨q, T, G, r, e1, e2, fun b => hM _ _ (e3 b)⟩
abbrev U_is_live := UB
abbrev mU_is_live := mUB
abbrev s_is_live : Stmt := top 21
theorem sc_is_live : FnScope ["wish", "run"] ["wish", "run"] (defScope s_is_live) := ⟨rfl, rfl, rfl, by decide +kernel, rfl, by decide +kernel, by decide +kernel⟩
def w_is_live : FS := fsRet (fOp gIn (fCall 2 W_state_of (faD (flCons (fVar 0) (flCons (fVar 1) (flNil))))) (fCall 1 W_live_states (faD (flCons (fVar 0) (flNil)))))
def u_is_live (C_BadWish C_OutOfPlace : Addr) : FX := fxCall 2 (U_state_of C_BadWish C_OutOfPlace) (faD (flCons (fVar 0) (flCons (fVar 1) (flNil))))
theorem raw_is_live {f : Addr} {fd : FuncData} {a_state_of : Addr} {d_state_of : FuncData} {a_live_states : Addr} {d_live_states : FuncData} {C_BadWish : Addr} {C_OutOfPlace : Addr} (F : Fun K "is_live" "is_live" s_is_live f fd) (T : Txt mg) (g_state_of : mg "state_of" = some (.ref a_state_of)) (g_live_states : mg "live_states" = some (.ref a_live_states)) (G_state_of : FnG P w K mg base (L2.CX P w) 6 a_state_of d_state_of ["wish", "run"] (spX ⟨K, w, P⟩ (MM TT) 2 W_state_of (U_state_of C_BadWish C_OutOfPlace))) (b_state_of : Binds K d_state_of ["wish", "run"] []) (k_state_of : PySem.W.keepIn K (.ref a_state_of) = true) (G_live_states : FnG P w K mg base (L2.CX P w) 6 a_live_states d_live_states ["wish"] (spX ⟨K, w, P⟩ (MM TT) 1 W_live_states (U_live_states C_BadWish))) (b_live_states : Binds K d_live_states ["wish"] []) (k_live_states : PySem.W.keepIn K (.ref a_live_states) = true) : FnG P w K mg base (L2.CX P w) (7) f fd ["wish", "run"] (spX ⟨K, w, P⟩ (MM TT) 2 (fBody 2 w_is_live) (fBodyX 2 (u_is_live C_BadWish C_OutOfPlace))) := by
  refine fnX F sc_is_live fun X cdv A outer s H E eX hgd hr tk po => ?_
  subst eX
  have nd := (sc_is_live).nd
  have hu : (A.deeper (envOfC "is_live" (defScope s_is_live) s.heap.objs.size f cdv)).units + 64 < cLine := hr.units
  refine ⟨?_, ?_⟩
  · exact pds_one (pds_ret (pd_cmp op_in_seq rd_in (pd_call mW_state_of (G_state_of.left.mono (by decide)) hgd hr (by rfl) g_state_of k_state_of b_state_of (pda_d (pdl_cons (pd_var (pv 0)) (pdl_cons (pd_var (pv 1)) (pdl_nil))))) (pd_call mW_live_states (G_live_states.left.mono (by decide)) hgd hr (by rfl) g_live_states k_live_states b_live_states (pda_d (pdl_cons (pd_var (pv 0)) (pdl_nil)))) (by first | exact nomark _ | rfl)))
  · exact prs_hd (pr_ret (px_cmpl op_in_seq (px_call tk (mU_state_of C_BadWish C_OutOfPlace) (G_state_of.right.mono (by decide)) hgd hr (by rfl) g_state_of k_state_of b_state_of (pda_d (pdl_cons (pd_var (pv 0)) (pdl_cons (pd_var (pv 1)) (pdl_nil))))) (pd_call mW_live_states (G_live_states.left.mono (by decide)) hgd hr (by rfl) g_live_states k_live_states b_live_states (pda_d (pdl_cons (pd_var (pv 0)) (pdl_nil)))) (by first | exact nomark _ | rfl))) (pds_nil)
theorem ok_is_live : ∀ ρ k, W_is_live ρ k → fBody 2 w_is_live ρ k := by
  rintro ⟨sl, n⟩ k ⟨q, T, G, r, e, h, z⟩
  simp only at e
  subst e
  simp [w_is_live]
  simp [and_assoc, Rho.set, dropOwn, ftLend, fLend, lendR, frz, ow, nList, -forall_exists_index, fBody, fsSeq, fsIf, fsRet, fsNext, fsDrop, fsAsg, fsNever, fsFor, fsOwn, fsPar2, fsPar3, fsPar_od, fsPar_do, fsPar_oo, fVar, fC, fUn, fOp, fChain, fTup, fLst, fCall, faD, faSt, flCons, flNil, fSl, foSome, foNone, fAnd, fOr, fNot, fIf, fOfN, fn1, fnLst, fnCat, fgN, fgTup, fgCons, fgNil, fiSeq, fiRange1, fiRange2, fiEnumA, fiZip, ftOr, ftAnd, ftNot, ftB, ftT, ftYes, truD_b, truD_i, truD_l, truD_t, truD_n, gIx_t0, gIx_t1, gIx_t2, gSl_t, gSl_l, gIsT, notDict, isT, isN, tyName, gLen_t, gLen_l, gTuple_l, gCmp, gAdd_ii, gAdd_ll, PD.gSub, gNeg, gMod, seqD, forD, wipeR, gEqA, gNeA, gEq_ii, gNe_ii, gEq_tt, gIn_ints, gIn_intsL, gNotIn_ints, gNotIn_intsL, fM0, fM1, fJoined, fJ, flStar, starD, fCall0, gIsTX, noInst_n, noInst_b, noInst_i, noInst_s, noInst_l, noInst_t, fFld, fMeth, fMake, faNil, fsFld, fLendO, fDisp, fpCons, fpNil, fDict0, fiAny, walkD, fiOver, dKeys, dVals, dPairs, fsOwnD, fsPut, fOwnIx, fPop, fsExt, fDc, compK, gInX, gNotInX, gIxX, fGet]
  exact ⟨q, T, G, r, rfl, h, q, T, G, rfl, h.1, fun S hS => ⟨_, gIn_ints _ _, z _⟩⟩
theorem okx_is_live (C C' : Addr) : ∀ ρ k, U_is_live C C' ρ k → fBodyX 2 (u_is_live C C') ρ k := by
  rintro ⟨sl, n⟩ k ⟨d, r, e, h⟩
  simp only at e
  subst e
  simp [u_is_live, fBodyX, fxCall]
  simp [and_assoc, Rho.set, dropOwn, ftLend, fLend, lendR, frz, ow, nList, -forall_exists_index, fBody, fsSeq, fsIf, fsRet, fsNext, fsDrop, fsAsg, fsNever, fsFor, fsOwn, fsPar2, fsPar3, fsPar_od, fsPar_do, fsPar_oo, fVar, fC, fUn, fOp, fChain, fTup, fLst, fCall, faD, faSt, flCons, flNil, fSl, foSome, foNone, fAnd, fOr, fNot, fIf, fOfN, fn1, fnLst, fnCat, fgN, fgTup, fgCons, fgNil, fiSeq, fiRange1, fiRange2, fiEnumA, fiZip, ftOr, ftAnd, ftNot, ftB, ftT, ftYes, truD_b, truD_i, truD_l, truD_t, truD_n, gIx_t0, gIx_t1, gIx_t2, gSl_t, gSl_l, gIsT, notDict, isT, isN, tyName, gLen_t, gLen_l, gTuple_l, gCmp, gAdd_ii, gAdd_ll, PD.gSub, gNeg, gMod, seqD, forD, wipeR, gEqA, gNeA, gEq_ii, gNe_ii, gEq_tt, gIn_ints, gIn_intsL, gNotIn_ints, gNotIn_intsL, fM0, fM1, fJoined, fJ, flStar, starD, fCall0, gIsTX, noInst_n, noInst_b, noInst_i, noInst_s, noInst_l, noInst_t, fFld, fMeth, fMake, faNil, fsFld, fLendO, fDisp, fpCons, fpNil, fDict0, fiAny, walkD, fiOver, dKeys, dVals, dPairs, fsOwnD, fsPut, fOwnIx, fPop, fsExt, fDc, compK, gInX, gNotInX, gIxX, fGet]
  exact ⟨d, r, rfl, h⟩
abbrev s_are_steps : Stmt := top 23
theorem sc_are_steps : FnScope ["thing", "deeds", "row"] ["thing", "deeds"] (defScope s_are_steps) := ⟨rfl, rfl, rfl, by decide +kernel, rfl, by decide +kernel, by decide +kernel⟩
theorem raw_are_steps {f : Addr} {fd : FuncData} {a_are_numbers : Addr} {d_are_numbers : FuncData} (F : Fun K "_are_steps" "_are_steps" s_are_steps f fd) (T : Txt mg) (g_are_numbers : mg "are_numbers" = some (.ref a_are_numbers)) (G_are_numbers : FnG P w K mg base (L2.CX P w) 3 a_are_numbers d_are_numbers ["thing", "many"] (spD ⟨K, w, P⟩ (MM TT) 2 W_are_numbers)) (b_are_numbers : Binds K d_are_numbers ["thing", "many"] []) (k_are_numbers : PySem.W.keepIn K (.ref a_are_numbers) = true) : FnG P w K mg base (L2.CX P w) (4) f fd ["thing", "deeds"] (spD ⟨K, w, P⟩ (MM TT) 2 (fBody 3 w_are_steps)) := by
  refine fnD F sc_are_steps fun cdv A outer s H E hgd hr => ?_
  have nd := (sc_are_steps).nd
  have hu : (A.deeper (envOfC "_are_steps" (defScope s_are_steps) s.heap.objs.size f cdv)).units + 64 < cLine := hr.units
  exact pds_cons (pds_if (PDW.pt (pdw_or (pdt_not (pdt_truth (pd_isiX (T := "tuple") (by decide) (by rfl) T.isinstance (pe_tyName (by rfl) T.tuple (by decide +kernel)) (pd_var (pv 0))))) (pdw_or1 (pdt_not (pdt_chain op_le op_le rd_cmp rd_cmp (pd_int) (pd_b1 call_lenA r1_len (by rfl) T.len (by decide +kernel) (pd_var (pv 0))) (pd_gint (by rfl) T.c_MOST_STATES)))))) (pds_one (pds_ret (pd_bl))) (pds_nil))
    (pds_one (pds_ret (pd_b1 (cr_all rfl) r1_all (by rfl) T.all (by decide +kernel) (pd_ofN (pn_lc rfl nd (own := [("row", 2)]) (vs := [2]) (pdi_seq (pd_var (pv 0))) (blkOk_by (own := [("row", 2)]) (N := ["thing", "deeds", "row"]) (sc := defScope s_are_steps) (by decide +kernel)) rfl (fun _ _ _ _ _ => pg1_name (i := 2) (pg_name (i := 2) nd rfl (by first | exact Or.inl rfl | exact Or.inr rfl))) (fun _ _ _ _ _ => ptn_nil) (fun _ _ _ _ _ => pd_and (pd_call mW_are_numbers (G_are_numbers.mono (by decide)) hgd hr (by rfl) g_are_numbers k_are_numbers b_are_numbers (pda_d (pdl_cons (pd_var (pv 2)) (pdl_cons (pd_b1 call_lenA r1_len (by rfl) T.len (by decide +kernel) (pd_var (pv 0))) (pdl_nil))))) (pd_one (pd_cmp (op_eqA hu) rd_eqA (pd_b1 call_lenA r1_len (by rfl) T.len (by decide +kernel) (pd_var (pv 2))) (pd_var (pv 1)) (by first | exact nomark _ | rfl)))) s)))))
abbrev s_with_those_ahead : Stmt := top 24
theorem sc_with_those_ahead : FnScope ["steps", "states", "state", "row", "behind"] ["steps", "states"] (defScope s_with_those_ahead) := ⟨rfl, rfl, rfl, by decide +kernel, rfl, by decide +kernel, by decide +kernel⟩
theorem raw_with_those_ahead {f : Addr} {fd : FuncData} (F : Fun K "_with_those_ahead" "_with_those_ahead" s_with_those_ahead f fd) (T : Txt mg) : FnG P w K mg base (L2.CX P w) (1) f fd ["steps", "states"] (spD ⟨K, w, P⟩ (MM TT) 2 (fBody 5 w_with_those_ahead)) := by
  refine fnD F sc_with_those_ahead fun cdv A outer s H E hgd hr => ?_
  have nd := (sc_with_those_ahead).nd
  have hu : (A.deeper (envOfC "_with_those_ahead" (defScope s_with_those_ahead) s.heap.objs.size f cdv)).units + 64 < cLine := hr.units
  exact pds_one (pds_ret (pd_t1 call_tuple_of r1_tuple (by rfl) T.tuple (by decide +kernel) (pd_ofN (pn_lc rfl nd (own := [("state", 2), ("row", 3)]) (vs := [2, 3]) (pdi_enumA (by rfl) T.enumerate (pdl_cons (pd_var (pv 0)) (pdl_nil))) (blkOk_by (own := [("state", 2), ("row", 3)]) (N := ["steps", "states", "state", "row", "behind"]) (sc := defScope s_with_those_ahead) (by decide +kernel)) rfl (fun _ _ _ _ _ => pg1_tup (pgn_cons (pg1_name (i := 2) (pg_name (i := 2) nd rfl (by first | exact Or.inl rfl | exact Or.inr rfl))) (pgn_cons (pg1_name (i := 3) (pg_name (i := 3) nd rfl (by first | exact Or.inl rfl | exact Or.inr rfl))) (pgn_nil) (pgs_cons (pg1_name (i := 3) (pg_name (i := 3) nd rfl (by first | exact Or.inl rfl | exact Or.inr rfl))).pg (pgn_nil).pg)) (pgs_cons (pg1_name (i := 2) (pg_name (i := 2) nd rfl (by first | exact Or.inl rfl | exact Or.inr rfl))).pg (pgn_cons (pg1_name (i := 3) (pg_name (i := 3) nd rfl (by first | exact Or.inl rfl | exact Or.inr rfl))) (pgn_nil) (pgs_cons (pg1_name (i := 3) (pg_name (i := 3) nd rfl (by first | exact Or.inl rfl | exact Or.inr rfl))).pg (pgn_nil).pg)).pg)) (pg_tup rfl (pgn_cons (pg1_name (i := 2) (pg_name (i := 2) nd rfl (by first | exact Or.inl rfl | exact Or.inr rfl))) (pgn_cons (pg1_name (i := 3) (pg_name (i := 3) nd rfl (by first | exact Or.inl rfl | exact Or.inr rfl))) (pgn_nil) (pgs_cons (pg1_name (i := 3) (pg_name (i := 3) nd rfl (by first | exact Or.inl rfl | exact Or.inr rfl))).pg (pgn_nil).pg)) (pgs_cons (pg1_name (i := 2) (pg_name (i := 2) nd rfl (by first | exact Or.inl rfl | exact Or.inr rfl))).pg (pgn_cons (pg1_name (i := 3) (pg_name (i := 3) nd rfl (by first | exact Or.inl rfl | exact Or.inr rfl))) (pgn_nil) (pgs_cons (pg1_name (i := 3) (pg_name (i := 3) nd rfl (by first | exact Or.inl rfl | exact Or.inr rfl))).pg (pgn_nil).pg)).pg)).pg)) (fun _ _ _ _ _ => ptn_one (PDW.pt (pdw_or (pdt_cmp op_in_seq rd_in (pd_var (pv 2)) (pd_var (pv 1)) (by first | exact nomark _ | rfl)) (pdw_or1 (pdt_truth (pd_b1 (cr_any rfl) r1_any (by rfl) T.any (by decide +kernel) (pd_ofN (pn_lc rfl nd (own := [("behind", 4)]) (vs := [4]) (pdi_seq (pd_var (pv 3))) (blkOk_by (own := [("behind", 4)]) (N := ["steps", "states", "state", "row", "behind"]) (sc := {kind := PySem.ScopeKind.function, names := [ (PySem.Str.ofString ".0", PySem.NameKind.local), (PySem.Str.ofString "state", PySem.NameKind.local), (PySem.Str.ofString "row", PySem.NameKind.local), (PySem.Str.ofString "any", PySem.NameKind.globalImplicit), (PySem.Str.ofString "states", PySem.NameKind.cell)], isGenerator := false, isCoroutine := false, more := [] : PySem.Scope }) (by decide +kernel)) rfl (fun _ _ _ _ _ => pg1_name (i := 4) (pg_name (i := 4) nd rfl (by first | exact Or.inl rfl | exact Or.inr rfl))) (fun _ _ _ _ _ => ptn_nil) (fun _ _ _ _ _ => pd_cmp op_in_seq rd_in (pd_var (pv 4)) (pd_var (pv 1)) (by first | exact nomark _ | rfl)) s)))))))) (fun _ _ _ _ _ => pd_var (pv 2)) s))))
def kindErr3 (q : Int) (h a l : D) : Option Str := if intB h 0 3 = true then (if intB a 0 2 = true then (if ascB l q = true then none else some "loose") else some "ahead") else some "hold"
def kindErr (q : Int) : D → Option Str
  | .tuple [h, a, l] => kindErr3 q h a l
  | _ => some "form"
def okK : D → Prop
  | .tuple [h, a, l] => noInst h = true ∧ noInst a = true ∧ okD l
  | d => noInst d = true
theorem okK_no {d : D} (h : okK d) : noInst d = true := by
  cases d <;> first | rfl | exact h
theorem kindErr_form {q : Int} {d : D} (h : is3B d = false) : kindErr q d = some "form" := by
  unfold kindErr
  split
  · cases h
  · rfl
def U_need_kind (C_BadKind C_BadWish : Addr) : FX := fun ρ k => ∃ d r, ρ.sl = [.d d, .d r] ∧ ((okW d ∧ ∃ p, wishErr d = some p ∧ bw C_BadWish p k ρ) ∨ ∃ q T G, d = wishD q T G ∧ WOK q T G ∧ okK r ∧ ∃ p, kindErr q r = some p ∧ bw C_BadKind p k ρ)
theorem mU_need_kind (C_BadKind C_BadWish : Addr) (ρ : Rho) (k k' : XC) (hM : ∀ c fl ρ', k c fl ρ' → k' c fl ρ') (z : U_need_kind C_BadKind C_BadWish ρ k) : U_need_kind C_BadKind C_BadWish ρ k' := by
  obtain ⟨d, r, e1, ⟨e2, p, e3, e4⟩ | ⟨q, T, G, e2, e3, e4, p, e5, e6⟩⟩ := z
  · exact ⟨d, r, e1, .inl ⟨e2, p, e3, hM _ _ _ e4⟩⟩
  · exact ⟨d, r, e1, .inr ⟨q, T, G, e2, e3, e4, p, e5, hM _ _ _ e6⟩⟩
abbrev s_need_kind : Stmt := top 28
theorem sc_need_kind : FnScope ["wish", "thing", "deeds", "hold", "ahead", "loose"] ["wish", "thing"] (defScope s_need_kind) := ⟨rfl, rfl, rfl, by decide +kernel, rfl, by decide +kernel, by decide +kernel⟩
def w_need_kind : FS := fsSeq (fsAsg (fOp gIx (fCall 1 W_need_wish (faD (flCons (fVar 0) (flNil)))) (fC (.int 0))) (fgN 2))
  (fsSeq (fsIf (ftNot (ftT (fCall 1 W_is_triple (faD (flCons (fVar 1) (flNil)))))) (fsNever) (fsNext))
  (fsSeq (fsAsg (fVar 1) (fgTup 3 (fgCons (fgN 3) (fgCons (fgN 4) (fgCons (fgN 5) (fgNil))))))
  (fsSeq (fsIf (ftNot (ftT (fCall 3 W_is_integer (faD (flCons (fVar 3) (flCons (fC (.int 0)) (flCons (fC (.int 3)) (flNil)))))))) (fsNever) (fsNext))
  (fsSeq (fsIf (ftNot (ftT (fCall 3 W_is_integer (faD (flCons (fVar 4) (flCons (fC (.int 0)) (flCons (fC (.int 2)) (flNil)))))))) (fsNever) (fsNext))
  (fsSeq (fsIf (ftNot (ftT (fCall 2 W_are_ascending (faD (flCons (fVar 5) (flCons (fVar 2) (flNil))))))) (fsNever) (fsNext))
  (fsRet (fVar 1)))))))
def u_need_kind (C_BadKind C_BadWish : Addr) : FX := fxOr (fxCall 1 (U_need_wish C_BadWish) (faD (flCons (fVar 0) (flNil)))) (fxThen (fsAsg (fOp gIx (fCall 1 W_need_wish (faD (flCons (fVar 0) (flNil)))) (fC (.int 0))) (fgN 2)) (fxOr (fxIf (ftNot (ftT (fCall 1 W_is_triple (faD (flCons (fVar 1) (flNil)))))) (fxRaise (.ref C_BadKind) (some "part") (fC (.str "form"))) (fxNo)) (fxThen (fsIf (ftNot (ftT (fCall 1 W_is_triple (faD (flCons (fVar 1) (flNil)))))) (fsNever) (fsNext)) (fxThen (fsAsg (fVar 1) (fgTup 3 (fgCons (fgN 3) (fgCons (fgN 4) (fgCons (fgN 5) (fgNil)))))) (fxOr (fxIf (ftNot (ftT (fCall 3 W_is_integer (faD (flCons (fVar 3) (flCons (fC (.int 0)) (flCons (fC (.int 3)) (flNil)))))))) (fxRaise (.ref C_BadKind) (some "part") (fC (.str "hold"))) (fxNo)) (fxThen (fsIf (ftNot (ftT (fCall 3 W_is_integer (faD (flCons (fVar 3) (flCons (fC (.int 0)) (flCons (fC (.int 3)) (flNil)))))))) (fsNever) (fsNext)) (fxOr (fxIf (ftNot (ftT (fCall 3 W_is_integer (faD (flCons (fVar 4) (flCons (fC (.int 0)) (flCons (fC (.int 2)) (flNil)))))))) (fxRaise (.ref C_BadKind) (some "part") (fC (.str "ahead"))) (fxNo)) (fxThen (fsIf (ftNot (ftT (fCall 3 W_is_integer (faD (flCons (fVar 4) (flCons (fC (.int 0)) (flCons (fC (.int 2)) (flNil)))))))) (fsNever) (fsNext)) (fxIf (ftNot (ftT (fCall 2 W_are_ascending (faD (flCons (fVar 5) (flCons (fVar 2) (flNil))))))) (fxRaise (.ref C_BadKind) (some "part") (fC (.str "loose"))) (fxNo))))))))))
theorem raw_need_kind {f : Addr} {fd : FuncData} {a_is_integer : Addr} {d_is_integer : FuncData} {a_is_triple : Addr} {d_is_triple : FuncData} {a_are_ascending : Addr} {d_are_ascending : FuncData} {a_need_wish : Addr} {d_need_wish : FuncData} {C_BadKind : Addr} {C_BadWish : Addr} {I_BadKind : Addr} {D_BadKind : FuncData} (F : Fun K "need_kind" "need_kind" s_need_kind f fd) (T : Txt mg) (g_is_integer : mg "is_integer" = some (.ref a_is_integer)) (g_is_triple : mg "is_triple" = some (.ref a_is_triple)) (g_are_ascending : mg "are_ascending" = some (.ref a_are_ascending)) (g_need_wish : mg "need_wish" = some (.ref a_need_wish)) (m_BadKind : mg "BadKind" = some (.ref C_BadKind)) (G_is_integer : FnG P w K mg base (L2.CX P w) 2 a_is_integer d_is_integer ["thing", "least", "most"] (spD ⟨K, w, P⟩ (MM TT) 3 W_is_integer)) (b_is_integer : Binds K d_is_integer ["thing", "least", "most"] []) (k_is_integer : PySem.W.keepIn K (.ref a_is_integer) = true) (G_is_triple : FnG P w K mg base (L2.CX P w) 1 a_is_triple d_is_triple ["thing"] (spD ⟨K, w, P⟩ (MM TT) 1 W_is_triple)) (b_is_triple : Binds K d_is_triple ["thing"] []) (k_is_triple : PySem.W.keepIn K (.ref a_is_triple) = true) (G_are_ascending : FnG P w K mg base (L2.CX P w) 4 a_are_ascending d_are_ascending ["thing", "many"] (spD ⟨K, w, P⟩ (MM TT) 2 W_are_ascending)) (b_are_ascending : Binds K d_are_ascending ["thing", "many"] []) (k_are_ascending : PySem.W.keepIn K (.ref a_are_ascending) = true) (G_need_wish : FnG P w K mg base (L2.CX P w) 5 a_need_wish d_need_wish ["thing"] (spX ⟨K, w, P⟩ (MM TT) 1 W_need_wish (U_need_wish C_BadWish))) (b_need_wish : Binds K d_need_wish ["thing"] []) (k_need_wish : PySem.W.keepIn K (.ref a_need_wish) = true) (Z_BadKind : ExC K C_BadKind I_BadKind) (N_BadKind : FnOk P w K mg base (L2.CX P w) 1 I_BadKind D_BadKind ["self", "part"] (spExA C_BadKind "part")) (B_BadKind : Binds K D_BadKind ["self", "part"] []) : FnG P w K mg base (L2.CX P w) (6) f fd ["wish", "thing"] (spX ⟨K, w, P⟩ (MM TT) 2 (fBody 6 w_need_kind) (fBodyX 6 (u_need_kind C_BadKind C_BadWish))) := by
  refine fnX F sc_need_kind fun X cdv A outer s H E eX hgd hr tk po => ?_
  subst eX
  have nd := (sc_need_kind).nd
  have hu : (A.deeper (envOfC "need_kind" (defScope s_need_kind) s.heap.objs.size f cdv)).units + 64 < cLine := hr.units
  refine ⟨?_, ?_⟩
  · exact pds_cons (pds_asg (pd_ix ix_any rd_ix (pd_call mW_need_wish (G_need_wish.left.mono (by decide)) hgd hr (by rfl) g_need_wish k_need_wish b_need_wish (pda_d (pdl_cons (pd_var (pv 0)) (pdl_nil)))) (pd_int) (fun _ _ => rfl)) (pg1_name (i := 2) (pg_name (i := 2) nd rfl (by first | exact Or.inl rfl | exact Or.inr rfl))))
          (pds_cons (pds_if (pdt_not (pdt_truth (pd_call mW_is_triple (G_is_triple.mono (by decide)) hgd hr (by rfl) g_is_triple k_is_triple b_is_triple (pda_d (pdl_cons (pd_var (pv 1)) (pdl_nil)))))) (pds_one (pds_never)) (pds_nil))
          (pds_cons (pds_asg (pd_var (pv 1)) (pg1_tup (pgn_cons (pg1_name (i := 3) (pg_name (i := 3) nd rfl (by first | exact Or.inl rfl | exact Or.inr rfl))) (pgn_cons (pg1_name (i := 4) (pg_name (i := 4) nd rfl (by first | exact Or.inl rfl | exact Or.inr rfl))) (pgn_cons (pg1_name (i := 5) (pg_name (i := 5) nd rfl (by first | exact Or.inl rfl | exact Or.inr rfl))) (pgn_nil) (pgs_cons (pg1_name (i := 5) (pg_name (i := 5) nd rfl (by first | exact Or.inl rfl | exact Or.inr rfl))).pg (pgn_nil).pg)) (pgs_cons (pg1_name (i := 4) (pg_name (i := 4) nd rfl (by first | exact Or.inl rfl | exact Or.inr rfl))).pg (pgn_cons (pg1_name (i := 5) (pg_name (i := 5) nd rfl (by first | exact Or.inl rfl | exact Or.inr rfl))) (pgn_nil) (pgs_cons (pg1_name (i := 5) (pg_name (i := 5) nd rfl (by first | exact Or.inl rfl | exact Or.inr rfl))).pg (pgn_nil).pg)).pg)) (pgs_cons (pg1_name (i := 3) (pg_name (i := 3) nd rfl (by first | exact Or.inl rfl | exact Or.inr rfl))).pg (pgn_cons (pg1_name (i := 4) (pg_name (i := 4) nd rfl (by first | exact Or.inl rfl | exact Or.inr rfl))) (pgn_cons (pg1_name (i := 5) (pg_name (i := 5) nd rfl (by first | exact Or.inl rfl | exact Or.inr rfl))) (pgn_nil) (pgs_cons (pg1_name (i := 5) (pg_name (i := 5) nd rfl (by first | exact Or.inl rfl | exact Or.inr rfl))).pg (pgn_nil).pg)) (pgs_cons (pg1_name (i := 4) (pg_name (i := 4) nd rfl (by first | exact Or.inl rfl | exact Or.inr rfl))).pg (pgn_cons (pg1_name (i := 5) (pg_name (i := 5) nd rfl (by first | exact Or.inl rfl | exact Or.inr rfl))) (pgn_nil) (pgs_cons (pg1_name (i := 5) (pg_name (i := 5) nd rfl (by first | exact Or.inl rfl | exact Or.inr rfl))).pg (pgn_nil).pg)).pg)).pg)) (pg_tup rfl (pgn_cons (pg1_name (i := 3) (pg_name (i := 3) nd rfl (by first | exact Or.inl rfl | exact Or.inr rfl))) (pgn_cons (pg1_name (i := 4) (pg_name (i := 4) nd rfl (by first | exact Or.inl rfl | exact Or.inr rfl))) (pgn_cons (pg1_name (i := 5) (pg_name (i := 5) nd rfl (by first | exact Or.inl rfl | exact Or.inr rfl))) (pgn_nil) (pgs_cons (pg1_name (i := 5) (pg_name (i := 5) nd rfl (by first | exact Or.inl rfl | exact Or.inr rfl))).pg (pgn_nil).pg)) (pgs_cons (pg1_name (i := 4) (pg_name (i := 4) nd rfl (by first | exact Or.inl rfl | exact Or.inr rfl))).pg (pgn_cons (pg1_name (i := 5) (pg_name (i := 5) nd rfl (by first | exact Or.inl rfl | exact Or.inr rfl))) (pgn_nil) (pgs_cons (pg1_name (i := 5) (pg_name (i := 5) nd rfl (by first | exact Or.inl rfl | exact Or.inr rfl))).pg (pgn_nil).pg)).pg)) (pgs_cons (pg1_name (i := 3) (pg_name (i := 3) nd rfl (by first | exact Or.inl rfl | exact Or.inr rfl))).pg (pgn_cons (pg1_name (i := 4) (pg_name (i := 4) nd rfl (by first | exact Or.inl rfl | exact Or.inr rfl))) (pgn_cons (pg1_name (i := 5) (pg_name (i := 5) nd rfl (by first | exact Or.inl rfl | exact Or.inr rfl))) (pgn_nil) (pgs_cons (pg1_name (i := 5) (pg_name (i := 5) nd rfl (by first | exact Or.inl rfl | exact Or.inr rfl))).pg (pgn_nil).pg)) (pgs_cons (pg1_name (i := 4) (pg_name (i := 4) nd rfl (by first | exact Or.inl rfl | exact Or.inr rfl))).pg (pgn_cons (pg1_name (i := 5) (pg_name (i := 5) nd rfl (by first | exact Or.inl rfl | exact Or.inr rfl))) (pgn_nil) (pgs_cons (pg1_name (i := 5) (pg_name (i := 5) nd rfl (by first | exact Or.inl rfl | exact Or.inr rfl))).pg (pgn_nil).pg)).pg)).pg)).pg)))
          (pds_cons (pds_if (pdt_not (pdt_truth (pd_call mW_is_integer (G_is_integer.mono (by decide)) hgd hr (by rfl) g_is_integer k_is_integer b_is_integer (pda_d (pdl_cons (pd_var (pv 3)) (pdl_cons (pd_int) (pdl_cons (pd_gint (by rfl) T.c_MOST_HELD) (pdl_nil)))))))) (pds_one (pds_never)) (pds_nil))
          (pds_cons (pds_if (pdt_not (pdt_truth (pd_call mW_is_integer (G_is_integer.mono (by decide)) hgd hr (by rfl) g_is_integer k_is_integer b_is_integer (pda_d (pdl_cons (pd_var (pv 4)) (pdl_cons (pd_int) (pdl_cons (pd_gint (by rfl) T.c_MOST_AHEAD) (pdl_nil)))))))) (pds_one (pds_never)) (pds_nil))
          (pds_cons (pds_if (pdt_not (pdt_truth (pd_call mW_are_ascending (G_are_ascending.mono (by decide)) hgd hr (by rfl) g_are_ascending k_are_ascending b_are_ascending (pda_d (pdl_cons (pd_var (pv 5)) (pdl_cons (pd_var (pv 2)) (pdl_nil))))))) (pds_one (pds_never)) (pds_nil))
          (pds_one (pds_ret (pd_var (pv 1)))))))))
  · exact prs_or (prs_hd (pr_asg (px_ixl ix_any (px_call tk (mU_need_wish C_BadWish) (G_need_wish.right.mono (by decide)) hgd hr (by rfl) g_need_wish k_need_wish b_need_wish (pda_d (pdl_cons (pd_var (pv 0)) (pdl_nil)))) (pd_int) (fun _ _ => rfl)) (pg1_name (i := 2) (pg_name (i := 2) nd rfl (by first | exact Or.inl rfl | exact Or.inr rfl)))) (pds_cons (pds_if (pdt_not (pdt_truth (pd_call mW_is_triple (G_is_triple.mono (by decide)) hgd hr (by rfl) g_is_triple k_is_triple b_is_triple (pda_d (pdl_cons (pd_var (pv 1)) (pdl_nil)))))) (pds_one (pds_never)) (pds_nil))
          (pds_cons (pds_asg (pd_var (pv 1)) (pg1_tup (pgn_cons (pg1_name (i := 3) (pg_name (i := 3) nd rfl (by first | exact Or.inl rfl | exact Or.inr rfl))) (pgn_cons (pg1_name (i := 4) (pg_name (i := 4) nd rfl (by first | exact Or.inl rfl | exact Or.inr rfl))) (pgn_cons (pg1_name (i := 5) (pg_name (i := 5) nd rfl (by first | exact Or.inl rfl | exact Or.inr rfl))) (pgn_nil) (pgs_cons (pg1_name (i := 5) (pg_name (i := 5) nd rfl (by first | exact Or.inl rfl | exact Or.inr rfl))).pg (pgn_nil).pg)) (pgs_cons (pg1_name (i := 4) (pg_name (i := 4) nd rfl (by first | exact Or.inl rfl | exact Or.inr rfl))).pg (pgn_cons (pg1_name (i := 5) (pg_name (i := 5) nd rfl (by first | exact Or.inl rfl | exact Or.inr rfl))) (pgn_nil) (pgs_cons (pg1_name (i := 5) (pg_name (i := 5) nd rfl (by first | exact Or.inl rfl | exact Or.inr rfl))).pg (pgn_nil).pg)).pg)) (pgs_cons (pg1_name (i := 3) (pg_name (i := 3) nd rfl (by first | exact Or.inl rfl | exact Or.inr rfl))).pg (pgn_cons (pg1_name (i := 4) (pg_name (i := 4) nd rfl (by first | exact Or.inl rfl | exact Or.inr rfl))) (pgn_cons (pg1_name (i := 5) (pg_name (i := 5) nd rfl (by first | exact Or.inl rfl | exact Or.inr rfl))) (pgn_nil) (pgs_cons (pg1_name (i := 5) (pg_name (i := 5) nd rfl (by first | exact Or.inl rfl | exact Or.inr rfl))).pg (pgn_nil).pg)) (pgs_cons (pg1_name (i := 4) (pg_name (i := 4) nd rfl (by first | exact Or.inl rfl | exact Or.inr rfl))).pg (pgn_cons (pg1_name (i := 5) (pg_name (i := 5) nd rfl (by first | exact Or.inl rfl | exact Or.inr rfl))) (pgn_nil) (pgs_cons (pg1_name (i := 5) (pg_name (i := 5) nd rfl (by first | exact Or.inl rfl | exact Or.inr rfl))).pg (pgn_nil).pg)).pg)).pg)) (pg_tup rfl (pgn_cons (pg1_name (i := 3) (pg_name (i := 3) nd rfl (by first | exact Or.inl rfl | exact Or.inr rfl))) (pgn_cons (pg1_name (i := 4) (pg_name (i := 4) nd rfl (by first | exact Or.inl rfl | exact Or.inr rfl))) (pgn_cons (pg1_name (i := 5) (pg_name (i := 5) nd rfl (by first | exact Or.inl rfl | exact Or.inr rfl))) (pgn_nil) (pgs_cons (pg1_name (i := 5) (pg_name (i := 5) nd rfl (by first | exact Or.inl rfl | exact Or.inr rfl))).pg (pgn_nil).pg)) (pgs_cons (pg1_name (i := 4) (pg_name (i := 4) nd rfl (by first | exact Or.inl rfl | exact Or.inr rfl))).pg (pgn_cons (pg1_name (i := 5) (pg_name (i := 5) nd rfl (by first | exact Or.inl rfl | exact Or.inr rfl))) (pgn_nil) (pgs_cons (pg1_name (i := 5) (pg_name (i := 5) nd rfl (by first | exact Or.inl rfl | exact Or.inr rfl))).pg (pgn_nil).pg)).pg)) (pgs_cons (pg1_name (i := 3) (pg_name (i := 3) nd rfl (by first | exact Or.inl rfl | exact Or.inr rfl))).pg (pgn_cons (pg1_name (i := 4) (pg_name (i := 4) nd rfl (by first | exact Or.inl rfl | exact Or.inr rfl))) (pgn_cons (pg1_name (i := 5) (pg_name (i := 5) nd rfl (by first | exact Or.inl rfl | exact Or.inr rfl))) (pgn_nil) (pgs_cons (pg1_name (i := 5) (pg_name (i := 5) nd rfl (by first | exact Or.inl rfl | exact Or.inr rfl))).pg (pgn_nil).pg)) (pgs_cons (pg1_name (i := 4) (pg_name (i := 4) nd rfl (by first | exact Or.inl rfl | exact Or.inr rfl))).pg (pgn_cons (pg1_name (i := 5) (pg_name (i := 5) nd rfl (by first | exact Or.inl rfl | exact Or.inr rfl))) (pgn_nil) (pgs_cons (pg1_name (i := 5) (pg_name (i := 5) nd rfl (by first | exact Or.inl rfl | exact Or.inr rfl))).pg (pgn_nil).pg)).pg)).pg)).pg)))
          (pds_cons (pds_if (pdt_not (pdt_truth (pd_call mW_is_integer (G_is_integer.mono (by decide)) hgd hr (by rfl) g_is_integer k_is_integer b_is_integer (pda_d (pdl_cons (pd_var (pv 3)) (pdl_cons (pd_int) (pdl_cons (pd_gint (by rfl) T.c_MOST_HELD) (pdl_nil)))))))) (pds_one (pds_never)) (pds_nil))
          (pds_cons (pds_if (pdt_not (pdt_truth (pd_call mW_is_integer (G_is_integer.mono (by decide)) hgd hr (by rfl) g_is_integer k_is_integer b_is_integer (pda_d (pdl_cons (pd_var (pv 4)) (pdl_cons (pd_int) (pdl_cons (pd_gint (by rfl) T.c_MOST_AHEAD) (pdl_nil)))))))) (pds_one (pds_never)) (pds_nil))
          (pds_cons (pds_if (pdt_not (pdt_truth (pd_call mW_are_ascending (G_are_ascending.mono (by decide)) hgd hr (by rfl) g_are_ascending k_are_ascending b_are_ascending (pda_d (pdl_cons (pd_var (pv 5)) (pdl_cons (pd_var (pv 2)) (pdl_nil))))))) (pds_one (pds_never)) (pds_nil))
          (pds_one (pds_ret (pd_var (pv 1))))))))))
          (prs_tl (pds_asg (pd_ix ix_any rd_ix (pd_call mW_need_wish (G_need_wish.left.mono (by decide)) hgd hr (by rfl) g_need_wish k_need_wish b_need_wish (pda_d (pdl_cons (pd_var (pv 0)) (pdl_nil)))) (pd_int) (fun _ _ => rfl)) (pg1_name (i := 2) (pg_name (i := 2) nd rfl (by first | exact Or.inl rfl | exact Or.inr rfl)))) (prs_or (prs_hd (pr_if (pdt_not (pdt_truth (pd_call mW_is_triple (G_is_triple.mono (by decide)) hgd hr (by rfl) g_is_triple k_is_triple b_is_triple (pda_d (pdl_cons (pd_var (pv 1)) (pdl_nil)))))) (prs_hd (pr_raise rfl tk Z_BadKind N_BadKind (hr.mono (by decide)) B_BadKind (by rfl) m_BadKind (pd_str)) (pds_nil)) (prs_no (pds_nil))) (pds_cons (pds_asg (pd_var (pv 1)) (pg1_tup (pgn_cons (pg1_name (i := 3) (pg_name (i := 3) nd rfl (by first | exact Or.inl rfl | exact Or.inr rfl))) (pgn_cons (pg1_name (i := 4) (pg_name (i := 4) nd rfl (by first | exact Or.inl rfl | exact Or.inr rfl))) (pgn_cons (pg1_name (i := 5) (pg_name (i := 5) nd rfl (by first | exact Or.inl rfl | exact Or.inr rfl))) (pgn_nil) (pgs_cons (pg1_name (i := 5) (pg_name (i := 5) nd rfl (by first | exact Or.inl rfl | exact Or.inr rfl))).pg (pgn_nil).pg)) (pgs_cons (pg1_name (i := 4) (pg_name (i := 4) nd rfl (by first | exact Or.inl rfl | exact Or.inr rfl))).pg (pgn_cons (pg1_name (i := 5) (pg_name (i := 5) nd rfl (by first | exact Or.inl rfl | exact Or.inr rfl))) (pgn_nil) (pgs_cons (pg1_name (i := 5) (pg_name (i := 5) nd rfl (by first | exact Or.inl rfl | exact Or.inr rfl))).pg (pgn_nil).pg)).pg)) (pgs_cons (pg1_name (i := 3) (pg_name (i := 3) nd rfl (by first | exact Or.inl rfl | exact Or.inr rfl))).pg (pgn_cons (pg1_name (i := 4) (pg_name (i := 4) nd rfl (by first | exact Or.inl rfl | exact Or.inr rfl))) (pgn_cons (pg1_name (i := 5) (pg_name (i := 5) nd rfl (by first | exact Or.inl rfl | exact Or.inr rfl))) (pgn_nil) (pgs_cons (pg1_name (i := 5) (pg_name (i := 5) nd rfl (by first | exact Or.inl rfl | exact Or.inr rfl))).pg (pgn_nil).pg)) (pgs_cons (pg1_name (i := 4) (pg_name (i := 4) nd rfl (by first | exact Or.inl rfl | exact Or.inr rfl))).pg (pgn_cons (pg1_name (i := 5) (pg_name (i := 5) nd rfl (by first | exact Or.inl rfl | exact Or.inr rfl))) (pgn_nil) (pgs_cons (pg1_name (i := 5) (pg_name (i := 5) nd rfl (by first | exact Or.inl rfl | exact Or.inr rfl))).pg (pgn_nil).pg)).pg)).pg)) (pg_tup rfl (pgn_cons (pg1_name (i := 3) (pg_name (i := 3) nd rfl (by first | exact Or.inl rfl | exact Or.inr rfl))) (pgn_cons (pg1_name (i := 4) (pg_name (i := 4) nd rfl (by first | exact Or.inl rfl | exact Or.inr rfl))) (pgn_cons (pg1_name (i := 5) (pg_name (i := 5) nd rfl (by first | exact Or.inl rfl | exact Or.inr rfl))) (pgn_nil) (pgs_cons (pg1_name (i := 5) (pg_name (i := 5) nd rfl (by first | exact Or.inl rfl | exact Or.inr rfl))).pg (pgn_nil).pg)) (pgs_cons (pg1_name (i := 4) (pg_name (i := 4) nd rfl (by first | exact Or.inl rfl | exact Or.inr rfl))).pg (pgn_cons (pg1_name (i := 5) (pg_name (i := 5) nd rfl (by first | exact Or.inl rfl | exact Or.inr rfl))) (pgn_nil) (pgs_cons (pg1_name (i := 5) (pg_name (i := 5) nd rfl (by first | exact Or.inl rfl | exact Or.inr rfl))).pg (pgn_nil).pg)).pg)) (pgs_cons (pg1_name (i := 3) (pg_name (i := 3) nd rfl (by first | exact Or.inl rfl | exact Or.inr rfl))).pg (pgn_cons (pg1_name (i := 4) (pg_name (i := 4) nd rfl (by first | exact Or.inl rfl | exact Or.inr rfl))) (pgn_cons (pg1_name (i := 5) (pg_name (i := 5) nd rfl (by first | exact Or.inl rfl | exact Or.inr rfl))) (pgn_nil) (pgs_cons (pg1_name (i := 5) (pg_name (i := 5) nd rfl (by first | exact Or.inl rfl | exact Or.inr rfl))).pg (pgn_nil).pg)) (pgs_cons (pg1_name (i := 4) (pg_name (i := 4) nd rfl (by first | exact Or.inl rfl | exact Or.inr rfl))).pg (pgn_cons (pg1_name (i := 5) (pg_name (i := 5) nd rfl (by first | exact Or.inl rfl | exact Or.inr rfl))) (pgn_nil) (pgs_cons (pg1_name (i := 5) (pg_name (i := 5) nd rfl (by first | exact Or.inl rfl | exact Or.inr rfl))).pg (pgn_nil).pg)).pg)).pg)).pg)))
          (pds_cons (pds_if (pdt_not (pdt_truth (pd_call mW_is_integer (G_is_integer.mono (by decide)) hgd hr (by rfl) g_is_integer k_is_integer b_is_integer (pda_d (pdl_cons (pd_var (pv 3)) (pdl_cons (pd_int) (pdl_cons (pd_gint (by rfl) T.c_MOST_HELD) (pdl_nil)))))))) (pds_one (pds_never)) (pds_nil))
          (pds_cons (pds_if (pdt_not (pdt_truth (pd_call mW_is_integer (G_is_integer.mono (by decide)) hgd hr (by rfl) g_is_integer k_is_integer b_is_integer (pda_d (pdl_cons (pd_var (pv 4)) (pdl_cons (pd_int) (pdl_cons (pd_gint (by rfl) T.c_MOST_AHEAD) (pdl_nil)))))))) (pds_one (pds_never)) (pds_nil))
          (pds_cons (pds_if (pdt_not (pdt_truth (pd_call mW_are_ascending (G_are_ascending.mono (by decide)) hgd hr (by rfl) g_are_ascending k_are_ascending b_are_ascending (pda_d (pdl_cons (pd_var (pv 5)) (pdl_cons (pd_var (pv 2)) (pdl_nil))))))) (pds_one (pds_never)) (pds_nil))
          (pds_one (pds_ret (pd_var (pv 1)))))))))
          (prs_tl (pds_if (pdt_not (pdt_truth (pd_call mW_is_triple (G_is_triple.mono (by decide)) hgd hr (by rfl) g_is_triple k_is_triple b_is_triple (pda_d (pdl_cons (pd_var (pv 1)) (pdl_nil)))))) (pds_one (pds_never)) (pds_nil)) (prs_tl (pds_asg (pd_var (pv 1)) (pg1_tup (pgn_cons (pg1_name (i := 3) (pg_name (i := 3) nd rfl (by first | exact Or.inl rfl | exact Or.inr rfl))) (pgn_cons (pg1_name (i := 4) (pg_name (i := 4) nd rfl (by first | exact Or.inl rfl | exact Or.inr rfl))) (pgn_cons (pg1_name (i := 5) (pg_name (i := 5) nd rfl (by first | exact Or.inl rfl | exact Or.inr rfl))) (pgn_nil) (pgs_cons (pg1_name (i := 5) (pg_name (i := 5) nd rfl (by first | exact Or.inl rfl | exact Or.inr rfl))).pg (pgn_nil).pg)) (pgs_cons (pg1_name (i := 4) (pg_name (i := 4) nd rfl (by first | exact Or.inl rfl | exact Or.inr rfl))).pg (pgn_cons (pg1_name (i := 5) (pg_name (i := 5) nd rfl (by first | exact Or.inl rfl | exact Or.inr rfl))) (pgn_nil) (pgs_cons (pg1_name (i := 5) (pg_name (i := 5) nd rfl (by first | exact Or.inl rfl | exact Or.inr rfl))).pg (pgn_nil).pg)).pg)) (pgs_cons (pg1_name (i := 3) (pg_name (i := 3) nd rfl (by first | exact Or.inl rfl | exact Or.inr rfl))).pg (pgn_cons (pg1_name (i := 4) (pg_name (i := 4) nd rfl (by first | exact Or.inl rfl | exact Or.inr rfl))) (pgn_cons (pg1_name (i := 5) (pg_name (i := 5) nd rfl (by first | exact Or.inl rfl | exact Or.inr rfl))) (pgn_nil) (pgs_cons (pg1_name (i := 5) (pg_name (i := 5) nd rfl (by first | exact Or.inl rfl | exact Or.inr rfl))).pg (pgn_nil).pg)) (pgs_cons (pg1_name (i := 4) (pg_name (i := 4) nd rfl (by first | exact Or.inl rfl | exact Or.inr rfl))).pg (pgn_cons (pg1_name (i := 5) (pg_name (i := 5) nd rfl (by first | exact Or.inl rfl | exact Or.inr rfl))) (pgn_nil) (pgs_cons (pg1_name (i := 5) (pg_name (i := 5) nd rfl (by first | exact Or.inl rfl | exact Or.inr rfl))).pg (pgn_nil).pg)).pg)).pg)) (pg_tup rfl (pgn_cons (pg1_name (i := 3) (pg_name (i := 3) nd rfl (by first | exact Or.inl rfl | exact Or.inr rfl))) (pgn_cons (pg1_name (i := 4) (pg_name (i := 4) nd rfl (by first | exact Or.inl rfl | exact Or.inr rfl))) (pgn_cons (pg1_name (i := 5) (pg_name (i := 5) nd rfl (by first | exact Or.inl rfl | exact Or.inr rfl))) (pgn_nil) (pgs_cons (pg1_name (i := 5) (pg_name (i := 5) nd rfl (by first | exact Or.inl rfl | exact Or.inr rfl))).pg (pgn_nil).pg)) (pgs_cons (pg1_name (i := 4) (pg_name (i := 4) nd rfl (by first | exact Or.inl rfl | exact Or.inr rfl))).pg (pgn_cons (pg1_name (i := 5) (pg_name (i := 5) nd rfl (by first | exact Or.inl rfl | exact Or.inr rfl))) (pgn_nil) (pgs_cons (pg1_name (i := 5) (pg_name (i := 5) nd rfl (by first | exact Or.inl rfl | exact Or.inr rfl))).pg (pgn_nil).pg)).pg)) (pgs_cons (pg1_name (i := 3) (pg_name (i := 3) nd rfl (by first | exact Or.inl rfl | exact Or.inr rfl))).pg (pgn_cons (pg1_name (i := 4) (pg_name (i := 4) nd rfl (by first | exact Or.inl rfl | exact Or.inr rfl))) (pgn_cons (pg1_name (i := 5) (pg_name (i := 5) nd rfl (by first | exact Or.inl rfl | exact Or.inr rfl))) (pgn_nil) (pgs_cons (pg1_name (i := 5) (pg_name (i := 5) nd rfl (by first | exact Or.inl rfl | exact Or.inr rfl))).pg (pgn_nil).pg)) (pgs_cons (pg1_name (i := 4) (pg_name (i := 4) nd rfl (by first | exact Or.inl rfl | exact Or.inr rfl))).pg (pgn_cons (pg1_name (i := 5) (pg_name (i := 5) nd rfl (by first | exact Or.inl rfl | exact Or.inr rfl))) (pgn_nil) (pgs_cons (pg1_name (i := 5) (pg_name (i := 5) nd rfl (by first | exact Or.inl rfl | exact Or.inr rfl))).pg (pgn_nil).pg)).pg)).pg)).pg)))
          (prs_or (prs_hd (pr_if (pdt_not (pdt_truth (pd_call mW_is_integer (G_is_integer.mono (by decide)) hgd hr (by rfl) g_is_integer k_is_integer b_is_integer (pda_d (pdl_cons (pd_var (pv 3)) (pdl_cons (pd_int) (pdl_cons (pd_gint (by rfl) T.c_MOST_HELD) (pdl_nil)))))))) (prs_hd (pr_raise rfl tk Z_BadKind N_BadKind (hr.mono (by decide)) B_BadKind (by rfl) m_BadKind (pd_str)) (pds_nil)) (prs_no (pds_nil))) (pds_cons (pds_if (pdt_not (pdt_truth (pd_call mW_is_integer (G_is_integer.mono (by decide)) hgd hr (by rfl) g_is_integer k_is_integer b_is_integer (pda_d (pdl_cons (pd_var (pv 4)) (pdl_cons (pd_int) (pdl_cons (pd_gint (by rfl) T.c_MOST_AHEAD) (pdl_nil)))))))) (pds_one (pds_never)) (pds_nil))
          (pds_cons (pds_if (pdt_not (pdt_truth (pd_call mW_are_ascending (G_are_ascending.mono (by decide)) hgd hr (by rfl) g_are_ascending k_are_ascending b_are_ascending (pda_d (pdl_cons (pd_var (pv 5)) (pdl_cons (pd_var (pv 2)) (pdl_nil))))))) (pds_one (pds_never)) (pds_nil))
          (pds_one (pds_ret (pd_var (pv 1)))))))
          (prs_tl (pds_if (pdt_not (pdt_truth (pd_call mW_is_integer (G_is_integer.mono (by decide)) hgd hr (by rfl) g_is_integer k_is_integer b_is_integer (pda_d (pdl_cons (pd_var (pv 3)) (pdl_cons (pd_int) (pdl_cons (pd_gint (by rfl) T.c_MOST_HELD) (pdl_nil)))))))) (pds_one (pds_never)) (pds_nil)) (prs_or (prs_hd (pr_if (pdt_not (pdt_truth (pd_call mW_is_integer (G_is_integer.mono (by decide)) hgd hr (by rfl) g_is_integer k_is_integer b_is_integer (pda_d (pdl_cons (pd_var (pv 4)) (pdl_cons (pd_int) (pdl_cons (pd_gint (by rfl) T.c_MOST_AHEAD) (pdl_nil)))))))) (prs_hd (pr_raise rfl tk Z_BadKind N_BadKind (hr.mono (by decide)) B_BadKind (by rfl) m_BadKind (pd_str)) (pds_nil)) (prs_no (pds_nil))) (pds_cons (pds_if (pdt_not (pdt_truth (pd_call mW_are_ascending (G_are_ascending.mono (by decide)) hgd hr (by rfl) g_are_ascending k_are_ascending b_are_ascending (pda_d (pdl_cons (pd_var (pv 5)) (pdl_cons (pd_var (pv 2)) (pdl_nil))))))) (pds_one (pds_never)) (pds_nil))
          (pds_one (pds_ret (pd_var (pv 1))))))
          (prs_tl (pds_if (pdt_not (pdt_truth (pd_call mW_is_integer (G_is_integer.mono (by decide)) hgd hr (by rfl) g_is_integer k_is_integer b_is_integer (pda_d (pdl_cons (pd_var (pv 4)) (pdl_cons (pd_int) (pdl_cons (pd_gint (by rfl) T.c_MOST_AHEAD) (pdl_nil)))))))) (pds_one (pds_never)) (pds_nil)) (prs_hd (pr_if (pdt_not (pdt_truth (pd_call mW_are_ascending (G_are_ascending.mono (by decide)) hgd hr (by rfl) g_are_ascending k_are_ascending b_are_ascending (pda_d (pdl_cons (pd_var (pv 5)) (pdl_cons (pd_var (pv 2)) (pdl_nil))))))) (prs_hd (pr_raise rfl tk Z_BadKind N_BadKind (hr.mono (by decide)) B_BadKind (by rfl) m_BadKind (pd_str)) (pds_nil)) (prs_no (pds_nil))) (pds_one (pds_ret (pd_var (pv 1)))))))))))))
theorem ok_need_kind : ∀ ρ k, W_need_kind ρ k → fBody 6 w_need_kind ρ k := GP.ok_need_kind
theorem okx_need_kind (C C' : Addr) : ∀ ρ k, U_need_kind C C' ρ k → fBodyX 6 (u_need_kind C C') ρ k := by
  rintro ⟨sl, n⟩ k ⟨d, r, e, h⟩
  simp only at e
  subst e
  simp [u_need_kind, fBodyX, fxOr, fxThen, fxCall, fxIf, fxRaise, fxNo]
  simp [and_assoc, Rho.set, dropOwn, ftLend, fLend, lendR, frz, ow, nList, -forall_exists_index, fBody, fsSeq, fsIf, fsRet, fsNext, fsDrop, fsAsg, fsNever, fsFor, fsOwn, fsPar2, fsPar3, fsPar_od, fsPar_do, fsPar_oo, fVar, fC, fUn, fOp, fChain, fTup, fLst, fCall, faD, faSt, flCons, flNil, fSl, foSome, foNone, fAnd, fOr, fNot, fIf, fOfN, fn1, fnLst, fnCat, fgN, fgTup, fgCons, fgNil, fiSeq, fiRange1, fiRange2, fiEnumA, fiZip, ftOr, ftAnd, ftNot, ftB, ftT, ftYes, truD_b, truD_i, truD_l, truD_t, truD_n, gIx_t0, gIx_t1, gIx_t2, gSl_t, gSl_l, gIsT, notDict, isT, isN, tyName, gLen_t, gLen_l, gTuple_l, gCmp, gAdd_ii, gAdd_ll, PD.gSub, gNeg, gMod, seqD, forD, wipeR, gEqA, gNeA, gEq_ii, gNe_ii, gEq_tt, gIn_ints, gIn_intsL, gNotIn_ints, gNotIn_intsL, fM0, fM1, fJoined, fJ, flStar, starD, fCall0, gIsTX, noInst_n, noInst_b, noInst_i, noInst_s, noInst_l, noInst_t, fFld, fMeth, fMake, faNil, fsFld, fLendO, fDisp, fpCons, fpNil, fDict0, fiAny, walkD, fiOver, dKeys, dVals, dPairs, fsOwnD, fsPut, fOwnIx, fPop, fsExt, fDc, compK, gInX, gNotInX, gIxX, fGet]
  rcases h with ⟨hd, p, hp, z⟩ | ⟨q, T, G, rfl, w, hr, p, hp, z⟩
  · exact .inl ⟨d, p, rfl, hd, hp, z⟩
  · refine .inr ⟨q, T, G, rfl, w, .int q, rfl, ?_⟩
    rcases is3_cases r with h3 | ⟨h, a, l, rfl⟩
    · refine .inl ⟨r, rfl, okK_no hr, ?_⟩
      rw [kindErr_form h3] at hp
      cases hp
      rw [h3]
      exact ⟨rfl, z⟩
    · refine .inr ⟨_, rfl, rfl, rfl, _, rfl, rfl, h, _, rfl, a, _, rfl, l, _, rfl, rfl, ?_⟩
      obtain ⟨hh, ha, hl⟩ := hr
      have hp : kindErr3 q h a l = some p := hp
      unfold kindErr3 at hp
      by_cases h1 : intB h 0 3 = true
      · rw [if_pos h1] at hp
        refine .inr ⟨_, 0, 3, rfl, hh, by rw [h1]; rfl, ?_⟩
        by_cases h2 : intB a 0 2 = true
        · rw [if_pos h2] at hp
          refine .inr ⟨_, 0, 2, rfl, ha, by rw [h2]; rfl, ?_⟩
          by_cases h4 : ascB l q = true
          · rw [if_pos h4] at hp; cases hp
          · rw [if_neg h4] at hp
            cases hp
            refine ⟨l, q, rfl, hl, ?_⟩
            rw [Bool.eq_false_iff.mpr h4]
            exact ⟨rfl, z⟩
        · rw [if_neg h2] at hp
          cases hp
          refine .inl ⟨_, 0, 2, rfl, ha, ?_⟩
          rw [Bool.eq_false_iff.mpr h2]
          exact ⟨rfl, z⟩
      · rw [if_neg h1] at hp
        cases hp
        refine .inl ⟨_, 0, 3, rfl, hh, ?_⟩
        rw [Bool.eq_false_iff.mpr h1]
        exact ⟨rfl, z⟩
def W_lam0 : FE := fun _ _ => False
theorem mW_lam0 (ρ : Rho) (k k' : KD) (_ : ∀ d ρ', k d ρ' → k' d ρ') (z : W_lam0 ρ k) : W_lam0 ρ k' := z
abbrev U_lam0 := U_need_wish
abbrev mU_lam0 := mU_need_wish
def W_lam1 : FE := fun _ _ => False
theorem mW_lam1 (ρ : Rho) (k k' : KD) (_ : ∀ d ρ', k d ρ' → k' d ρ') (z : W_lam1 ρ k) : W_lam1 ρ k' := z
abbrev U_lam1 := U_need_wish
abbrev mU_lam1 := mU_need_wish
def W_lam2 : FE := fun _ _ => False
theorem mW_lam2 (ρ : Rho) (k k' : KD) (_ : ∀ d ρ', k d ρ' → k' d ρ') (z : W_lam2 ρ k) : W_lam2 ρ k' := z
abbrev U_lam2 := U_need_kind
abbrev mU_lam2 := mU_need_kind
abbrev W_lam3 := W_state_of
abbrev mW_lam3 := mW_state_of
abbrev U_lam3 := UB
abbrev mU_lam3 := mUB
abbrev W_lam4 := W_is_good
abbrev mW_lam4 := mW_is_good
abbrev U_lam4 := UB
abbrev mU_lam4 := mUB
abbrev W_lam5 := W_is_live
abbrev mW_lam5 := mW_is_live
abbrev U_lam5 := UB
abbrev mU_lam5 := mUB
def W_lam6 : FE := fun _ _ => False
theorem mW_lam6 (ρ : Rho) (k k' : KD) (_ : ∀ d ρ', k d ρ' → k' d ρ') (z : W_lam6 ρ k) : W_lam6 ρ k' := z
abbrev U_lam6 := U_need_kind
abbrev mU_lam6 := mU_need_kind
def W_law_calls : FE := fun ρ k => ∃ d t, ρ.sl = [.d d, .d t] ∧ k (.list [cloD [34, 100, 0, 0] [d], cloD [34, 101, 0, 1] [d], cloD [34, 102, 0, 1] [d, t], cloD [34, 103, 0, 1] [d, t], cloD [34, 104, 0, 1] [d, t], cloD [34, 105, 0, 1] [d, t]]) ρ
theorem mW_law_calls (ρ : Rho) (k k' : KD) (hM : ∀ d ρ', k d ρ' → k' d ρ') (z : W_law_calls ρ k) : W_law_calls ρ k' := by
  obtain ⟨d, t, e1, e2⟩ := z
  exact ⟨d, t, e1, hM _ _ e2⟩
abbrev s_law_calls : Stmt := top 34
theorem sc_law_calls : FnScope ["want", "thing", "found"] ["want", "thing"] (defScope s_law_calls) := ⟨rfl, rfl, rfl, by decide +kernel, rfl, by decide +kernel, by decide +kernel⟩
abbrev e_lam0 : Expr := lamE PySem.Challenge.pw_guardkeeps_k02_wishes_kinds_and_runs_ref [34, 100, 0, 0]
theorem hL_lam0 {P : Program} (pP : P = PySem.Challenge.pw_guardkeeps_k02_wishes_kinds_and_runs_ref) : lamAt P [34, 100, 0, 0] = some (.Lambda (eArgs e_lam0) (eBody e_lam0) (eScope e_lam0) (ePos e_lam0)) := by subst pP; rfl
theorem lk_lam0 : ∀ y ∈ (eScope e_lam0).names, y.2 = .free → (defScope s_law_calls).names.lookup y.1 = some .cell ∨ (defScope s_law_calls).names.lookup y.1 = some .free := by decide +kernel
theorem js_lam0 : ([0] : List Nat).map (fun j => (["want", "thing", "found"] : List Str)[j]?) = (frees (eScope e_lam0)).map some := by decide +kernel
theorem nd_lam0 : (frees (eScope e_lam0)).Nodup := by decide +kernel
abbrev e_lam1 : Expr := lamE PySem.Challenge.pw_guardkeeps_k02_wishes_kinds_and_runs_ref [34, 101, 0, 1]
theorem hL_lam1 {P : Program} (pP : P = PySem.Challenge.pw_guardkeeps_k02_wishes_kinds_and_runs_ref) : lamAt P [34, 101, 0, 1] = some (.Lambda (eArgs e_lam1) (eBody e_lam1) (eScope e_lam1) (ePos e_lam1)) := by subst pP; rfl
theorem lk_lam1 : ∀ y ∈ (eScope e_lam1).names, y.2 = .free → (defScope s_law_calls).names.lookup y.1 = some .cell ∨ (defScope s_law_calls).names.lookup y.1 = some .free := by decide +kernel
theorem js_lam1 : ([0] : List Nat).map (fun j => (["want", "thing", "found"] : List Str)[j]?) = (frees (eScope e_lam1)).map some := by decide +kernel
theorem nd_lam1 : (frees (eScope e_lam1)).Nodup := by decide +kernel
abbrev e_lam2 : Expr := lamE PySem.Challenge.pw_guardkeeps_k02_wishes_kinds_and_runs_ref [34, 102, 0, 1]
theorem hL_lam2 {P : Program} (pP : P = PySem.Challenge.pw_guardkeeps_k02_wishes_kinds_and_runs_ref) : lamAt P [34, 102, 0, 1] = some (.Lambda (eArgs e_lam2) (eBody e_lam2) (eScope e_lam2) (ePos e_lam2)) := by subst pP; rfl
theorem lk_lam2 : ∀ y ∈ (eScope e_lam2).names, y.2 = .free → (defScope s_law_calls).names.lookup y.1 = some .cell ∨ (defScope s_law_calls).names.lookup y.1 = some .free := by decide +kernel
theorem js_lam2 : ([0, 1] : List Nat).map (fun j => (["want", "thing", "found"] : List Str)[j]?) = (frees (eScope e_lam2)).map some := by decide +kernel
theorem nd_lam2 : (frees (eScope e_lam2)).Nodup := by decide +kernel
abbrev e_lam3 : Expr := lamE PySem.Challenge.pw_guardkeeps_k02_wishes_kinds_and_runs_ref [34, 103, 0, 1]
theorem hL_lam3 {P : Program} (pP : P = PySem.Challenge.pw_guardkeeps_k02_wishes_kinds_and_runs_ref) : lamAt P [34, 103, 0, 1] = some (.Lambda (eArgs e_lam3) (eBody e_lam3) (eScope e_lam3) (ePos e_lam3)) := by subst pP; rfl
theorem lk_lam3 : ∀ y ∈ (eScope e_lam3).names, y.2 = .free → (defScope s_law_calls).names.lookup y.1 = some .cell ∨ (defScope s_law_calls).names.lookup y.1 = some .free := by decide +kernel
theorem js_lam3 : ([0, 1] : List Nat).map (fun j => (["want", "thing", "found"] : List Str)[j]?) = (frees (eScope e_lam3)).map some := by decide +kernel
theorem nd_lam3 : (frees (eScope e_lam3)).Nodup := by decide +kernel
abbrev e_lam4 : Expr := lamE PySem.Challenge.pw_guardkeeps_k02_wishes_kinds_and_runs_ref [34, 104, 0, 1]
theorem hL_lam4 {P : Program} (pP : P = PySem.Challenge.pw_guardkeeps_k02_wishes_kinds_and_runs_ref) : lamAt P [34, 104, 0, 1] = some (.Lambda (eArgs e_lam4) (eBody e_lam4) (eScope e_lam4) (ePos e_lam4)) := by subst pP; rfl
theorem lk_lam4 : ∀ y ∈ (eScope e_lam4).names, y.2 = .free → (defScope s_law_calls).names.lookup y.1 = some .cell ∨ (defScope s_law_calls).names.lookup y.1 = some .free := by decide +kernel
theorem js_lam4 : ([0, 1] : List Nat).map (fun j => (["want", "thing", "found"] : List Str)[j]?) = (frees (eScope e_lam4)).map some := by decide +kernel
theorem nd_lam4 : (frees (eScope e_lam4)).Nodup := by decide +kernel
abbrev e_lam5 : Expr := lamE PySem.Challenge.pw_guardkeeps_k02_wishes_kinds_and_runs_ref [34, 105, 0, 1]
theorem hL_lam5 {P : Program} (pP : P = PySem.Challenge.pw_guardkeeps_k02_wishes_kinds_and_runs_ref) : lamAt P [34, 105, 0, 1] = some (.Lambda (eArgs e_lam5) (eBody e_lam5) (eScope e_lam5) (ePos e_lam5)) := by subst pP; rfl
theorem lk_lam5 : ∀ y ∈ (eScope e_lam5).names, y.2 = .free → (defScope s_law_calls).names.lookup y.1 = some .cell ∨ (defScope s_law_calls).names.lookup y.1 = some .free := by decide +kernel
theorem js_lam5 : ([0, 1] : List Nat).map (fun j => (["want", "thing", "found"] : List Str)[j]?) = (frees (eScope e_lam5)).map some := by decide +kernel
theorem nd_lam5 : (frees (eScope e_lam5)).Nodup := by decide +kernel
def w_law_calls : FE := fLams 3 [⟨[34, 100, 0, 0], eScope e_lam0, [0]⟩, ⟨[34, 101, 0, 1], eScope e_lam1, [0]⟩, ⟨[34, 102, 0, 1], eScope e_lam2, [0, 1]⟩, ⟨[34, 103, 0, 1], eScope e_lam3, [0, 1]⟩, ⟨[34, 104, 0, 1], eScope e_lam4, [0, 1]⟩, ⟨[34, 105, 0, 1], eScope e_lam5, [0, 1]⟩]
theorem li_law_calls : ∀ l ∈ ([⟨[34, 100, 0, 0], eScope e_lam0, [0]⟩, ⟨[34, 101, 0, 1], eScope e_lam1, [0]⟩, ⟨[34, 102, 0, 1], eScope e_lam2, [0, 1]⟩, ⟨[34, 103, 0, 1], eScope e_lam3, [0, 1]⟩, ⟨[34, 104, 0, 1], eScope e_lam4, [0, 1]⟩, ⟨[34, 105, 0, 1], eScope e_lam5, [0, 1]⟩] : List LamI), l.Ok 34 ["want", "thing", "found"] (defScope s_law_calls) := by
  refine List.forall_mem_cons.mpr ⟨⟨rfl, lk_lam0, js_lam0, nd_lam0⟩, List.forall_mem_cons.mpr ⟨⟨rfl, lk_lam1, js_lam1, nd_lam1⟩, List.forall_mem_cons.mpr ⟨⟨rfl, lk_lam2, js_lam2, nd_lam2⟩, List.forall_mem_cons.mpr ⟨⟨rfl, lk_lam3, js_lam3, nd_lam3⟩, List.forall_mem_cons.mpr ⟨⟨rfl, lk_lam4, js_lam4, nd_lam4⟩, List.forall_mem_cons.mpr ⟨⟨rfl, lk_lam5, js_lam5, nd_lam5⟩, fun _ h => nomatch h⟩⟩⟩⟩⟩⟩
theorem raw_law_calls {f : Addr} {fd : FuncData} (pP : P = PySem.Challenge.pw_guardkeeps_k02_wishes_kinds_and_runs_ref) (F : Fun K "_law_calls" "_law_calls" s_law_calls f fd) (T : Txt mg) (tb : MkTab (MM TT) mg base fd) : FnG P w K mg base (L2.CX P w) (8) f fd ["want", "thing"] (spD ⟨K, w, P⟩ (MM TT) 2 w_law_calls) := by
  obtain ⟨cT, PT, ec, TB, hm⟩ := tb
  have nd := sc_law_calls.nd
  refine fnLams (κ := 34) (i := 2) F sc_law_calls li_law_calls (by decide) (by decide +kernel) (by decide) fun X A outer s H E eX => ?_
  subst eX
  refine ⟨_, [(_, ⟨[34, 101, 0, 1], eScope e_lam1, [0]⟩), (_, ⟨[34, 102, 0, 1], eScope e_lam2, [0, 1]⟩), (_, ⟨[34, 103, 0, 1], eScope e_lam3, [0, 1]⟩), (_, ⟨[34, 104, 0, 1], eScope e_lam4, [0, 1]⟩), (_, ⟨[34, 105, 0, 1], eScope e_lam5, [0, 1]⟩)], _, _, _, rfl, rfl, lam_first (pe_lamR (hL_lam0 pP) TB ec hm (by first | rfl | decide +kernel) lk_lam0) (pg_name (i := 2) nd rfl (by first | exact Or.inl rfl | exact Or.inr rfl)), ?_, pv 2⟩
  refine List.forall_mem_cons.mpr ⟨lam_more (pe_lamR (hL_lam1 pP) TB ec hm (by first | rfl | decide +kernel) lk_lam1) (pe_bm PySem.F.plainAttrs_list PySem.F.slot_list_append PySem.F.type_list_append mt_append (pv 2) (pa_cons (pe_lamR (hL_lam1 pP) TB ec hm (by first | rfl | decide +kernel) lk_lam1) pa_nil)), List.forall_mem_cons.mpr ⟨lam_more (pe_lamR (hL_lam2 pP) TB ec hm (by first | rfl | decide +kernel) lk_lam2) (pe_bm PySem.F.plainAttrs_list PySem.F.slot_list_append PySem.F.type_list_append mt_append (pv 2) (pa_cons (pe_lamR (hL_lam2 pP) TB ec hm (by first | rfl | decide +kernel) lk_lam2) pa_nil)), List.forall_mem_cons.mpr ⟨lam_more (pe_lamR (hL_lam3 pP) TB ec hm (by first | rfl | decide +kernel) lk_lam3) (pe_bm PySem.F.plainAttrs_list PySem.F.slot_list_append PySem.F.type_list_append mt_append (pv 2) (pa_cons (pe_lamR (hL_lam3 pP) TB ec hm (by first | rfl | decide +kernel) lk_lam3) pa_nil)), List.forall_mem_cons.mpr ⟨lam_more (pe_lamR (hL_lam4 pP) TB ec hm (by first | rfl | decide +kernel) lk_lam4) (pe_bm PySem.F.plainAttrs_list PySem.F.slot_list_append PySem.F.type_list_append mt_append (pv 2) (pa_cons (pe_lamR (hL_lam4 pP) TB ec hm (by first | rfl | decide +kernel) lk_lam4) pa_nil)), List.forall_mem_cons.mpr ⟨lam_more (pe_lamR (hL_lam5 pP) TB ec hm (by first | rfl | decide +kernel) lk_lam5) (pe_bm PySem.F.plainAttrs_list PySem.F.slot_list_append PySem.F.type_list_append mt_append (pv 2) (pa_cons (pe_lamR (hL_lam5 pP) TB ec hm (by first | rfl | decide +kernel) lk_lam5) pa_nil)), fun _ h => nomatch h⟩⟩⟩⟩⟩
theorem ok_law_calls : ∀ ρ k, W_law_calls ρ k → w_law_calls ρ k := by
  rintro ⟨sl, n⟩ k ⟨d, t, e, z⟩
  simp only at e
  subst e
  exact ⟨_, rfl, z⟩
def Reg (C_BadKind : Addr) (C_BadWish : Addr) (C_OutOfPlace : Addr) : List LReg := [⟨[34, 100, 0, 0], 0, 1, W_lam0, (U_lam0 C_BadWish)⟩,
  ⟨[34, 101, 0, 1], 0, 1, W_lam1, (U_lam1 C_BadWish)⟩,
  ⟨[34, 102, 0, 1], 0, 2, W_lam2, (U_lam2 C_BadKind C_BadWish)⟩,
  ⟨[34, 103, 0, 1], 0, 2, W_lam3, (U_lam3 C_BadWish C_OutOfPlace)⟩,
  ⟨[34, 104, 0, 1], 0, 2, W_lam4, (U_lam4 C_BadWish C_OutOfPlace)⟩,
  ⟨[34, 105, 0, 1], 0, 2, W_lam5, (U_lam5 C_BadWish C_OutOfPlace)⟩,
  ⟨[36, 104, 100, 0, 0, 1], 0, 2, W_lam6, (U_lam6 C_BadKind C_BadWish)⟩]
def Out (C1 C2 C3 : Addr) (r : LReg) (ds : List D) (n : Nat) (o : D) : Prop :=
  (o = .none ∧ r.V ⟨ds.map Sl.d, n⟩ fun _ ρ' => ρ'.n = n) ∨ r.U ⟨ds.map Sl.d, n⟩ fun c fl ρ' => ρ'.n = n ∧
    ((c = .ref C2 ∧ ∃ p : Str, fl = [(.str "part", .str p)] ∧ o = .str p) ∨ (c = .ref C1 ∧ ∃ p : Str, fl = [(.str "part", .str p)] ∧ o = .list [.str p]) ∨ (c = .ref C3 ∧ o = .str "place"))
def W_law_outcome (C1 C2 C3 : Addr) : FE := fun ρ k => ∃ r ∈ Reg C1 C2 C3, ∃ ds o, ρ.sl = [.d (cloD r.path ds)] ∧ (r.nP = 0 ∧ ds.length = r.n ∧ (ds.map Sl.d).all (okC (r.path.headD 0)) = true ∧ Out C1 C2 C3 r ds ρ.n o) ∧ k o ρ
theorem mW_law_outcome (C1 C2 C3 : Addr) (ρ : Rho) (k k' : KD) (hM : ∀ d ρ', k d ρ' → k' d ρ') (z : W_law_outcome C1 C2 C3 ρ k) : W_law_outcome C1 C2 C3 ρ k' := by
  obtain ⟨r, hr, ds, o, e1, e2, e3⟩ := z
  exact ⟨r, hr, ds, o, e1, e2, hM _ _ e3⟩
abbrev s_law_kinds_right : Stmt := top 36
theorem sc_law_kinds_right : FnScope ["want", "odds", "odd", "word", "whole"] ["want"] (defScope s_law_kinds_right) := ⟨rfl, rfl, rfl, by decide +kernel, rfl, by decide +kernel, by decide +kernel⟩
def b_law_kinds_right_1 (C_BadKind : Addr) (C_BadWish : Addr) (C_OutOfPlace : Addr) : FS := fsIf (ftB (fOp gNeA (fCallL 1 (W_law_outcome C_BadKind C_BadWish C_OutOfPlace) [36, 104, 100, 0, 0, 1] [0, 2] (fhHere (flNil))) (fLst (flCons (fVar 3) (flNil))))) (fsRet (fC (.bool false))) (fsNext)
def c_law_kinds_right_6 (C_BadKind : Addr) (C_BadWish : Addr) (C_OutOfPlace : Addr) : FS := fsRet (fOp gEqA (fCall 2 W_need_kind (faD (flCons (fVar 0) (flCons (fVar 4) (flNil))))) (fVar 4))
def c_law_kinds_right_5 (C_BadKind : Addr) (C_BadWish : Addr) (C_OutOfPlace : Addr) : FS := fsSeq (fsAsg (fTup (flCons (fC (.int 3)) (flCons (fC (.int 2)) (flCons (fUn gTupRg (fOp gIx (fVar 0) (fC (.int 0)))) (flNil))))) (fgN 4))
  (c_law_kinds_right_6 C_BadKind C_BadWish C_OutOfPlace)
def c_law_kinds_right_4 (C_BadKind : Addr) (C_BadWish : Addr) (C_OutOfPlace : Addr) : FS := fsSeq (fsFor (fiSeq (fVar 1)) (fgTup 2 (fgCons (fgN 2) (fgCons (fgN 3) (fgNil)))) (b_law_kinds_right_1 C_BadKind C_BadWish C_OutOfPlace))
  (c_law_kinds_right_5 C_BadKind C_BadWish C_OutOfPlace)
def c_law_kinds_right_3 (C_BadKind : Addr) (C_BadWish : Addr) (C_OutOfPlace : Addr) : FS := fsSeq (fsAsg (fOp gAdd (fVar 1) (fOfN (fnComp (fiSeq (fTup (flCons (fC .none) (flCons (fLst (flNil)) (flCons (fTup (flCons (fOp gIx (fVar 0) (fC (.int 0))) (flNil))) (flCons (fTup (flCons (fC (.int 0)) (flCons (fC (.int 0)) (flNil)))) (flCons (fTup (flCons (fC (.bool true)) (flNil))) (flCons (fTup (flCons (fC (.str "0")) (flNil))) (flCons (fTup (flCons (fUn gNeg (fC (.int 1))) (flNil))) (flCons (fC (.int 0)) (flNil))))))))))) (fgN 2) (ftYes) (fTup (flCons (fTup (flCons (fC (.int 0)) (flCons (fC (.int 2)) (flCons (fVar 2) (flNil))))) (flCons (fC (.str "loose")) (flNil)))) [2]))) (fgN 1))
  (c_law_kinds_right_4 C_BadKind C_BadWish C_OutOfPlace)
def c_law_kinds_right_2 (C_BadKind : Addr) (C_BadWish : Addr) (C_OutOfPlace : Addr) : FS := fsSeq (fsAsg (fOp gAdd (fVar 1) (fOfN (fnComp (fiSeq (fTup (flCons (fUn gNeg (fC (.int 1))) (flCons (fC (.int 3)) (flCons (fC .none) (flCons (fC (.bool true)) (flCons (fC (.str "0")) (flNil)))))))) (fgN 2) (ftYes) (fTup (flCons (fTup (flCons (fC (.int 3)) (flCons (fVar 2) (flCons (fTup (flNil)) (flNil))))) (flCons (fC (.str "ahead")) (flNil)))) [2]))) (fgN 1))
  (c_law_kinds_right_3 C_BadKind C_BadWish C_OutOfPlace)
def c_law_kinds_right_1 (C_BadKind : Addr) (C_BadWish : Addr) (C_OutOfPlace : Addr) : FS := fsSeq (fsAsg (fOp gAdd (fVar 1) (fOfN (fnComp (fiSeq (fTup (flCons (fUn gNeg (fC (.int 1))) (flCons (fC (.int 4)) (flCons (fC .none) (flCons (fC (.bool true)) (flCons (fC (.str "0")) (flNil)))))))) (fgN 2) (ftYes) (fTup (flCons (fTup (flCons (fVar 2) (flCons (fC (.int 0)) (flCons (fTup (flNil)) (flNil))))) (flCons (fC (.str "hold")) (flNil)))) [2]))) (fgN 1))
  (c_law_kinds_right_2 C_BadKind C_BadWish C_OutOfPlace)
def w_law_kinds_right (C_BadKind : Addr) (C_BadWish : Addr) (C_OutOfPlace : Addr) : FS := fsSeq (fsAsg (fLst (flCons (fTup (flCons (fC .none) (flCons (fC (.str "form")) (flNil)))) (flCons (fTup (flCons (fTup (flNil)) (flCons (fC (.str "form")) (flNil)))) (flCons (fTup (flCons (fTup (flCons (fC (.int 0)) (flCons (fC (.int 0)) (flNil)))) (flCons (fC (.str "form")) (flNil)))) (flCons (fTup (flCons (fTup (flCons (fC (.int 0)) (flCons (fC (.int 0)) (flCons (fTup (flNil)) (flCons (fC (.int 0)) (flNil)))))) (flCons (fC (.str "form")) (flNil)))) (flCons (fTup (flCons (fLst (flCons (fC (.int 0)) (flCons (fC (.int 0)) (flCons (fTup (flNil)) (flNil))))) (flCons (fC (.str "form")) (flNil)))) (flNil))))))) (fgN 1))
  (c_law_kinds_right_1 C_BadKind C_BadWish C_OutOfPlace)
abbrev e_lam6 : Expr := lamE PySem.Challenge.pw_guardkeeps_k02_wishes_kinds_and_runs_ref [36, 104, 100, 0, 0, 1]
theorem hL_lam6 {P : Program} (pP : P = PySem.Challenge.pw_guardkeeps_k02_wishes_kinds_and_runs_ref) : lamAt P [36, 104, 100, 0, 0, 1] = some (.Lambda (eArgs e_lam6) (eBody e_lam6) (eScope e_lam6) (ePos e_lam6)) := by subst pP; rfl
theorem lk_lam6 : ∀ y ∈ (eScope e_lam6).names, y.2 = .free → (defScope s_law_kinds_right).names.lookup y.1 = some .cell ∨ (defScope s_law_kinds_right).names.lookup y.1 = some .free := by decide +kernel
theorem js_lam6 : ([0, 2] : List Nat).map (fun j => (["want", "odds", "odd", "word", "whole"] : List Str)[j]?) = (frees (eScope e_lam6)).map some := by decide +kernel
theorem nd_lam6 : (frees (eScope e_lam6)).Nodup := by decide +kernel
theorem raw_law_kinds_right {f : Addr} {fd : FuncData} {a_need_kind : Addr} {d_need_kind : FuncData} {a_law_outcome : Addr} {d_law_outcome : FuncData} {C_BadKind : Addr} {C_BadWish : Addr} {C_OutOfPlace : Addr} (F : Fun K "_law_kinds_right" "_law_kinds_right" s_law_kinds_right f fd) (T : Txt mg) (pP : P = PySem.Challenge.pw_guardkeeps_k02_wishes_kinds_and_runs_ref) (tb : MkTab (MM TT) mg base fd) (g_need_kind : mg "need_kind" = some (.ref a_need_kind)) (g_law_outcome : mg "_law_outcome" = some (.ref a_law_outcome)) (G_need_kind : FnG P w K mg base (L2.CX P w) 6 a_need_kind d_need_kind ["wish", "thing"] (spX ⟨K, w, P⟩ (MM TT) 2 W_need_kind (U_need_kind C_BadKind C_BadWish))) (b_need_kind : Binds K d_need_kind ["wish", "thing"] []) (k_need_kind : PySem.W.keepIn K (.ref a_need_kind) = true) (G_law_outcome : FnG P w K mg base (L2.CX P w) 9 a_law_outcome d_law_outcome ["call"] (spD ⟨K, w, P⟩ (MM TT) 1 (W_law_outcome C_BadKind C_BadWish C_OutOfPlace))) (b_law_outcome : Binds K d_law_outcome ["call"] []) (k_law_outcome : PySem.W.keepIn K (.ref a_law_outcome) = true) : FnG P w K mg base (L2.CX P w) (10) f fd ["want"] (spD ⟨K, w, P⟩ (MM TT) 1 (fBody 5 (w_law_kinds_right C_BadKind C_BadWish C_OutOfPlace))) := by
  obtain ⟨cT, PT, ec, TB, hm⟩ := tb
  refine fnDC F sc_law_kinds_right fun A outer s H E hgd hr => ?_
  have nd := (sc_law_kinds_right).nd
  have hu : (A.deeper (envOfC "_law_kinds_right" (defScope s_law_kinds_right) s.heap.objs.size f fd.code)).units + 64 < cLine := hr.units
  exact pds_cons (pds_asg (pd_lst (pdl_cons (pd_tup (pdl_cons (pd_non) (pdl_cons (pd_str) (pdl_nil)))) (pdl_cons (pd_tup (pdl_cons (pd_tup (pdl_nil)) (pdl_cons (pd_str) (pdl_nil)))) (pdl_cons (pd_tup (pdl_cons (pd_tup (pdl_cons (pd_int) (pdl_cons (pd_int) (pdl_nil)))) (pdl_cons (pd_str) (pdl_nil)))) (pdl_cons (pd_tup (pdl_cons (pd_tup (pdl_cons (pd_int) (pdl_cons (pd_int) (pdl_cons (pd_tup (pdl_nil)) (pdl_cons (pd_int) (pdl_nil)))))) (pdl_cons (pd_str) (pdl_nil)))) (pdl_cons (pd_tup (pdl_cons (pd_lst (pdl_cons (pd_int) (pdl_cons (pd_int) (pdl_cons (pd_tup (pdl_nil)) (pdl_nil))))) (pdl_cons (pd_str) (pdl_nil)))) (pdl_nil))))))) (pg1_name (i := 1) (pg_name (i := 1) nd rfl (by first | exact Or.inl rfl | exact Or.inr rfl))))
    (pds_cons (pds_asg (pd_op op_addA rd_add (pd_var (pv 1)) (pd_ofN (pn_lc rfl nd (own := [("odd", 2)]) (vs := [2]) (pdi_seq (pd_tup (pdl_cons (pd_un un_neg r1_neg (pd_int)) (pdl_cons (pd_int) (pdl_cons (pd_non) (pdl_cons (pd_bl) (pdl_cons (pd_str) (pdl_nil)))))))) (blkOk_by (own := [("odd", 2)]) (N := ["want", "odds", "odd", "word", "whole"]) (sc := defScope s_law_kinds_right) (by decide +kernel)) rfl (fun _ _ _ _ _ => pg1_name (i := 2) (pg_name (i := 2) nd rfl (by first | exact Or.inl rfl | exact Or.inr rfl))) (fun _ _ _ _ _ => ptn_nil) (fun _ _ _ _ _ => pd_tup (pdl_cons (pd_tup (pdl_cons (pd_var (pv 2)) (pdl_cons (pd_int) (pdl_cons (pd_tup (pdl_nil)) (pdl_nil))))) (pdl_cons (pd_str) (pdl_nil)))) s))) (pg1_name (i := 1) (pg_name (i := 1) nd rfl (by first | exact Or.inl rfl | exact Or.inr rfl))))
    (pds_cons (pds_asg (pd_op op_addA rd_add (pd_var (pv 1)) (pd_ofN (pn_lc rfl nd (own := [("odd", 2)]) (vs := [2]) (pdi_seq (pd_tup (pdl_cons (pd_un un_neg r1_neg (pd_int)) (pdl_cons (pd_int) (pdl_cons (pd_non) (pdl_cons (pd_bl) (pdl_cons (pd_str) (pdl_nil)))))))) (blkOk_by (own := [("odd", 2)]) (N := ["want", "odds", "odd", "word", "whole"]) (sc := defScope s_law_kinds_right) (by decide +kernel)) rfl (fun _ _ _ _ _ => pg1_name (i := 2) (pg_name (i := 2) nd rfl (by first | exact Or.inl rfl | exact Or.inr rfl))) (fun _ _ _ _ _ => ptn_nil) (fun _ _ _ _ _ => pd_tup (pdl_cons (pd_tup (pdl_cons (pd_int) (pdl_cons (pd_var (pv 2)) (pdl_cons (pd_tup (pdl_nil)) (pdl_nil))))) (pdl_cons (pd_str) (pdl_nil)))) s))) (pg1_name (i := 1) (pg_name (i := 1) nd rfl (by first | exact Or.inl rfl | exact Or.inr rfl))))
    (pds_cons (pds_asg (pd_op op_addA rd_add (pd_var (pv 1)) (pd_ofN (pn_lc rfl nd (own := [("odd", 2)]) (vs := [2]) (pdi_seq (pd_tup (pdl_cons (pd_non) (pdl_cons (pd_lst (pdl_nil)) (pdl_cons (pd_tup (pdl_cons (pd_ix ix_any rd_ix (pd_var (pv 0)) (pd_int) (fun _ _ => rfl)) (pdl_nil))) (pdl_cons (pd_tup (pdl_cons (pd_int) (pdl_cons (pd_int) (pdl_nil)))) (pdl_cons (pd_tup (pdl_cons (pd_bl) (pdl_nil))) (pdl_cons (pd_tup (pdl_cons (pd_str) (pdl_nil))) (pdl_cons (pd_tup (pdl_cons (pd_un un_neg r1_neg (pd_int)) (pdl_nil))) (pdl_cons (pd_int) (pdl_nil))))))))))) (blkOk_by (own := [("odd", 2)]) (N := ["want", "odds", "odd", "word", "whole"]) (sc := defScope s_law_kinds_right) (by decide +kernel)) rfl (fun _ _ _ _ _ => pg1_name (i := 2) (pg_name (i := 2) nd rfl (by first | exact Or.inl rfl | exact Or.inr rfl))) (fun _ _ _ _ _ => ptn_nil) (fun _ _ _ _ _ => pd_tup (pdl_cons (pd_tup (pdl_cons (pd_int) (pdl_cons (pd_int) (pdl_cons (pd_var (pv 2)) (pdl_nil))))) (pdl_cons (pd_str) (pdl_nil)))) s))) (pg1_name (i := 1) (pg_name (i := 1) nd rfl (by first | exact Or.inl rfl | exact Or.inr rfl))))
    (pds_cons (pds_for (fs := b_law_kinds_right_1 C_BadKind C_BadWish C_OutOfPlace) PassesOwn.never rfl (pdi_seq (pd_var (pv 1))) (pg1_tup (pgn_cons (pg1_name (i := 2) (pg_name (i := 2) nd rfl (by first | exact Or.inl rfl | exact Or.inr rfl))) (pgn_cons (pg1_name (i := 3) (pg_name (i := 3) nd rfl (by first | exact Or.inl rfl | exact Or.inr rfl))) (pgn_nil) (pgs_cons (pg1_name (i := 3) (pg_name (i := 3) nd rfl (by first | exact Or.inl rfl | exact Or.inr rfl))).pg (pgn_nil).pg)) (pgs_cons (pg1_name (i := 2) (pg_name (i := 2) nd rfl (by first | exact Or.inl rfl | exact Or.inr rfl))).pg (pgn_cons (pg1_name (i := 3) (pg_name (i := 3) nd rfl (by first | exact Or.inl rfl | exact Or.inr rfl))) (pgn_nil) (pgs_cons (pg1_name (i := 3) (pg_name (i := 3) nd rfl (by first | exact Or.inl rfl | exact Or.inr rfl))).pg (pgn_nil).pg)).pg)) (pg_tup rfl (pgn_cons (pg1_name (i := 2) (pg_name (i := 2) nd rfl (by first | exact Or.inl rfl | exact Or.inr rfl))) (pgn_cons (pg1_name (i := 3) (pg_name (i := 3) nd rfl (by first | exact Or.inl rfl | exact Or.inr rfl))) (pgn_nil) (pgs_cons (pg1_name (i := 3) (pg_name (i := 3) nd rfl (by first | exact Or.inl rfl | exact Or.inr rfl))).pg (pgn_nil).pg)) (pgs_cons (pg1_name (i := 2) (pg_name (i := 2) nd rfl (by first | exact Or.inl rfl | exact Or.inr rfl))).pg (pgn_cons (pg1_name (i := 3) (pg_name (i := 3) nd rfl (by first | exact Or.inl rfl | exact Or.inr rfl))) (pgn_nil) (pgs_cons (pg1_name (i := 3) (pg_name (i := 3) nd rfl (by first | exact Or.inl rfl | exact Or.inr rfl))).pg (pgn_nil).pg)).pg)).pg)) (pds_one (pds_if (pdt_cmp (op_neA hu) rd_neA (pd_callL (mW_law_outcome C_BadKind C_BadWish C_OutOfPlace) (G_law_outcome.mono (by decide)) hgd hr (by rfl) g_law_outcome k_law_outcome b_law_outcome (pdh_here (pe_lamR (hL_lam6 pP) TB ec hm (by first | rfl | decide +kernel) lk_lam6) (pdl_nil)) lk_lam6 js_lam6 nd_lam6 (fun _ => rfl)) (pd_lst (pdl_cons (pd_var (pv 3)) (pdl_nil))) (by first | exact nomark _ | rfl)) (pds_one (pds_ret (pd_bl))) (pds_nil))))
    (pds_cons (pds_asg (pd_tup (pdl_cons (pd_int) (pdl_cons (pd_int) (pdl_cons (pd_tupRg rfl (by rfl) T.tuple (by rfl) T.range (pd_ix ix_any rd_ix (pd_var (pv 0)) (pd_int) (fun _ _ => rfl))) (pdl_nil))))) (pg1_name (i := 4) (pg_name (i := 4) nd rfl (by first | exact Or.inl rfl | exact Or.inr rfl))))
    (pds_one (pds_ret (pd_cmp (op_eqA hu) rd_eqA (pd_call mW_need_kind (G_need_kind.left.mono (by decide)) hgd hr (by rfl) g_need_kind k_need_kind b_need_kind (pda_d (pdl_cons (pd_var (pv 0)) (pdl_cons (pd_var (pv 4)) (pdl_nil))))) (pd_var (pv 4)) (by first | exact nomark _ | rfl)))))))))
def w_lam0 : FE := fCall 1 W_need_wish (faD (flCons (fVar 0) (flNil)))
def u_lam0 (C_BadWish : Addr) : FX := fxCall 1 (U_need_wish C_BadWish) (faD (flCons (fVar 0) (flNil)))
theorem hb_lam0 (q : Str) (cl : List (Str × Addr)) (pm ctv : Value) (c : Addr) (us : List Value) (h : us.length = ([] : List Str).length) : bindArgs (PySem.W.kla_fn "<lambda>" q (eArgs e_lam0) (eBody e_lam0) (eScope e_lam0) cl pm (.ref c) ctv) ⟨us, []⟩ = pure (([] : List Str).zip us) := match us, h with | [], _ => rfl
theorem raw_lam0 {a_need_wish : Addr} {d_need_wish : FuncData} {C_BadWish : Addr} (pP : P = PySem.Challenge.pw_guardkeeps_k02_wishes_kinds_and_runs_ref) (T : Txt mg) (g_need_wish : mg "need_wish" = some (.ref a_need_wish)) (G_need_wish : FnG P w K mg base (L2.CX P w) 5 a_need_wish d_need_wish ["thing"] (spX ⟨K, w, P⟩ (MM TT) 1 W_need_wish (U_need_wish C_BadWish))) (b_need_wish : Binds K d_need_wish ["thing"] []) (k_need_wish : PySem.W.keepIn K (.ref a_need_wish) = true) : LamG P w K mg base (6) [34, 100, 0, 0] 0 (spX ⟨K, w, P⟩ (MM TT) 1 (fLam 1 (w_lam0)) (fLamX 1 (u_lam0 C_BadWish))) := by
  refine lamX (N := ["want"]) (ps := []) (hL_lam0 pP) (NdefX.nscope_by (by decide +kernel)) hb_lam0 fun X C A outer s H f E eX hsc hgd hr tk po => ?_
  subst eX
  have nd : (["want"] : List Str).Nodup := by decide +kernel
  have hu : (A.deeper (NdefX.envF C.nf f s.heap.objs.size)).units + 64 < cLine := hr.units
  obtain ⟨q, params, body, scope, pm, ctv, c, oc, cl, os⟩ := C
  simp only at hsc
  subst hsc
  exact ⟨pd_call mW_need_wish (G_need_wish.left.mono (by decide)) hgd hr (by rfl) g_need_wish k_need_wish b_need_wish (pda_d (pdl_cons (pd_var (pv 0)) (pdl_nil))), px_call tk (mU_need_wish C_BadWish) (G_need_wish.right.mono (by decide)) hgd hr (by rfl) g_need_wish k_need_wish b_need_wish (pda_d (pdl_cons (pd_var (pv 0)) (pdl_nil)))⟩
def w_lam1 : FE := fCall 1 W_live_states (faD (flCons (fVar 0) (flNil)))
def u_lam1 (C_BadWish : Addr) : FX := fxCall 1 (U_live_states C_BadWish) (faD (flCons (fVar 0) (flNil)))
theorem hb_lam1 (q : Str) (cl : List (Str × Addr)) (pm ctv : Value) (c : Addr) (us : List Value) (h : us.length = ([] : List Str).length) : bindArgs (PySem.W.kla_fn "<lambda>" q (eArgs e_lam1) (eBody e_lam1) (eScope e_lam1) cl pm (.ref c) ctv) ⟨us, []⟩ = pure (([] : List Str).zip us) := match us, h with | [], _ => rfl
theorem raw_lam1 {a_live_states : Addr} {d_live_states : FuncData} {C_BadWish : Addr} (pP : P = PySem.Challenge.pw_guardkeeps_k02_wishes_kinds_and_runs_ref) (T : Txt mg) (g_live_states : mg "live_states" = some (.ref a_live_states)) (G_live_states : FnG P w K mg base (L2.CX P w) 6 a_live_states d_live_states ["wish"] (spX ⟨K, w, P⟩ (MM TT) 1 W_live_states (U_live_states C_BadWish))) (b_live_states : Binds K d_live_states ["wish"] []) (k_live_states : PySem.W.keepIn K (.ref a_live_states) = true) : LamG P w K mg base (7) [34, 101, 0, 1] 0 (spX ⟨K, w, P⟩ (MM TT) 1 (fLam 1 (w_lam1)) (fLamX 1 (u_lam1 C_BadWish))) := by
  refine lamX (N := ["want"]) (ps := []) (hL_lam1 pP) (NdefX.nscope_by (by decide +kernel)) hb_lam1 fun X C A outer s H f E eX hsc hgd hr tk po => ?_
  subst eX
  have nd : (["want"] : List Str).Nodup := by decide +kernel
  have hu : (A.deeper (NdefX.envF C.nf f s.heap.objs.size)).units + 64 < cLine := hr.units
  obtain ⟨q, params, body, scope, pm, ctv, c, oc, cl, os⟩ := C
  simp only at hsc
  subst hsc
  exact ⟨pd_call mW_live_states (G_live_states.left.mono (by decide)) hgd hr (by rfl) g_live_states k_live_states b_live_states (pda_d (pdl_cons (pd_var (pv 0)) (pdl_nil))), px_call tk (mU_live_states C_BadWish) (G_live_states.right.mono (by decide)) hgd hr (by rfl) g_live_states k_live_states b_live_states (pda_d (pdl_cons (pd_var (pv 0)) (pdl_nil)))⟩
def w_lam2 : FE := fCall 2 W_need_kind (faD (flCons (fVar 0) (flCons (fVar 1) (flNil))))
def u_lam2 (C_BadKind C_BadWish : Addr) : FX := fxCall 2 (U_need_kind C_BadKind C_BadWish) (faD (flCons (fVar 0) (flCons (fVar 1) (flNil))))
theorem hb_lam2 (q : Str) (cl : List (Str × Addr)) (pm ctv : Value) (c : Addr) (us : List Value) (h : us.length = ([] : List Str).length) : bindArgs (PySem.W.kla_fn "<lambda>" q (eArgs e_lam2) (eBody e_lam2) (eScope e_lam2) cl pm (.ref c) ctv) ⟨us, []⟩ = pure (([] : List Str).zip us) := match us, h with | [], _ => rfl
theorem raw_lam2 {a_need_kind : Addr} {d_need_kind : FuncData} {C_BadKind : Addr} {C_BadWish : Addr} (pP : P = PySem.Challenge.pw_guardkeeps_k02_wishes_kinds_and_runs_ref) (T : Txt mg) (g_need_kind : mg "need_kind" = some (.ref a_need_kind)) (G_need_kind : FnG P w K mg base (L2.CX P w) 6 a_need_kind d_need_kind ["wish", "thing"] (spX ⟨K, w, P⟩ (MM TT) 2 W_need_kind (U_need_kind C_BadKind C_BadWish))) (b_need_kind : Binds K d_need_kind ["wish", "thing"] []) (k_need_kind : PySem.W.keepIn K (.ref a_need_kind) = true) : LamG P w K mg base (7) [34, 102, 0, 1] 0 (spX ⟨K, w, P⟩ (MM TT) 2 (fLam 2 (w_lam2)) (fLamX 2 (u_lam2 C_BadKind C_BadWish))) := by
  refine lamX (N := ["want", "thing"]) (ps := []) (hL_lam2 pP) (NdefX.nscope_by (by decide +kernel)) hb_lam2 fun X C A outer s H f E eX hsc hgd hr tk po => ?_
  subst eX
  have nd : (["want", "thing"] : List Str).Nodup := by decide +kernel
  have hu : (A.deeper (NdefX.envF C.nf f s.heap.objs.size)).units + 64 < cLine := hr.units
  obtain ⟨q, params, body, scope, pm, ctv, c, oc, cl, os⟩ := C
  simp only at hsc
  subst hsc
  exact ⟨pd_call mW_need_kind (G_need_kind.left.mono (by decide)) hgd hr (by rfl) g_need_kind k_need_kind b_need_kind (pda_d (pdl_cons (pd_var (pv 0)) (pdl_cons (pd_var (pv 1)) (pdl_nil)))), px_call tk (mU_need_kind C_BadKind C_BadWish) (G_need_kind.right.mono (by decide)) hgd hr (by rfl) g_need_kind k_need_kind b_need_kind (pda_d (pdl_cons (pd_var (pv 0)) (pdl_cons (pd_var (pv 1)) (pdl_nil))))⟩
def w_lam3 : FE := fCall 2 W_state_of (faD (flCons (fVar 0) (flCons (fVar 1) (flNil))))
def u_lam3 (C_BadWish C_OutOfPlace : Addr) : FX := fxCall 2 (U_state_of C_BadWish C_OutOfPlace) (faD (flCons (fVar 0) (flCons (fVar 1) (flNil))))
theorem hb_lam3 (q : Str) (cl : List (Str × Addr)) (pm ctv : Value) (c : Addr) (us : List Value) (h : us.length = ([] : List Str).length) : bindArgs (PySem.W.kla_fn "<lambda>" q (eArgs e_lam3) (eBody e_lam3) (eScope e_lam3) cl pm (.ref c) ctv) ⟨us, []⟩ = pure (([] : List Str).zip us) := match us, h with | [], _ => rfl
theorem raw_lam3 {a_state_of : Addr} {d_state_of : FuncData} {C_BadWish : Addr} {C_OutOfPlace : Addr} (pP : P = PySem.Challenge.pw_guardkeeps_k02_wishes_kinds_and_runs_ref) (T : Txt mg) (g_state_of : mg "state_of" = some (.ref a_state_of)) (G_state_of : FnG P w K mg base (L2.CX P w) 6 a_state_of d_state_of ["wish", "run"] (spX ⟨K, w, P⟩ (MM TT) 2 W_state_of (U_state_of C_BadWish C_OutOfPlace))) (b_state_of : Binds K d_state_of ["wish", "run"] []) (k_state_of : PySem.W.keepIn K (.ref a_state_of) = true) : LamG P w K mg base (7) [34, 103, 0, 1] 0 (spX ⟨K, w, P⟩ (MM TT) 2 (fLam 2 (w_lam3)) (fLamX 2 (u_lam3 C_BadWish C_OutOfPlace))) := by
  refine lamX (N := ["want", "thing"]) (ps := []) (hL_lam3 pP) (NdefX.nscope_by (by decide +kernel)) hb_lam3 fun X C A outer s H f E eX hsc hgd hr tk po => ?_
  subst eX
  have nd : (["want", "thing"] : List Str).Nodup := by decide +kernel
  have hu : (A.deeper (NdefX.envF C.nf f s.heap.objs.size)).units + 64 < cLine := hr.units
  obtain ⟨q, params, body, scope, pm, ctv, c, oc, cl, os⟩ := C
  simp only at hsc
  subst hsc
  exact ⟨pd_call mW_state_of (G_state_of.left.mono (by decide)) hgd hr (by rfl) g_state_of k_state_of b_state_of (pda_d (pdl_cons (pd_var (pv 0)) (pdl_cons (pd_var (pv 1)) (pdl_nil)))), px_call tk (mU_state_of C_BadWish C_OutOfPlace) (G_state_of.right.mono (by decide)) hgd hr (by rfl) g_state_of k_state_of b_state_of (pda_d (pdl_cons (pd_var (pv 0)) (pdl_cons (pd_var (pv 1)) (pdl_nil))))⟩
def w_lam4 : FE := fCall 2 W_is_good (faD (flCons (fVar 0) (flCons (fVar 1) (flNil))))
def u_lam4 (C_BadWish C_OutOfPlace : Addr) : FX := fxCall 2 (U_is_good C_BadWish C_OutOfPlace) (faD (flCons (fVar 0) (flCons (fVar 1) (flNil))))
theorem hb_lam4 (q : Str) (cl : List (Str × Addr)) (pm ctv : Value) (c : Addr) (us : List Value) (h : us.length = ([] : List Str).length) : bindArgs (PySem.W.kla_fn "<lambda>" q (eArgs e_lam4) (eBody e_lam4) (eScope e_lam4) cl pm (.ref c) ctv) ⟨us, []⟩ = pure (([] : List Str).zip us) := match us, h with | [], _ => rfl
theorem raw_lam4 {a_is_good : Addr} {d_is_good : FuncData} {C_BadWish : Addr} {C_OutOfPlace : Addr} (pP : P = PySem.Challenge.pw_guardkeeps_k02_wishes_kinds_and_runs_ref) (T : Txt mg) (g_is_good : mg "is_good" = some (.ref a_is_good)) (G_is_good : FnG P w K mg base (L2.CX P w) 7 a_is_good d_is_good ["wish", "run"] (spX ⟨K, w, P⟩ (MM TT) 2 W_is_good (U_is_good C_BadWish C_OutOfPlace))) (b_is_good : Binds K d_is_good ["wish", "run"] []) (k_is_good : PySem.W.keepIn K (.ref a_is_good) = true) : LamG P w K mg base (8) [34, 104, 0, 1] 0 (spX ⟨K, w, P⟩ (MM TT) 2 (fLam 2 (w_lam4)) (fLamX 2 (u_lam4 C_BadWish C_OutOfPlace))) := by
  refine lamX (N := ["want", "thing"]) (ps := []) (hL_lam4 pP) (NdefX.nscope_by (by decide +kernel)) hb_lam4 fun X C A outer s H f E eX hsc hgd hr tk po => ?_
  subst eX
  have nd : (["want", "thing"] : List Str).Nodup := by decide +kernel
  have hu : (A.deeper (NdefX.envF C.nf f s.heap.objs.size)).units + 64 < cLine := hr.units
  obtain ⟨q, params, body, scope, pm, ctv, c, oc, cl, os⟩ := C
  simp only at hsc
  subst hsc
  exact ⟨pd_call mW_is_good (G_is_good.left.mono (by decide)) hgd hr (by rfl) g_is_good k_is_good b_is_good (pda_d (pdl_cons (pd_var (pv 0)) (pdl_cons (pd_var (pv 1)) (pdl_nil)))), px_call tk (mU_is_good C_BadWish C_OutOfPlace) (G_is_good.right.mono (by decide)) hgd hr (by rfl) g_is_good k_is_good b_is_good (pda_d (pdl_cons (pd_var (pv 0)) (pdl_cons (pd_var (pv 1)) (pdl_nil))))⟩
def w_lam5 : FE := fCall 2 W_is_live (faD (flCons (fVar 0) (flCons (fVar 1) (flNil))))
def u_lam5 (C_BadWish C_OutOfPlace : Addr) : FX := fxCall 2 (U_is_live C_BadWish C_OutOfPlace) (faD (flCons (fVar 0) (flCons (fVar 1) (flNil))))
theorem hb_lam5 (q : Str) (cl : List (Str × Addr)) (pm ctv : Value) (c : Addr) (us : List Value) (h : us.length = ([] : List Str).length) : bindArgs (PySem.W.kla_fn "<lambda>" q (eArgs e_lam5) (eBody e_lam5) (eScope e_lam5) cl pm (.ref c) ctv) ⟨us, []⟩ = pure (([] : List Str).zip us) := match us, h with | [], _ => rfl
theorem raw_lam5 {a_is_live : Addr} {d_is_live : FuncData} {C_BadWish : Addr} {C_OutOfPlace : Addr} (pP : P = PySem.Challenge.pw_guardkeeps_k02_wishes_kinds_and_runs_ref) (T : Txt mg) (g_is_live : mg "is_live" = some (.ref a_is_live)) (G_is_live : FnG P w K mg base (L2.CX P w) 7 a_is_live d_is_live ["wish", "run"] (spX ⟨K, w, P⟩ (MM TT) 2 W_is_live (U_is_live C_BadWish C_OutOfPlace))) (b_is_live : Binds K d_is_live ["wish", "run"] []) (k_is_live : PySem.W.keepIn K (.ref a_is_live) = true) : LamG P w K mg base (8) [34, 105, 0, 1] 0 (spX ⟨K, w, P⟩ (MM TT) 2 (fLam 2 (w_lam5)) (fLamX 2 (u_lam5 C_BadWish C_OutOfPlace))) := by
  refine lamX (N := ["want", "thing"]) (ps := []) (hL_lam5 pP) (NdefX.nscope_by (by decide +kernel)) hb_lam5 fun X C A outer s H f E eX hsc hgd hr tk po => ?_
  subst eX
  have nd : (["want", "thing"] : List Str).Nodup := by decide +kernel
  have hu : (A.deeper (NdefX.envF C.nf f s.heap.objs.size)).units + 64 < cLine := hr.units
  obtain ⟨q, params, body, scope, pm, ctv, c, oc, cl, os⟩ := C
  simp only at hsc
  subst hsc
  exact ⟨pd_call mW_is_live (G_is_live.left.mono (by decide)) hgd hr (by rfl) g_is_live k_is_live b_is_live (pda_d (pdl_cons (pd_var (pv 0)) (pdl_cons (pd_var (pv 1)) (pdl_nil)))), px_call tk (mU_is_live C_BadWish C_OutOfPlace) (G_is_live.right.mono (by decide)) hgd hr (by rfl) g_is_live k_is_live b_is_live (pda_d (pdl_cons (pd_var (pv 0)) (pdl_cons (pd_var (pv 1)) (pdl_nil))))⟩
def w_lam6 : FE := fCall 2 W_need_kind (faD (flCons (fVar 0) (flCons (fVar 1) (flNil))))
def u_lam6 (C_BadKind C_BadWish : Addr) : FX := fxCall 2 (U_need_kind C_BadKind C_BadWish) (faD (flCons (fVar 0) (flCons (fVar 1) (flNil))))
theorem hb_lam6 (q : Str) (cl : List (Str × Addr)) (pm ctv : Value) (c : Addr) (us : List Value) (h : us.length = ([] : List Str).length) : bindArgs (PySem.W.kla_fn "<lambda>" q (eArgs e_lam6) (eBody e_lam6) (eScope e_lam6) cl pm (.ref c) ctv) ⟨us, []⟩ = pure (([] : List Str).zip us) := match us, h with | [], _ => rfl
theorem raw_lam6 {a_need_kind : Addr} {d_need_kind : FuncData} {C_BadKind : Addr} {C_BadWish : Addr} (pP : P = PySem.Challenge.pw_guardkeeps_k02_wishes_kinds_and_runs_ref) (T : Txt mg) (g_need_kind : mg "need_kind" = some (.ref a_need_kind)) (G_need_kind : FnG P w K mg base (L2.CX P w) 6 a_need_kind d_need_kind ["wish", "thing"] (spX ⟨K, w, P⟩ (MM TT) 2 W_need_kind (U_need_kind C_BadKind C_BadWish))) (b_need_kind : Binds K d_need_kind ["wish", "thing"] []) (k_need_kind : PySem.W.keepIn K (.ref a_need_kind) = true) : LamG P w K mg base (7) [36, 104, 100, 0, 0, 1] 0 (spX ⟨K, w, P⟩ (MM TT) 2 (fLam 2 (w_lam6)) (fLamX 2 (u_lam6 C_BadKind C_BadWish))) := by
  refine lamX (N := ["want", "odd"]) (ps := []) (hL_lam6 pP) (NdefX.nscope_by (by decide +kernel)) hb_lam6 fun X C A outer s H f E eX hsc hgd hr tk po => ?_
  subst eX
  have nd : (["want", "odd"] : List Str).Nodup := by decide +kernel
  have hu : (A.deeper (NdefX.envF C.nf f s.heap.objs.size)).units + 64 < cLine := hr.units
  obtain ⟨q, params, body, scope, pm, ctv, c, oc, cl, os⟩ := C
  simp only at hsc
  subst hsc
  exact ⟨pd_call mW_need_kind (G_need_kind.left.mono (by decide)) hgd hr (by rfl) g_need_kind k_need_kind b_need_kind (pda_d (pdl_cons (pd_var (pv 0)) (pdl_cons (pd_var (pv 1)) (pdl_nil)))), px_call tk (mU_need_kind C_BadKind C_BadWish) (G_need_kind.right.mono (by decide)) hgd hr (by rfl) g_need_kind k_need_kind b_need_kind (pda_d (pdl_cons (pd_var (pv 0)) (pdl_cons (pd_var (pv 1)) (pdl_nil))))⟩
theorem ok_lam0 : ∀ ρ k, W_lam0 ρ k → fLam 1 w_lam0 ρ k := fun _ _ h => h.elim
theorem okx_lam0 (C : Addr) : ∀ ρ k, U_lam0 C ρ k → fLamX 1 (u_lam0 C) ρ k := by
  rintro ⟨sl, n⟩ k ⟨d, p, e, z⟩
  simp only at e
  subst e
  simp [u_lam0, fLamX, fxCall]
  simp [and_assoc, Rho.set, dropOwn, ftLend, fLend, lendR, frz, ow, nList, -forall_exists_index, fBody, fsSeq, fsIf, fsRet, fsNext, fsDrop, fsAsg, fsNever, fsFor, fsOwn, fsPar2, fsPar3, fsPar_od, fsPar_do, fsPar_oo, fVar, fC, fUn, fOp, fChain, fTup, fLst, fCall, faD, faSt, flCons, flNil, fSl, foSome, foNone, fAnd, fOr, fNot, fIf, fOfN, fn1, fnLst, fnCat, fgN, fgTup, fgCons, fgNil, fiSeq, fiRange1, fiRange2, fiEnumA, fiZip, ftOr, ftAnd, ftNot, ftB, ftT, ftYes, truD_b, truD_i, truD_l, truD_t, truD_n, gIx_t0, gIx_t1, gIx_t2, gSl_t, gSl_l, gIsT, notDict, isT, isN, tyName, gLen_t, gLen_l, gTuple_l, gCmp, gAdd_ii, gAdd_ll, PD.gSub, gNeg, gMod, seqD, forD, wipeR, gEqA, gNeA, gEq_ii, gNe_ii, gEq_tt, gIn_ints, gIn_intsL, gNotIn_ints, gNotIn_intsL, fM0, fM1, fJoined, fJ, flStar, starD, fCall0, gIsTX, noInst_n, noInst_b, noInst_i, noInst_s, noInst_l, noInst_t, fFld, fMeth, fMake, faNil, fsFld, fLendO, fDisp, fpCons, fpNil, fDict0, fiAny, walkD, fiOver, dKeys, dVals, dPairs, fsOwnD, fsPut, fOwnIx, fPop, fsExt, fDc, compK, gInX, gNotInX, gIxX, fGet]
  exact ⟨d, p, rfl, z⟩
theorem ok_lam1 : ∀ ρ k, W_lam1 ρ k → fLam 1 w_lam1 ρ k := fun _ _ h => h.elim
theorem okx_lam1 (C : Addr) : ∀ ρ k, U_lam1 C ρ k → fLamX 1 (u_lam1 C) ρ k := by
  rintro ⟨sl, n⟩ k ⟨d, p, e, z⟩
  simp only at e
  subst e
  simp [u_lam1, fLamX, fxCall]
  simp [and_assoc, Rho.set, dropOwn, ftLend, fLend, lendR, frz, ow, nList, -forall_exists_index, fBody, fsSeq, fsIf, fsRet, fsNext, fsDrop, fsAsg, fsNever, fsFor, fsOwn, fsPar2, fsPar3, fsPar_od, fsPar_do, fsPar_oo, fVar, fC, fUn, fOp, fChain, fTup, fLst, fCall, faD, faSt, flCons, flNil, fSl, foSome, foNone, fAnd, fOr, fNot, fIf, fOfN, fn1, fnLst, fnCat, fgN, fgTup, fgCons, fgNil, fiSeq, fiRange1, fiRange2, fiEnumA, fiZip, ftOr, ftAnd, ftNot, ftB, ftT, ftYes, truD_b, truD_i, truD_l, truD_t, truD_n, gIx_t0, gIx_t1, gIx_t2, gSl_t, gSl_l, gIsT, notDict, isT, isN, tyName, gLen_t, gLen_l, gTuple_l, gCmp, gAdd_ii, gAdd_ll, PD.gSub, gNeg, gMod, seqD, forD, wipeR, gEqA, gNeA, gEq_ii, gNe_ii, gEq_tt, gIn_ints, gIn_intsL, gNotIn_ints, gNotIn_intsL, fM0, fM1, fJoined, fJ, flStar, starD, fCall0, gIsTX, noInst_n, noInst_b, noInst_i, noInst_s, noInst_l, noInst_t, fFld, fMeth, fMake, faNil, fsFld, fLendO, fDisp, fpCons, fpNil, fDict0, fiAny, walkD, fiOver, dKeys, dVals, dPairs, fsOwnD, fsPut, fOwnIx, fPop, fsExt, fDc, compK, gInX, gNotInX, gIxX, fGet]
  exact ⟨d, p, rfl, z⟩
theorem ok_lam2 : ∀ ρ k, W_lam2 ρ k → fLam 2 w_lam2 ρ k := fun _ _ h => h.elim
theorem okx_lam2 (C C' : Addr) : ∀ ρ k, U_lam2 C C' ρ k → fLamX 2 (u_lam2 C C') ρ k := by
  rintro ⟨sl, n⟩ k ⟨d, r, e, z⟩
  simp only at e
  subst e
  simp [u_lam2, fLamX, fxCall]
  simp [and_assoc, Rho.set, dropOwn, ftLend, fLend, lendR, frz, ow, nList, -forall_exists_index, fBody, fsSeq, fsIf, fsRet, fsNext, fsDrop, fsAsg, fsNever, fsFor, fsOwn, fsPar2, fsPar3, fsPar_od, fsPar_do, fsPar_oo, fVar, fC, fUn, fOp, fChain, fTup, fLst, fCall, faD, faSt, flCons, flNil, fSl, foSome, foNone, fAnd, fOr, fNot, fIf, fOfN, fn1, fnLst, fnCat, fgN, fgTup, fgCons, fgNil, fiSeq, fiRange1, fiRange2, fiEnumA, fiZip, ftOr, ftAnd, ftNot, ftB, ftT, ftYes, truD_b, truD_i, truD_l, truD_t, truD_n, gIx_t0, gIx_t1, gIx_t2, gSl_t, gSl_l, gIsT, notDict, isT, isN, tyName, gLen_t, gLen_l, gTuple_l, gCmp, gAdd_ii, gAdd_ll, PD.gSub, gNeg, gMod, seqD, forD, wipeR, gEqA, gNeA, gEq_ii, gNe_ii, gEq_tt, gIn_ints, gIn_intsL, gNotIn_ints, gNotIn_intsL, fM0, fM1, fJoined, fJ, flStar, starD, fCall0, gIsTX, noInst_n, noInst_b, noInst_i, noInst_s, noInst_l, noInst_t, fFld, fMeth, fMake, faNil, fsFld, fLendO, fDisp, fpCons, fpNil, fDict0, fiAny, walkD, fiOver, dKeys, dVals, dPairs, fsOwnD, fsPut, fOwnIx, fPop, fsExt, fDc, compK, gInX, gNotInX, gIxX, fGet]
  exact ⟨d, r, rfl, z⟩
theorem ok_lam3 : ∀ ρ k, W_lam3 ρ k → fLam 2 w_lam3 ρ k := by
  rintro ⟨sl, n⟩ k ⟨q, T, G, r, e, h, z⟩
  simp only at e
  subst e
  simp [w_lam3, fLam]
  simp [and_assoc, Rho.set, dropOwn, ftLend, fLend, lendR, frz, ow, nList, -forall_exists_index, fBody, fsSeq, fsIf, fsRet, fsNext, fsDrop, fsAsg, fsNever, fsFor, fsOwn, fsPar2, fsPar3, fsPar_od, fsPar_do, fsPar_oo, fVar, fC, fUn, fOp, fChain, fTup, fLst, fCall, faD, faSt, flCons, flNil, fSl, foSome, foNone, fAnd, fOr, fNot, fIf, fOfN, fn1, fnLst, fnCat, fgN, fgTup, fgCons, fgNil, fiSeq, fiRange1, fiRange2, fiEnumA, fiZip, ftOr, ftAnd, ftNot, ftB, ftT, ftYes, truD_b, truD_i, truD_l, truD_t, truD_n, gIx_t0, gIx_t1, gIx_t2, gSl_t, gSl_l, gIsT, notDict, isT, isN, tyName, gLen_t, gLen_l, gTuple_l, gCmp, gAdd_ii, gAdd_ll, PD.gSub, gNeg, gMod, seqD, forD, wipeR, gEqA, gNeA, gEq_ii, gNe_ii, gEq_tt, gIn_ints, gIn_intsL, gNotIn_ints, gNotIn_intsL, fM0, fM1, fJoined, fJ, flStar, starD, fCall0, gIsTX, noInst_n, noInst_b, noInst_i, noInst_s, noInst_l, noInst_t, fFld, fMeth, fMake, faNil, fsFld, fLendO, fDisp, fpCons, fpNil, fDict0, fiAny, walkD, fiOver, dKeys, dVals, dPairs, fsOwnD, fsPut, fOwnIx, fPop, fsExt, fDc, compK, gInX, gNotInX, gIxX, fGet]
  exact ⟨q, T, G, r, rfl, h, z⟩
theorem okx_lam3 (C C' : Addr) : ∀ ρ k, U_lam3 C C' ρ k → fLamX 2 (u_lam3 C C') ρ k := by
  rintro ⟨sl, n⟩ k ⟨d, r, e, z⟩
  simp only at e
  subst e
  simp [u_lam3, fLamX, fxCall]
  simp [and_assoc, Rho.set, dropOwn, ftLend, fLend, lendR, frz, ow, nList, -forall_exists_index, fBody, fsSeq, fsIf, fsRet, fsNext, fsDrop, fsAsg, fsNever, fsFor, fsOwn, fsPar2, fsPar3, fsPar_od, fsPar_do, fsPar_oo, fVar, fC, fUn, fOp, fChain, fTup, fLst, fCall, faD, faSt, flCons, flNil, fSl, foSome, foNone, fAnd, fOr, fNot, fIf, fOfN, fn1, fnLst, fnCat, fgN, fgTup, fgCons, fgNil, fiSeq, fiRange1, fiRange2, fiEnumA, fiZip, ftOr, ftAnd, ftNot, ftB, ftT, ftYes, truD_b, truD_i, truD_l, truD_t, truD_n, gIx_t0, gIx_t1, gIx_t2, gSl_t, gSl_l, gIsT, notDict, isT, isN, tyName, gLen_t, gLen_l, gTuple_l, gCmp, gAdd_ii, gAdd_ll, PD.gSub, gNeg, gMod, seqD, forD, wipeR, gEqA, gNeA, gEq_ii, gNe_ii, gEq_tt, gIn_ints, gIn_intsL, gNotIn_ints, gNotIn_intsL, fM0, fM1, fJoined, fJ, flStar, starD, fCall0, gIsTX, noInst_n, noInst_b, noInst_i, noInst_s, noInst_l, noInst_t, fFld, fMeth, fMake, faNil, fsFld, fLendO, fDisp, fpCons, fpNil, fDict0, fiAny, walkD, fiOver, dKeys, dVals, dPairs, fsOwnD, fsPut, fOwnIx, fPop, fsExt, fDc, compK, gInX, gNotInX, gIxX, fGet]
  exact ⟨d, r, rfl, z⟩
theorem ok_lam4 : ∀ ρ k, W_lam4 ρ k → fLam 2 w_lam4 ρ k := by
  rintro ⟨sl, n⟩ k ⟨q, T, G, r, e, h, z⟩
  simp only at e
  subst e
  simp [w_lam4, fLam]
  simp [and_assoc, Rho.set, dropOwn, ftLend, fLend, lendR, frz, ow, nList, -forall_exists_index, fBody, fsSeq, fsIf, fsRet, fsNext, fsDrop, fsAsg, fsNever, fsFor, fsOwn, fsPar2, fsPar3, fsPar_od, fsPar_do, fsPar_oo, fVar, fC, fUn, fOp, fChain, fTup, fLst, fCall, faD, faSt, flCons, flNil, fSl, foSome, foNone, fAnd, fOr, fNot, fIf, fOfN, fn1, fnLst, fnCat, fgN, fgTup, fgCons, fgNil, fiSeq, fiRange1, fiRange2, fiEnumA, fiZip, ftOr, ftAnd, ftNot, ftB, ftT, ftYes, truD_b, truD_i, truD_l, truD_t, truD_n, gIx_t0, gIx_t1, gIx_t2, gSl_t, gSl_l, gIsT, notDict, isT, isN, tyName, gLen_t, gLen_l, gTuple_l, gCmp, gAdd_ii, gAdd_ll, PD.gSub, gNeg, gMod, seqD, forD, wipeR, gEqA, gNeA, gEq_ii, gNe_ii, gEq_tt, gIn_ints, gIn_intsL, gNotIn_ints, gNotIn_intsL, fM0, fM1, fJoined, fJ, flStar, starD, fCall0, gIsTX, noInst_n, noInst_b, noInst_i, noInst_s, noInst_l, noInst_t, fFld, fMeth, fMake, faNil, fsFld, fLendO, fDisp, fpCons, fpNil, fDict0, fiAny, walkD, fiOver, dKeys, dVals, dPairs, fsOwnD, fsPut, fOwnIx, fPop, fsExt, fDc, compK, gInX, gNotInX, gIxX, fGet]
  exact ⟨q, T, G, r, rfl, h, z⟩
theorem okx_lam4 (C C' : Addr) : ∀ ρ k, U_lam4 C C' ρ k → fLamX 2 (u_lam4 C C') ρ k := by
  rintro ⟨sl, n⟩ k ⟨d, r, e, z⟩
  simp only at e
  subst e
  simp [u_lam4, fLamX, fxCall]
  simp [and_assoc, Rho.set, dropOwn, ftLend, fLend, lendR, frz, ow, nList, -forall_exists_index, fBody, fsSeq, fsIf, fsRet, fsNext, fsDrop, fsAsg, fsNever, fsFor, fsOwn, fsPar2, fsPar3, fsPar_od, fsPar_do, fsPar_oo, fVar, fC, fUn, fOp, fChain, fTup, fLst, fCall, faD, faSt, flCons, flNil, fSl, foSome, foNone, fAnd, fOr, fNot, fIf, fOfN, fn1, fnLst, fnCat, fgN, fgTup, fgCons, fgNil, fiSeq, fiRange1, fiRange2, fiEnumA, fiZip, ftOr, ftAnd, ftNot, ftB, ftT, ftYes, truD_b, truD_i, truD_l, truD_t, truD_n, gIx_t0, gIx_t1, gIx_t2, gSl_t, gSl_l, gIsT, notDict, isT, isN, tyName, gLen_t, gLen_l, gTuple_l, gCmp, gAdd_ii, gAdd_ll, PD.gSub, gNeg, gMod, seqD, forD, wipeR, gEqA, gNeA, gEq_ii, gNe_ii, gEq_tt, gIn_ints, gIn_intsL, gNotIn_ints, gNotIn_intsL, fM0, fM1, fJoined, fJ, flStar, starD, fCall0, gIsTX, noInst_n, noInst_b, noInst_i, noInst_s, noInst_l, noInst_t, fFld, fMeth, fMake, faNil, fsFld, fLendO, fDisp, fpCons, fpNil, fDict0, fiAny, walkD, fiOver, dKeys, dVals, dPairs, fsOwnD, fsPut, fOwnIx, fPop, fsExt, fDc, compK, gInX, gNotInX, gIxX, fGet]
  exact ⟨d, r, rfl, z⟩
theorem ok_lam5 : ∀ ρ k, W_lam5 ρ k → fLam 2 w_lam5 ρ k := by
  rintro ⟨sl, n⟩ k ⟨q, T, G, r, e, h, z⟩
  simp only at e
  subst e
  simp [w_lam5, fLam]
  simp [and_assoc, Rho.set, dropOwn, ftLend, fLend, lendR, frz, ow, nList, -forall_exists_index, fBody, fsSeq, fsIf, fsRet, fsNext, fsDrop, fsAsg, fsNever, fsFor, fsOwn, fsPar2, fsPar3, fsPar_od, fsPar_do, fsPar_oo, fVar, fC, fUn, fOp, fChain, fTup, fLst, fCall, faD, faSt, flCons, flNil, fSl, foSome, foNone, fAnd, fOr, fNot, fIf, fOfN, fn1, fnLst, fnCat, fgN, fgTup, fgCons, fgNil, fiSeq, fiRange1, fiRange2, fiEnumA, fiZip, ftOr, ftAnd, ftNot, ftB, ftT, ftYes, truD_b, truD_i, truD_l, truD_t, truD_n, gIx_t0, gIx_t1, gIx_t2, gSl_t, gSl_l, gIsT, notDict, isT, isN, tyName, gLen_t, gLen_l, gTuple_l, gCmp, gAdd_ii, gAdd_ll, PD.gSub, gNeg, gMod, seqD, forD, wipeR, gEqA, gNeA, gEq_ii, gNe_ii, gEq_tt, gIn_ints, gIn_intsL, gNotIn_ints, gNotIn_intsL, fM0, fM1, fJoined, fJ, flStar, starD, fCall0, gIsTX, noInst_n, noInst_b, noInst_i, noInst_s, noInst_l, noInst_t, fFld, fMeth, fMake, faNil, fsFld, fLendO, fDisp, fpCons, fpNil, fDict0, fiAny, walkD, fiOver, dKeys, dVals, dPairs, fsOwnD, fsPut, fOwnIx, fPop, fsExt, fDc, compK, gInX, gNotInX, gIxX, fGet]
  exact ⟨q, T, G, r, rfl, h, z⟩
theorem okx_lam5 (C C' : Addr) : ∀ ρ k, U_lam5 C C' ρ k → fLamX 2 (u_lam5 C C') ρ k := by
  rintro ⟨sl, n⟩ k ⟨d, r, e, z⟩
  simp only at e
  subst e
  simp [u_lam5, fLamX, fxCall]
  simp [and_assoc, Rho.set, dropOwn, ftLend, fLend, lendR, frz, ow, nList, -forall_exists_index, fBody, fsSeq, fsIf, fsRet, fsNext, fsDrop, fsAsg, fsNever, fsFor, fsOwn, fsPar2, fsPar3, fsPar_od, fsPar_do, fsPar_oo, fVar, fC, fUn, fOp, fChain, fTup, fLst, fCall, faD, faSt, flCons, flNil, fSl, foSome, foNone, fAnd, fOr, fNot, fIf, fOfN, fn1, fnLst, fnCat, fgN, fgTup, fgCons, fgNil, fiSeq, fiRange1, fiRange2, fiEnumA, fiZip, ftOr, ftAnd, ftNot, ftB, ftT, ftYes, truD_b, truD_i, truD_l, truD_t, truD_n, gIx_t0, gIx_t1, gIx_t2, gSl_t, gSl_l, gIsT, notDict, isT, isN, tyName, gLen_t, gLen_l, gTuple_l, gCmp, gAdd_ii, gAdd_ll, PD.gSub, gNeg, gMod, seqD, forD, wipeR, gEqA, gNeA, gEq_ii, gNe_ii, gEq_tt, gIn_ints, gIn_intsL, gNotIn_ints, gNotIn_intsL, fM0, fM1, fJoined, fJ, flStar, starD, fCall0, gIsTX, noInst_n, noInst_b, noInst_i, noInst_s, noInst_l, noInst_t, fFld, fMeth, fMake, faNil, fsFld, fLendO, fDisp, fpCons, fpNil, fDict0, fiAny, walkD, fiOver, dKeys, dVals, dPairs, fsOwnD, fsPut, fOwnIx, fPop, fsExt, fDc, compK, gInX, gNotInX, gIxX, fGet]
  exact ⟨d, r, rfl, z⟩
theorem ok_lam6 : ∀ ρ k, W_lam6 ρ k → fLam 2 w_lam6 ρ k := fun _ _ h => h.elim
theorem okx_lam6 (C C' : Addr) : ∀ ρ k, U_lam6 C C' ρ k → fLamX 2 (u_lam6 C C') ρ k := by
  rintro ⟨sl, n⟩ k ⟨d, r, e, z⟩
  simp only at e
  subst e
  simp [u_lam6, fLamX, fxCall]
  simp [and_assoc, Rho.set, dropOwn, ftLend, fLend, lendR, frz, ow, nList, -forall_exists_index, fBody, fsSeq, fsIf, fsRet, fsNext, fsDrop, fsAsg, fsNever, fsFor, fsOwn, fsPar2, fsPar3, fsPar_od, fsPar_do, fsPar_oo, fVar, fC, fUn, fOp, fChain, fTup, fLst, fCall, faD, faSt, flCons, flNil, fSl, foSome, foNone, fAnd, fOr, fNot, fIf, fOfN, fn1, fnLst, fnCat, fgN, fgTup, fgCons, fgNil, fiSeq, fiRange1, fiRange2, fiEnumA, fiZip, ftOr, ftAnd, ftNot, ftB, ftT, ftYes, truD_b, truD_i, truD_l, truD_t, truD_n, gIx_t0, gIx_t1, gIx_t2, gSl_t, gSl_l, gIsT, notDict, isT, isN, tyName, gLen_t, gLen_l, gTuple_l, gCmp, gAdd_ii, gAdd_ll, PD.gSub, gNeg, gMod, seqD, forD, wipeR, gEqA, gNeA, gEq_ii, gNe_ii, gEq_tt, gIn_ints, gIn_intsL, gNotIn_ints, gNotIn_intsL, fM0, fM1, fJoined, fJ, flStar, starD, fCall0, gIsTX, noInst_n, noInst_b, noInst_i, noInst_s, noInst_l, noInst_t, fFld, fMeth, fMake, faNil, fsFld, fLendO, fDisp, fpCons, fpNil, fDict0, fiAny, walkD, fiOver, dKeys, dVals, dPairs, fsOwnD, fsPut, fOwnIx, fPop, fsExt, fDc, compK, gInX, gNotInX, gIxX, fGet]
  exact ⟨d, r, rfl, z⟩
abbrev s_law_outcome : Stmt := top 33
theorem sc_law_outcome : FnScope ["call", "found", "e"] ["call"] (defScope s_law_outcome) := ⟨rfl, rfl, rfl, by decide +kernel, rfl, by decide +kernel, by decide +kernel⟩
def w_law_outcome (K : PySem.W.Frag) (C_BadKind : Addr) (C_BadWish : Addr) (C_OutOfPlace : Addr) : FS := fsSeq (fsAsg (fC .none) (fgN 1))
  (fsSeq (fsTry K (fsDrop (fCallV 0 (Reg C_BadKind C_BadWish C_OutOfPlace) faNil)) (fxCallV 0 (Reg C_BadKind C_BadWish C_OutOfPlace) faNil) ((.ref C_BadWish, some 2, fun a cls d => fsAsg (fXf a cls d C_BadWish 2 "part") (fgN 1)) :: (.ref C_BadKind, some 2, fun a cls d => fsAsg (fLst (flCons (fXf a cls d C_BadKind 2 "part") (flNil))) (fgN 1)) :: (.ref C_OutOfPlace, none, fun a cls d => fsAsg (fC (.str "place")) (fgN 1)) :: []))
  (fsRet (fVar 1)))
theorem raw_law_outcome {f : Addr} {fd : FuncData} {C_BadKind : Addr} {C_BadWish : Addr} {C_OutOfPlace : Addr} (F : Fun K "_law_outcome" "_law_outcome" s_law_outcome f fd) (T : Txt mg) (m_BadKind : mg "BadKind" = some (.ref C_BadKind)) (m_BadWish : mg "BadWish" = some (.ref C_BadWish)) (m_OutOfPlace : mg "OutOfPlace" = some (.ref C_OutOfPlace)) (XT_BadKind : XfC K C_BadKind) (XA_BadKind_part : PySem.W.findIn K (.ref C_BadKind) "part" = some none) (XT_BadWish : XfC K C_BadWish) (XA_BadWish_part : PySem.W.findIn K (.ref C_BadWish) "part" = some none) (GL : LamsG P w K mg base 8 (MM TT) (Reg C_BadKind C_BadWish C_OutOfPlace)) : FnG P w K mg base (L2.CX P w) (9) f fd ["call"] (spD ⟨K, w, P⟩ (MM TT) 1 (fBody 3 (w_law_outcome K C_BadKind C_BadWish C_OutOfPlace))) := by
  refine fnD F sc_law_outcome fun cdv A outer s H E hgd hr => ?_
  have nd := (sc_law_outcome).nd
  have hu : (A.deeper (envOfC "_law_outcome" (defScope s_law_outcome) s.heap.objs.size f cdv)).units + 64 < cLine := hr.units
  exact pds_cons (pds_asg (pd_non) (pg1_name (i := 1) (pg_name (i := 1) nd rfl (by first | exact Or.inl rfl | exact Or.inr rfl))))
    (pds_cons (pds_try rfl rfl (fun Y W pn xe eY tk po => by subst eY; exact ⟨pds_one (pds_expr (pd_callV0 (GL.mono (by decide)) hgd hr (pv 0))), prs_hd (pr_expr (px_callV0 tk (GL.mono (by decide)) hgd hr (pv 0))) (pds_nil)⟩) (.named (i := 2) ⟨by rfl, by decide, .inl m_BadWish⟩ nd rfl rfl (fun a oe cls d pn hz hf => pds_one (pds_asg (pd_xf XT_BadWish XA_BadWish_part hz hf (pv 2)) (pg1_name (i := 1) (pg_name (i := 1) nd rfl (by first | exact Or.inl rfl | exact Or.inr rfl))))) (.named (i := 2) ⟨by rfl, by decide, .inl m_BadKind⟩ nd rfl rfl (fun a oe cls d pn hz hf => pds_one (pds_asg (pd_lst (pdl_cons (pd_xf XT_BadKind XA_BadKind_part hz hf (pv 2)) (pdl_nil))) (pg1_name (i := 1) (pg_name (i := 1) nd rfl (by first | exact Or.inl rfl | exact Or.inr rfl))))) (.plain ⟨by rfl, by decide, .inl m_OutOfPlace⟩ (fun a oe cls d pn hz hf => pds_one (pds_asg (pd_str) (pg1_name (i := 1) (pg_name (i := 1) nd rfl (by first | exact Or.inl rfl | exact Or.inr rfl))))) (.nil)))))
    (pds_one (pds_ret (pd_var (pv 1)))))
theorem regM (C1 C2 C3 : Addr) : ∀ r ∈ Reg C1 C2 C3, r.Mono := by
  refine List.forall_mem_cons.mpr ⟨⟨mW_lam0, mU_lam0 C2⟩, List.forall_mem_cons.mpr ⟨⟨mW_lam1, mU_lam1 C2⟩, List.forall_mem_cons.mpr ⟨⟨mW_lam2, mU_lam2 C1 C2⟩, List.forall_mem_cons.mpr ⟨⟨mW_lam3, mU_lam3 C2 C3⟩, List.forall_mem_cons.mpr ⟨⟨mW_lam4, mU_lam4 C2 C3⟩, List.forall_mem_cons.mpr ⟨⟨mW_lam5, mU_lam5 C2 C3⟩, List.forall_mem_cons.mpr ⟨⟨mW_lam6, mU_lam6 C1 C2⟩, fun _ h => nomatch h⟩⟩⟩⟩⟩⟩⟩
theorem ok_law_outcome {K : PySem.W.Frag} {C1 C2 C3 : Addr} (t1 : PySem.W.exmOne K (.ref C1) (.ref C1) = some true) (t2 : PySem.W.exmOne K (.ref C2) (.ref C2) = some true) (t3 : PySem.W.exmOne K (.ref C3) (.ref C3) = some true)
    (t12 : PySem.W.exmOne K (.ref C1) (.ref C2) = some false) (t13 : PySem.W.exmOne K (.ref C1) (.ref C3) = some false) (t21 : PySem.W.exmOne K (.ref C2) (.ref C1) = some false) (t23 : PySem.W.exmOne K (.ref C2) (.ref C3) = some false) (t31 : PySem.W.exmOne K (.ref C3) (.ref C1) = some false) (t32 : PySem.W.exmOne K (.ref C3) (.ref C2) = some false) :
    ∀ ρ k, W_law_outcome C1 C2 C3 ρ k → fBody 3 (w_law_outcome K C1 C2 C3) ρ k := by
  rintro ⟨sl, n⟩ k ⟨r, hr, ds, o, e, ⟨h1, h2, h3, h4⟩, z⟩
  simp only at e
  subst e
  have hm := regM _ _ _ r hr
  simp [w_law_outcome, fsTry, fCallV, fxCallV, faNil, ft0]
  simp [and_assoc, Rho.set, dropOwn, ftLend, fLend, lendR, frz, ow, nList, -forall_exists_index, fBody, fsSeq, fsIf, fsRet, fsNext, fsDrop, fsAsg, fsNever, fsFor, fsOwn, fsPar2, fsPar3, fsPar_od, fsPar_do, fsPar_oo, fVar, fC, fUn, fOp, fChain, fTup, fLst, fCall, faD, faSt, flCons, flNil, fSl, foSome, foNone, fAnd, fOr, fNot, fIf, fOfN, fn1, fnLst, fnCat, fgN, fgTup, fgCons, fgNil, fiSeq, fiRange1, fiRange2, fiEnumA, fiZip, ftOr, ftAnd, ftNot, ftB, ftT, ftYes, truD_b, truD_i, truD_l, truD_t, truD_n, gIx_t0, gIx_t1, gIx_t2, gSl_t, gSl_l, gIsT, notDict, isT, isN, tyName, gLen_t, gLen_l, gTuple_l, gCmp, gAdd_ii, gAdd_ll, PD.gSub, gNeg, gMod, seqD, forD, wipeR, gEqA, gNeA, gEq_ii, gNe_ii, gEq_tt, gIn_ints, gIn_intsL, gNotIn_ints, gNotIn_intsL, fM0, fM1, fJoined, fJ, flStar, starD, fCall0, gIsTX, noInst_n, noInst_b, noInst_i, noInst_s, noInst_l, noInst_t, fFld, fMeth, fMake, faNil, fsFld, fLendO, fDisp, fpCons, fpNil, fDict0, fiAny, walkD, fiOver, dKeys, dVals, dPairs, fsOwnD, fsPut, fOwnIx, fPop, fsExt, fDc, compK, gInX, gNotInX, gIxX, fGet]
  rcases h4 with ⟨rfl, hv⟩ | hu
  · refine .inl ⟨⟨r.path, ds, rfl⟩, ds, r, hr, rfl, h1.symm, by simpa using h2, h3, hm.v _ _ _ (fun d ρ' hn => ?_) hv⟩
    have hn : ρ'.n = n := hn
    exact ⟨_, rfl, by rw [hn]; exact z⟩
  · refine .inr ⟨⟨r.path, ds, rfl⟩, ds, r, hr, rfl, h1.symm, by simpa using h2, h3, hm.u _ _ _ (fun c fl ρ' h => ?_) hu⟩
    obtain ⟨hn, h⟩ := h
    have hn : ρ'.n = n := hn
    rcases h with ⟨rfl, p, rfl, rfl⟩ | ⟨rfl, p, rfl, rfl⟩ | ⟨rfl, rfl⟩
    · refine ⟨true, t2, fun _ a d => ⟨rfl, _, .str p, rfl, rfl, ?_⟩, fun h => nomatch h⟩
      simp [and_assoc, Rho.set, dropOwn, ftLend, fLend, lendR, frz, ow, nList, -forall_exists_index, fBody, fsSeq, fsIf, fsRet, fsNext, fsDrop, fsAsg, fsNever, fsFor, fsOwn, fsPar2, fsPar3, fsPar_od, fsPar_do, fsPar_oo, fVar, fC, fUn, fOp, fChain, fTup, fLst, fCall, faD, faSt, flCons, flNil, fSl, foSome, foNone, fAnd, fOr, fNot, fIf, fOfN, fn1, fnLst, fnCat, fgN, fgTup, fgCons, fgNil, fiSeq, fiRange1, fiRange2, fiEnumA, fiZip, ftOr, ftAnd, ftNot, ftB, ftT, ftYes, truD_b, truD_i, truD_l, truD_t, truD_n, gIx_t0, gIx_t1, gIx_t2, gSl_t, gSl_l, gIsT, notDict, isT, isN, tyName, gLen_t, gLen_l, gTuple_l, gCmp, gAdd_ii, gAdd_ll, PD.gSub, gNeg, gMod, seqD, forD, wipeR, gEqA, gNeA, gEq_ii, gNe_ii, gEq_tt, gIn_ints, gIn_intsL, gNotIn_ints, gNotIn_intsL, fM0, fM1, fJoined, fJ, flStar, starD, fCall0, gIsTX, noInst_n, noInst_b, noInst_i, noInst_s, noInst_l, noInst_t, fFld, fMeth, fMake, faNil, fsFld, fLendO, fDisp, fpCons, fpNil, fDict0, fiAny, walkD, fiOver, dKeys, dVals, dPairs, fsOwnD, fsPut, fOwnIx, fPop, fsExt, fDc, compK, gInX, gNotInX, gIxX, fGet]
      rw [hn]
      simp [fsUn]
      exact z
    · refine ⟨false, t12, (fun h => nomatch h), fun _ => ⟨true, t1, fun _ a d => ⟨rfl, _, .str p, rfl, rfl, ?_⟩, fun h => nomatch h⟩⟩
      simp [and_assoc, Rho.set, dropOwn, ftLend, fLend, lendR, frz, ow, nList, -forall_exists_index, fBody, fsSeq, fsIf, fsRet, fsNext, fsDrop, fsAsg, fsNever, fsFor, fsOwn, fsPar2, fsPar3, fsPar_od, fsPar_do, fsPar_oo, fVar, fC, fUn, fOp, fChain, fTup, fLst, fCall, faD, faSt, flCons, flNil, fSl, foSome, foNone, fAnd, fOr, fNot, fIf, fOfN, fn1, fnLst, fnCat, fgN, fgTup, fgCons, fgNil, fiSeq, fiRange1, fiRange2, fiEnumA, fiZip, ftOr, ftAnd, ftNot, ftB, ftT, ftYes, truD_b, truD_i, truD_l, truD_t, truD_n, gIx_t0, gIx_t1, gIx_t2, gSl_t, gSl_l, gIsT, notDict, isT, isN, tyName, gLen_t, gLen_l, gTuple_l, gCmp, gAdd_ii, gAdd_ll, PD.gSub, gNeg, gMod, seqD, forD, wipeR, gEqA, gNeA, gEq_ii, gNe_ii, gEq_tt, gIn_ints, gIn_intsL, gNotIn_ints, gNotIn_intsL, fM0, fM1, fJoined, fJ, flStar, starD, fCall0, gIsTX, noInst_n, noInst_b, noInst_i, noInst_s, noInst_l, noInst_t, fFld, fMeth, fMake, faNil, fsFld, fLendO, fDisp, fpCons, fpNil, fDict0, fiAny, walkD, fiOver, dKeys, dVals, dPairs, fsOwnD, fsPut, fOwnIx, fPop, fsExt, fDc, compK, gInX, gNotInX, gIxX, fGet]
      rw [hn]
      simp [fsUn]
      exact z
    · refine ⟨false, t32, (fun h => nomatch h), fun _ => ⟨false, t31, (fun h => nomatch h), fun _ => ⟨true, t3, fun _ a d => ?_, fun h => nomatch h⟩⟩⟩
      simp [and_assoc, Rho.set, dropOwn, ftLend, fLend, lendR, frz, ow, nList, -forall_exists_index, fBody, fsSeq, fsIf, fsRet, fsNext, fsDrop, fsAsg, fsNever, fsFor, fsOwn, fsPar2, fsPar3, fsPar_od, fsPar_do, fsPar_oo, fVar, fC, fUn, fOp, fChain, fTup, fLst, fCall, faD, faSt, flCons, flNil, fSl, foSome, foNone, fAnd, fOr, fNot, fIf, fOfN, fn1, fnLst, fnCat, fgN, fgTup, fgCons, fgNil, fiSeq, fiRange1, fiRange2, fiEnumA, fiZip, ftOr, ftAnd, ftNot, ftB, ftT, ftYes, truD_b, truD_i, truD_l, truD_t, truD_n, gIx_t0, gIx_t1, gIx_t2, gSl_t, gSl_l, gIsT, notDict, isT, isN, tyName, gLen_t, gLen_l, gTuple_l, gCmp, gAdd_ii, gAdd_ll, PD.gSub, gNeg, gMod, seqD, forD, wipeR, gEqA, gNeA, gEq_ii, gNe_ii, gEq_tt, gIn_ints, gIn_intsL, gNotIn_ints, gNotIn_intsL, fM0, fM1, fJoined, fJ, flStar, starD, fCall0, gIsTX, noInst_n, noInst_b, noInst_i, noInst_s, noInst_l, noInst_t, fFld, fMeth, fMake, faNil, fsFld, fLendO, fDisp, fpCons, fpNil, fDict0, fiAny, walkD, fiOver, dKeys, dVals, dPairs, fsOwnD, fsPut, fOwnIx, fPop, fsExt, fDc, compK, gInX, gNotInX, gIxX, fGet]
      rw [hn]
      exact z
theorem noCs_all {κ : Nat} : ∀ {l : List D}, (∀ x ∈ l, noC κ x = true) → noCs κ l = true
  | [], _ => rfl
  | x :: l, h => by
    unfold noCs
    rw [h x List.mem_cons_self, noCs_all fun y hy => h y (List.mem_cons_of_mem _ hy)]
    rfl
theorem noC_tupI {κ : Nat} (ns : List Int) : noC κ (tupI ns) = true := noCs_all fun x hx => by
  obtain ⟨i, _, rfl⟩ := List.mem_map.mp hx
  rfl
theorem noC_tupT {κ : Nat} (T : List (List Int)) : noC κ (tupT T) = true := noCs_all fun x hx => by
  obtain ⟨i, _, rfl⟩ := List.mem_map.mp hx
  exact noC_tupI i
theorem noC_wish {κ : Nat} (q : Int) (T : List (List Int)) (G : List Int) : noC κ (wishD q T G) = true := by
  show (true && (noC κ (tupT T) && (noC κ (tupI G) && true))) = true
  rw [noC_tupT, noC_tupI]
  rfl
abbrev pairD (x : D × Str) : D := .tuple [x.1, .str x.2]
def W_law_kinds_right (C1 C2 C3 : Addr) : FE := fun ρ k => ∃ q T G, ρ.sl = [.d (wishD q T G)] ∧ WOK q T G ∧ k (.bool true) ρ
theorem mW_law_kinds_right (C1 C2 C3 : Addr) (ρ : Rho) (k k' : KD) (hM : ∀ d ρ', k d ρ' → k' d ρ') (z : W_law_kinds_right C1 C2 C3 ρ k) : W_law_kinds_right C1 C2 C3 ρ k' := by
  obtain ⟨q, T, G, e1, e2, e3⟩ := z
  exact ⟨q, T, G, e1, e2, hM _ _ e3⟩
theorem mem0 (C1 C2 C3 : Addr) : (⟨[34, 100, 0, 0], 0, 1, W_lam0, U_lam0 C2⟩ : LReg) ∈ Reg C1 C2 C3 := .head _
theorem mem1 (C1 C2 C3 : Addr) : (⟨[34, 101, 0, 1], 0, 1, W_lam1, U_lam1 C2⟩ : LReg) ∈ Reg C1 C2 C3 := .tail _ (.head _)
theorem mem2 (C1 C2 C3 : Addr) : (⟨[34, 102, 0, 1], 0, 2, W_lam2, U_lam2 C1 C2⟩ : LReg) ∈ Reg C1 C2 C3 := .tail _ (.tail _ (.head _))
theorem mem3 (C1 C2 C3 : Addr) : (⟨[34, 103, 0, 1], 0, 2, W_lam3, U_lam3 C2 C3⟩ : LReg) ∈ Reg C1 C2 C3 := .tail _ (.tail _ (.tail _ (.head _)))
theorem mem4 (C1 C2 C3 : Addr) : (⟨[34, 104, 0, 1], 0, 2, W_lam4, U_lam4 C2 C3⟩ : LReg) ∈ Reg C1 C2 C3 := .tail _ (.tail _ (.tail _ (.tail _ (.head _))))
theorem mem5 (C1 C2 C3 : Addr) : (⟨[34, 105, 0, 1], 0, 2, W_lam5, U_lam5 C2 C3⟩ : LReg) ∈ Reg C1 C2 C3 := .tail _ (.tail _ (.tail _ (.tail _ (.tail _ (.head _)))))
theorem mem6 (C1 C2 C3 : Addr) : (⟨[36, 104, 100, 0, 0, 1], 0, 2, W_lam6, U_lam6 C1 C2⟩ : LReg) ∈ Reg C1 C2 C3 := .tail _ (.tail _ (.tail _ (.tail _ (.tail _ (.tail _ (.head _))))))
theorem gEq_self {d : D} (h : tame d = true) (hd : d.depth ≤ 60) : gEq d d = some (.bool true) := by
  unfold gEq
  rw [if_pos ⟨shaped_tame h hd, shaped_tame h hd⟩, eqv_self d (tame_all d h).2.2.1]
theorem kinds_loop {C1 C2 C3 : Addr} {q : Int} {T : List (List Int)} {G : List Int} (w : WOK q T G) {L y : Sl} {n : Nat} {P : Post} : ∀ (l : List (D × Str)) (a b : Sl), (∀ x ∈ l, okK x.1 ∧ kindErr q x.1 = some x.2 ∧ noC 36 x.1 = true ∧ PyData.strOk x.2 = true) → (∀ a b, P.nx ⟨[.d (wishD q T G), L, a, b, y], n⟩) →
    forD (fgTup 2 (fgCons (fgN 2) (fgCons (fgN 3) (fgNil)))) (b_law_kinds_right_1 C1 C2 C3) (l.map pairD) ⟨[.d (wishD q T G), L, a, b, y], n⟩ P := by
  intro l
  induction l with
  | nil => intro a b _ h; exact h a b
  | cons x l ih =>
    intro a b hl h
    obtain ⟨h1, h2, h3, h4⟩ := hl x List.mem_cons_self
    have ht : tame (.list [.str x.2]) = true := by show (PyData.strOk x.2 && true) = true; rw [h4]; rfl
    have hd : (PyData.list [.str x.2]).depth ≤ 60 := by simp [PyData.depth, PyData.depthAll]
    rw [List.map_cons]
    unfold forD
    simp [b_law_kinds_right_1]
    simp [and_assoc, Rho.set, dropOwn, ftLend, fLend, lendR, frz, ow, nList, -forall_exists_index, fBody, fsSeq, fsIf, fsRet, fsNext, fsDrop, fsAsg, fsNever, fsFor, fsOwn, fsPar2, fsPar3, fsPar_od, fsPar_do, fsPar_oo, fVar, fC, fUn, fOp, fChain, fTup, fLst, fCall, faD, faSt, flCons, flNil, fSl, foSome, foNone, fAnd, fOr, fNot, fIf, fOfN, fn1, fnLst, fnCat, fgN, fgTup, fgCons, fgNil, fiSeq, fiRange1, fiRange2, fiEnumA, fiZip, ftOr, ftAnd, ftNot, ftB, ftT, ftYes, truD_b, truD_i, truD_l, truD_t, truD_n, gIx_t0, gIx_t1, gIx_t2, gSl_t, gSl_l, gIsT, notDict, isT, isN, tyName, gLen_t, gLen_l, gTuple_l, gCmp, gAdd_ii, gAdd_ll, PD.gSub, gNeg, gMod, seqD, forD, wipeR, gEqA, gNeA, gEq_ii, gNe_ii, gEq_tt, gIn_ints, gIn_intsL, gNotIn_ints, gNotIn_intsL, fM0, fM1, fJoined, fJ, flStar, starD, fCall0, gIsTX, noInst_n, noInst_b, noInst_i, noInst_s, noInst_l, noInst_t, fFld, fMeth, fMake, faNil, fsFld, fLendO, fDisp, fpCons, fpNil, fDict0, fiAny, walkD, fiOver, dKeys, dVals, dPairs, fsOwnD, fsPut, fOwnIx, fPop, fsExt, fDc, compK, gInX, gNotInX, gIxX, fGet]
    refine ⟨[wishD q T G, x.1], rfl, rfl, _, mem6 C1 C2 C3, [wishD q T G, x.1], .list [.str x.2], rfl, ⟨rfl, rfl, ?_, ?_⟩, rfl, .str x.2, rfl, .bool false, gNe_self ht hd, .inl ⟨rfl, ?_⟩⟩
    · show (noC 36 (wishD q T G) && (noC 36 x.1 && true)) = true
      rw [noC_wish, h3]
      rfl
    · exact .inr ⟨wishD q T G, x.1, rfl, .inr ⟨q, T, G, rfl, w, h1, x.2, h2, rfl, .inr (.inl ⟨rfl, x.2, rfl, rfl⟩)⟩⟩
    · exact ih _ _ (fun z hz => hl z (List.mem_cons_of_mem _ hz)) h
theorem asc_q (q : Int) : ascB (.tuple [.int q]) q = false := by
  have : numsB (.tuple [.int q]) q = false := by
    show (decide (0 ≤ q ∧ 0 ≤ q ∧ q ≤ q - 1) && true) = false
    rw [decide_eq_false (by omega)]
    rfl
  unfold ascB
  rw [this]
  rfl
def upI (q : Int) : List Int := (List.range q.toNat).map fun i : Nat => (i : Int)
theorem kinds_tail {C1 C2 C3 : Addr} {q : Int} {T : List (List Int)} {G : List Int} (w : WOK q T G) {n : Nat} {P : Post} (l : List (D × Str)) (hl : ∀ x ∈ l, okK x.1 ∧ kindErr q x.1 = some x.2 ∧ noC 36 x.1 = true ∧ PyData.strOk x.2 = true) (h : ∀ ρ', ρ'.n = n → P.rt (.bool true) ρ') :
    c_law_kinds_right_4 C1 C2 C3 ⟨[.d (wishD q T G), .d (.list (l.map pairD)), .no, .no, .no], n⟩ P := by
  unfold c_law_kinds_right_4
  simp [and_assoc, Rho.set, dropOwn, ftLend, fLend, lendR, frz, ow, nList, -forall_exists_index, fBody, fsSeq, fsIf, fsRet, fsNext, fsDrop, fsAsg, fsNever, fsFor, fsOwn, fsPar2, fsPar3, fsPar_od, fsPar_do, fsPar_oo, fVar, fC, fUn, fOp, fChain, fTup, fLst, fCall, faD, faSt, flCons, flNil, fSl, foSome, foNone, fAnd, fOr, fNot, fIf, fOfN, fn1, fnLst, fnCat, fgN, fgTup, fgCons, fgNil, fiSeq, fiRange1, fiRange2, fiEnumA, fiZip, ftOr, ftAnd, ftNot, ftB, ftT, ftYes, truD_b, truD_i, truD_l, truD_t, truD_n, gIx_t0, gIx_t1, gIx_t2, gSl_t, gSl_l, gIsT, notDict, isT, isN, tyName, gLen_t, gLen_l, gTuple_l, gCmp, gAdd_ii, gAdd_ll, PD.gSub, gNeg, gMod, seqD, forD, wipeR, gEqA, gNeA, gEq_ii, gNe_ii, gEq_tt, gIn_ints, gIn_intsL, gNotIn_ints, gNotIn_intsL, fM0, fM1, fJoined, fJ, flStar, starD, fCall0, gIsTX, noInst_n, noInst_b, noInst_i, noInst_s, noInst_l, noInst_t, fFld, fMeth, fMake, faNil, fsFld, fLendO, fDisp, fpCons, fpNil, fDict0, fiAny, walkD, fiOver, dKeys, dVals, dPairs, fsOwnD, fsPut, fOwnIx, fPop, fsExt, fDc, compK, gInX, gNotInX, gIxX, fGet]
  refine kinds_loop w l _ _ hl fun a b => ?_
  unfold c_law_kinds_right_5
  simp [and_assoc, Rho.set, dropOwn, ftLend, fLend, lendR, frz, ow, nList, -forall_exists_index, fBody, fsSeq, fsIf, fsRet, fsNext, fsDrop, fsAsg, fsNever, fsFor, fsOwn, fsPar2, fsPar3, fsPar_od, fsPar_do, fsPar_oo, fVar, fC, fUn, fOp, fChain, fTup, fLst, fCall, faD, faSt, flCons, flNil, fSl, foSome, foNone, fAnd, fOr, fNot, fIf, fOfN, fn1, fnLst, fnCat, fgN, fgTup, fgCons, fgNil, fiSeq, fiRange1, fiRange2, fiEnumA, fiZip, ftOr, ftAnd, ftNot, ftB, ftT, ftYes, truD_b, truD_i, truD_l, truD_t, truD_n, gIx_t0, gIx_t1, gIx_t2, gSl_t, gSl_l, gIsT, notDict, isT, isN, tyName, gLen_t, gLen_l, gTuple_l, gCmp, gAdd_ii, gAdd_ll, PD.gSub, gNeg, gMod, seqD, forD, wipeR, gEqA, gNeA, gEq_ii, gNe_ii, gEq_tt, gIn_ints, gIn_intsL, gNotIn_ints, gNotIn_intsL, fM0, fM1, fJoined, fJ, flStar, starD, fCall0, gIsTX, noInst_n, noInst_b, noInst_i, noInst_s, noInst_l, noInst_t, fFld, fMeth, fMake, faNil, fsFld, fLendO, fDisp, fpCons, fpNil, fDict0, fiAny, walkD, fiOver, dKeys, dVals, dPairs, fsOwnD, fsPut, fOwnIx, fPop, fsExt, fDc, compK, gInX, gNotInX, gIxX, fGet]
  unfold c_law_kinds_right_6
  simp [and_assoc, Rho.set, dropOwn, ftLend, fLend, lendR, frz, ow, nList, -forall_exists_index, fBody, fsSeq, fsIf, fsRet, fsNext, fsDrop, fsAsg, fsNever, fsFor, fsOwn, fsPar2, fsPar3, fsPar_od, fsPar_do, fsPar_oo, fVar, fC, fUn, fOp, fChain, fTup, fLst, fCall, faD, faSt, flCons, flNil, fSl, foSome, foNone, fAnd, fOr, fNot, fIf, fOfN, fn1, fnLst, fnCat, fgN, fgTup, fgCons, fgNil, fiSeq, fiRange1, fiRange2, fiEnumA, fiZip, ftOr, ftAnd, ftNot, ftB, ftT, ftYes, truD_b, truD_i, truD_l, truD_t, truD_n, gIx_t0, gIx_t1, gIx_t2, gSl_t, gSl_l, gIsT, notDict, isT, isN, tyName, gLen_t, gLen_l, gTuple_l, gCmp, gAdd_ii, gAdd_ll, PD.gSub, gNeg, gMod, seqD, forD, wipeR, gEqA, gNeA, gEq_ii, gNe_ii, gEq_tt, gIn_ints, gIn_intsL, gNotIn_ints, gNotIn_intsL, fM0, fM1, fJoined, fJ, flStar, starD, fCall0, gIsTX, noInst_n, noInst_b, noInst_i, noInst_s, noInst_l, noInst_t, fFld, fMeth, fMake, faNil, fsFld, fLendO, fDisp, fpCons, fpNil, fDict0, fiAny, walkD, fiOver, dKeys, dVals, dPairs, fsOwnD, fsPut, fOwnIx, fPop, fsExt, fDc, compK, gInX, gNotInX, gIxX, fGet]
  have q1 := w.q1
  have q4 := w.q4
  have m : ∀ x ∈ upI q, 0 ≤ x ∧ x ≤ q - 1 := fun x hx => by
    obtain ⟨i, hi, rfl⟩ := List.mem_map.mp hx
    have := List.mem_range.mp hi
    omega
  refine ⟨tupI (upI q), ?_, q, T, G, 3, 2, upI q, rfl, ⟨w, ⟨by decide, by decide, by decide, by decide, ?_, m⟩⟩, .bool true, gEq_self ?_ ?_, h _ rfl⟩
  · show (if 0 ≤ q ∧ q ≤ 1000000 then some (PyData.tuple ((List.range q.toNat).map fun i : Nat => .int (i : Int))) else none) = _
    rw [if_pos ⟨by omega, by omega⟩]
    show some (PyData.tuple _) = some (PyData.tuple ((List.map _ _).map _))
    rw [List.map_map]
    rfl
  · unfold upI
    rw [List.pairwise_map]
    exact List.pairwise_lt_range.imp fun h => by omega
  · show (true && (true && (tameAll ((upI q).map .int) && true))) = true
    rw [tame_ints fun x hx => by have := m x hx; omega]
    rfl
  · simp [PyData.depth, PyData.depthAll]
    rw [depth_ints]
    omega
theorem ok_law_kinds_right {C1 C2 C3 : Addr} : ∀ ρ k, W_law_kinds_right C1 C2 C3 ρ k → fBody 5 (w_law_kinds_right C1 C2 C3) ρ k := by
  rintro ⟨sl, n⟩ k ⟨q, T, G, e, w, z⟩
  simp only at e
  subst e
  simp [w_law_kinds_right]
  simp [and_assoc, Rho.set, dropOwn, ftLend, fLend, lendR, frz, ow, nList, -forall_exists_index, fBody, fsSeq, fsIf, fsRet, fsNext, fsDrop, fsAsg, fsNever, fsFor, fsOwn, fsPar2, fsPar3, fsPar_od, fsPar_do, fsPar_oo, fVar, fC, fUn, fOp, fChain, fTup, fLst, fCall, faD, faSt, flCons, flNil, fSl, foSome, foNone, fAnd, fOr, fNot, fIf, fOfN, fn1, fnLst, fnCat, fgN, fgTup, fgCons, fgNil, fiSeq, fiRange1, fiRange2, fiEnumA, fiZip, ftOr, ftAnd, ftNot, ftB, ftT, ftYes, truD_b, truD_i, truD_l, truD_t, truD_n, gIx_t0, gIx_t1, gIx_t2, gSl_t, gSl_l, gIsT, notDict, isT, isN, tyName, gLen_t, gLen_l, gTuple_l, gCmp, gAdd_ii, gAdd_ll, PD.gSub, gNeg, gMod, seqD, forD, wipeR, gEqA, gNeA, gEq_ii, gNe_ii, gEq_tt, gIn_ints, gIn_intsL, gNotIn_ints, gNotIn_intsL, fM0, fM1, fJoined, fJ, flStar, starD, fCall0, gIsTX, noInst_n, noInst_b, noInst_i, noInst_s, noInst_l, noInst_t, fFld, fMeth, fMake, faNil, fsFld, fLendO, fDisp, fpCons, fpNil, fDict0, fiAny, walkD, fiOver, dKeys, dVals, dPairs, fsOwnD, fsPut, fOwnIx, fPop, fsExt, fDc, compK, gInX, gNotInX, gIxX, fGet]
  unfold c_law_kinds_right_1
  simp [and_assoc, Rho.set, dropOwn, ftLend, fLend, lendR, frz, ow, nList, -forall_exists_index, fBody, fsSeq, fsIf, fsRet, fsNext, fsDrop, fsAsg, fsNever, fsFor, fsOwn, fsPar2, fsPar3, fsPar_od, fsPar_do, fsPar_oo, fVar, fC, fUn, fOp, fChain, fTup, fLst, fCall, faD, faSt, flCons, flNil, fSl, foSome, foNone, fAnd, fOr, fNot, fIf, fOfN, fn1, fnLst, fnCat, fgN, fgTup, fgCons, fgNil, fiSeq, fiRange1, fiRange2, fiEnumA, fiZip, ftOr, ftAnd, ftNot, ftB, ftT, ftYes, truD_b, truD_i, truD_l, truD_t, truD_n, gIx_t0, gIx_t1, gIx_t2, gSl_t, gSl_l, gIsT, notDict, isT, isN, tyName, gLen_t, gLen_l, gTuple_l, gCmp, gAdd_ii, gAdd_ll, PD.gSub, gNeg, gMod, seqD, forD, wipeR, gEqA, gNeA, gEq_ii, gNe_ii, gEq_tt, gIn_ints, gIn_intsL, gNotIn_ints, gNotIn_intsL, fM0, fM1, fJoined, fJ, flStar, starD, fCall0, gIsTX, noInst_n, noInst_b, noInst_i, noInst_s, noInst_l, noInst_t, fFld, fMeth, fMake, faNil, fsFld, fLendO, fDisp, fpCons, fpNil, fDict0, fiAny, walkD, fiOver, dKeys, dVals, dPairs, fsOwnD, fsPut, fOwnIx, fPop, fsExt, fDc, compK, gInX, gNotInX, gIxX, fGet]
  refine fnComp_i ?_
  simp [and_assoc, Rho.set, dropOwn, ftLend, fLend, lendR, frz, ow, nList, -forall_exists_index, fBody, fsSeq, fsIf, fsRet, fsNext, fsDrop, fsAsg, fsNever, fsFor, fsOwn, fsPar2, fsPar3, fsPar_od, fsPar_do, fsPar_oo, fVar, fC, fUn, fOp, fChain, fTup, fLst, fCall, faD, faSt, flCons, flNil, fSl, foSome, foNone, fAnd, fOr, fNot, fIf, fOfN, fn1, fnLst, fnCat, fgN, fgTup, fgCons, fgNil, fiSeq, fiRange1, fiRange2, fiEnumA, fiZip, ftOr, ftAnd, ftNot, ftB, ftT, ftYes, truD_b, truD_i, truD_l, truD_t, truD_n, gIx_t0, gIx_t1, gIx_t2, gSl_t, gSl_l, gIsT, notDict, isT, isN, tyName, gLen_t, gLen_l, gTuple_l, gCmp, gAdd_ii, gAdd_ll, PD.gSub, gNeg, gMod, seqD, forD, wipeR, gEqA, gNeA, gEq_ii, gNe_ii, gEq_tt, gIn_ints, gIn_intsL, gNotIn_ints, gNotIn_intsL, fM0, fM1, fJoined, fJ, flStar, starD, fCall0, gIsTX, noInst_n, noInst_b, noInst_i, noInst_s, noInst_l, noInst_t, fFld, fMeth, fMake, faNil, fsFld, fLendO, fDisp, fpCons, fpNil, fDict0, fiAny, walkD, fiOver, dKeys, dVals, dPairs, fsOwnD, fsPut, fOwnIx, fPop, fsExt, fDc, compK, gInX, gNotInX, gIxX, fGet]
  refine comp_allD (fun x => pairD (.tuple [x, .int 0, .tuple []], "hold")) _ (fun x _ kt h => by simp [and_assoc, Rho.set, dropOwn, ftLend, fLend, lendR, frz, ow, nList, -forall_exists_index, fBody, fsSeq, fsIf, fsRet, fsNext, fsDrop, fsAsg, fsNever, fsFor, fsOwn, fsPar2, fsPar3, fsPar_od, fsPar_do, fsPar_oo, fVar, fC, fUn, fOp, fChain, fTup, fLst, fCall, faD, faSt, flCons, flNil, fSl, foSome, foNone, fAnd, fOr, fNot, fIf, fOfN, fn1, fnLst, fnCat, fgN, fgTup, fgCons, fgNil, fiSeq, fiRange1, fiRange2, fiEnumA, fiZip, ftOr, ftAnd, ftNot, ftB, ftT, ftYes, truD_b, truD_i, truD_l, truD_t, truD_n, gIx_t0, gIx_t1, gIx_t2, gSl_t, gSl_l, gIsT, notDict, isT, isN, tyName, gLen_t, gLen_l, gTuple_l, gCmp, gAdd_ii, gAdd_ll, PD.gSub, gNeg, gMod, seqD, forD, wipeR, gEqA, gNeA, gEq_ii, gNe_ii, gEq_tt, gIn_ints, gIn_intsL, gNotIn_ints, gNotIn_intsL, fM0, fM1, fJoined, fJ, flStar, starD, fCall0, gIsTX, noInst_n, noInst_b, noInst_i, noInst_s, noInst_l, noInst_t, fFld, fMeth, fMake, faNil, fsFld, fLendO, fDisp, fpCons, fpNil, fDict0, fiAny, walkD, fiOver, dKeys, dVals, dPairs, fsOwnD, fsPut, fOwnIx, fPop, fsExt, fDc, compK, gInX, gNotInX, gIxX, fGet]; exact h _ rfl) ⟨by simp [sizeLine_eq], ?_⟩
  unfold c_law_kinds_right_2
  simp [and_assoc, Rho.set, dropOwn, ftLend, fLend, lendR, frz, ow, nList, -forall_exists_index, fBody, fsSeq, fsIf, fsRet, fsNext, fsDrop, fsAsg, fsNever, fsFor, fsOwn, fsPar2, fsPar3, fsPar_od, fsPar_do, fsPar_oo, fVar, fC, fUn, fOp, fChain, fTup, fLst, fCall, faD, faSt, flCons, flNil, fSl, foSome, foNone, fAnd, fOr, fNot, fIf, fOfN, fn1, fnLst, fnCat, fgN, fgTup, fgCons, fgNil, fiSeq, fiRange1, fiRange2, fiEnumA, fiZip, ftOr, ftAnd, ftNot, ftB, ftT, ftYes, truD_b, truD_i, truD_l, truD_t, truD_n, gIx_t0, gIx_t1, gIx_t2, gSl_t, gSl_l, gIsT, notDict, isT, isN, tyName, gLen_t, gLen_l, gTuple_l, gCmp, gAdd_ii, gAdd_ll, PD.gSub, gNeg, gMod, seqD, forD, wipeR, gEqA, gNeA, gEq_ii, gNe_ii, gEq_tt, gIn_ints, gIn_intsL, gNotIn_ints, gNotIn_intsL, fM0, fM1, fJoined, fJ, flStar, starD, fCall0, gIsTX, noInst_n, noInst_b, noInst_i, noInst_s, noInst_l, noInst_t, fFld, fMeth, fMake, faNil, fsFld, fLendO, fDisp, fpCons, fpNil, fDict0, fiAny, walkD, fiOver, dKeys, dVals, dPairs, fsOwnD, fsPut, fOwnIx, fPop, fsExt, fDc, compK, gInX, gNotInX, gIxX, fGet]
  refine fnComp_i ?_
  simp [and_assoc, Rho.set, dropOwn, ftLend, fLend, lendR, frz, ow, nList, -forall_exists_index, fBody, fsSeq, fsIf, fsRet, fsNext, fsDrop, fsAsg, fsNever, fsFor, fsOwn, fsPar2, fsPar3, fsPar_od, fsPar_do, fsPar_oo, fVar, fC, fUn, fOp, fChain, fTup, fLst, fCall, faD, faSt, flCons, flNil, fSl, foSome, foNone, fAnd, fOr, fNot, fIf, fOfN, fn1, fnLst, fnCat, fgN, fgTup, fgCons, fgNil, fiSeq, fiRange1, fiRange2, fiEnumA, fiZip, ftOr, ftAnd, ftNot, ftB, ftT, ftYes, truD_b, truD_i, truD_l, truD_t, truD_n, gIx_t0, gIx_t1, gIx_t2, gSl_t, gSl_l, gIsT, notDict, isT, isN, tyName, gLen_t, gLen_l, gTuple_l, gCmp, gAdd_ii, gAdd_ll, PD.gSub, gNeg, gMod, seqD, forD, wipeR, gEqA, gNeA, gEq_ii, gNe_ii, gEq_tt, gIn_ints, gIn_intsL, gNotIn_ints, gNotIn_intsL, fM0, fM1, fJoined, fJ, flStar, starD, fCall0, gIsTX, noInst_n, noInst_b, noInst_i, noInst_s, noInst_l, noInst_t, fFld, fMeth, fMake, faNil, fsFld, fLendO, fDisp, fpCons, fpNil, fDict0, fiAny, walkD, fiOver, dKeys, dVals, dPairs, fsOwnD, fsPut, fOwnIx, fPop, fsExt, fDc, compK, gInX, gNotInX, gIxX, fGet]
  refine comp_allD (fun x => pairD (.tuple [.int 3, x, .tuple []], "ahead")) _ (fun x _ kt h => by simp [and_assoc, Rho.set, dropOwn, ftLend, fLend, lendR, frz, ow, nList, -forall_exists_index, fBody, fsSeq, fsIf, fsRet, fsNext, fsDrop, fsAsg, fsNever, fsFor, fsOwn, fsPar2, fsPar3, fsPar_od, fsPar_do, fsPar_oo, fVar, fC, fUn, fOp, fChain, fTup, fLst, fCall, faD, faSt, flCons, flNil, fSl, foSome, foNone, fAnd, fOr, fNot, fIf, fOfN, fn1, fnLst, fnCat, fgN, fgTup, fgCons, fgNil, fiSeq, fiRange1, fiRange2, fiEnumA, fiZip, ftOr, ftAnd, ftNot, ftB, ftT, ftYes, truD_b, truD_i, truD_l, truD_t, truD_n, gIx_t0, gIx_t1, gIx_t2, gSl_t, gSl_l, gIsT, notDict, isT, isN, tyName, gLen_t, gLen_l, gTuple_l, gCmp, gAdd_ii, gAdd_ll, PD.gSub, gNeg, gMod, seqD, forD, wipeR, gEqA, gNeA, gEq_ii, gNe_ii, gEq_tt, gIn_ints, gIn_intsL, gNotIn_ints, gNotIn_intsL, fM0, fM1, fJoined, fJ, flStar, starD, fCall0, gIsTX, noInst_n, noInst_b, noInst_i, noInst_s, noInst_l, noInst_t, fFld, fMeth, fMake, faNil, fsFld, fLendO, fDisp, fpCons, fpNil, fDict0, fiAny, walkD, fiOver, dKeys, dVals, dPairs, fsOwnD, fsPut, fOwnIx, fPop, fsExt, fDc, compK, gInX, gNotInX, gIxX, fGet]; exact h _ rfl) ⟨by simp [sizeLine_eq], ?_⟩
  unfold c_law_kinds_right_3
  simp [and_assoc, Rho.set, dropOwn, ftLend, fLend, lendR, frz, ow, nList, -forall_exists_index, fBody, fsSeq, fsIf, fsRet, fsNext, fsDrop, fsAsg, fsNever, fsFor, fsOwn, fsPar2, fsPar3, fsPar_od, fsPar_do, fsPar_oo, fVar, fC, fUn, fOp, fChain, fTup, fLst, fCall, faD, faSt, flCons, flNil, fSl, foSome, foNone, fAnd, fOr, fNot, fIf, fOfN, fn1, fnLst, fnCat, fgN, fgTup, fgCons, fgNil, fiSeq, fiRange1, fiRange2, fiEnumA, fiZip, ftOr, ftAnd, ftNot, ftB, ftT, ftYes, truD_b, truD_i, truD_l, truD_t, truD_n, gIx_t0, gIx_t1, gIx_t2, gSl_t, gSl_l, gIsT, notDict, isT, isN, tyName, gLen_t, gLen_l, gTuple_l, gCmp, gAdd_ii, gAdd_ll, PD.gSub, gNeg, gMod, seqD, forD, wipeR, gEqA, gNeA, gEq_ii, gNe_ii, gEq_tt, gIn_ints, gIn_intsL, gNotIn_ints, gNotIn_intsL, fM0, fM1, fJoined, fJ, flStar, starD, fCall0, gIsTX, noInst_n, noInst_b, noInst_i, noInst_s, noInst_l, noInst_t, fFld, fMeth, fMake, faNil, fsFld, fLendO, fDisp, fpCons, fpNil, fDict0, fiAny, walkD, fiOver, dKeys, dVals, dPairs, fsOwnD, fsPut, fOwnIx, fPop, fsExt, fDc, compK, gInX, gNotInX, gIxX, fGet]
  refine fnComp_i ?_
  simp [and_assoc, Rho.set, dropOwn, ftLend, fLend, lendR, frz, ow, nList, -forall_exists_index, fBody, fsSeq, fsIf, fsRet, fsNext, fsDrop, fsAsg, fsNever, fsFor, fsOwn, fsPar2, fsPar3, fsPar_od, fsPar_do, fsPar_oo, fVar, fC, fUn, fOp, fChain, fTup, fLst, fCall, faD, faSt, flCons, flNil, fSl, foSome, foNone, fAnd, fOr, fNot, fIf, fOfN, fn1, fnLst, fnCat, fgN, fgTup, fgCons, fgNil, fiSeq, fiRange1, fiRange2, fiEnumA, fiZip, ftOr, ftAnd, ftNot, ftB, ftT, ftYes, truD_b, truD_i, truD_l, truD_t, truD_n, gIx_t0, gIx_t1, gIx_t2, gSl_t, gSl_l, gIsT, notDict, isT, isN, tyName, gLen_t, gLen_l, gTuple_l, gCmp, gAdd_ii, gAdd_ll, PD.gSub, gNeg, gMod, seqD, forD, wipeR, gEqA, gNeA, gEq_ii, gNe_ii, gEq_tt, gIn_ints, gIn_intsL, gNotIn_ints, gNotIn_intsL, fM0, fM1, fJoined, fJ, flStar, starD, fCall0, gIsTX, noInst_n, noInst_b, noInst_i, noInst_s, noInst_l, noInst_t, fFld, fMeth, fMake, faNil, fsFld, fLendO, fDisp, fpCons, fpNil, fDict0, fiAny, walkD, fiOver, dKeys, dVals, dPairs, fsOwnD, fsPut, fOwnIx, fPop, fsExt, fDc, compK, gInX, gNotInX, gIxX, fGet]
  refine comp_allD (fun x => pairD (.tuple [.int 0, .int 2, x], "loose")) _ (fun x _ kt h => by simp [and_assoc, Rho.set, dropOwn, ftLend, fLend, lendR, frz, ow, nList, -forall_exists_index, fBody, fsSeq, fsIf, fsRet, fsNext, fsDrop, fsAsg, fsNever, fsFor, fsOwn, fsPar2, fsPar3, fsPar_od, fsPar_do, fsPar_oo, fVar, fC, fUn, fOp, fChain, fTup, fLst, fCall, faD, faSt, flCons, flNil, fSl, foSome, foNone, fAnd, fOr, fNot, fIf, fOfN, fn1, fnLst, fnCat, fgN, fgTup, fgCons, fgNil, fiSeq, fiRange1, fiRange2, fiEnumA, fiZip, ftOr, ftAnd, ftNot, ftB, ftT, ftYes, truD_b, truD_i, truD_l, truD_t, truD_n, gIx_t0, gIx_t1, gIx_t2, gSl_t, gSl_l, gIsT, notDict, isT, isN, tyName, gLen_t, gLen_l, gTuple_l, gCmp, gAdd_ii, gAdd_ll, PD.gSub, gNeg, gMod, seqD, forD, wipeR, gEqA, gNeA, gEq_ii, gNe_ii, gEq_tt, gIn_ints, gIn_intsL, gNotIn_ints, gNotIn_intsL, fM0, fM1, fJoined, fJ, flStar, starD, fCall0, gIsTX, noInst_n, noInst_b, noInst_i, noInst_s, noInst_l, noInst_t, fFld, fMeth, fMake, faNil, fsFld, fLendO, fDisp, fpCons, fpNil, fDict0, fiAny, walkD, fiOver, dKeys, dVals, dPairs, fsOwnD, fsPut, fOwnIx, fPop, fsExt, fDc, compK, gInX, gNotInX, gIxX, fGet]; exact h _ rfl) ⟨by simp [sizeLine_eq], ?_⟩
  refine kinds_tail w [(.none, "form"), (.tuple [], "form"), (.tuple [.int 0, .int 0], "form"), (.tuple [.int 0, .int 0, .tuple [], .int 0], "form"), (.list [.int 0, .int 0, .tuple []], "form"),
    (.tuple [.int (-1), .int 0, .tuple []], "hold"), (.tuple [.int 4, .int 0, .tuple []], "hold"), (.tuple [.none, .int 0, .tuple []], "hold"), (.tuple [.bool true, .int 0, .tuple []], "hold"), (.tuple [.str "0", .int 0, .tuple []], "hold"),
    (.tuple [.int 3, .int (-1), .tuple []], "ahead"), (.tuple [.int 3, .int 3, .tuple []], "ahead"), (.tuple [.int 3, .none, .tuple []], "ahead"), (.tuple [.int 3, .bool true, .tuple []], "ahead"), (.tuple [.int 3, .str "0", .tuple []], "ahead"),
    (.tuple [.int 0, .int 2, .none], "loose"), (.tuple [.int 0, .int 2, .list []], "loose"), (.tuple [.int 0, .int 2, .tuple [.int q]], "loose"), (.tuple [.int 0, .int 2, .tuple [.int 0, .int 0]], "loose"), (.tuple [.int 0, .int 2, .tuple [.bool true]], "loose"), (.tuple [.int 0, .int 2, .tuple [.str "0"]], "loose"), (.tuple [.int 0, .int 2, .tuple [.int (-1)]], "loose"), (.tuple [.int 0, .int 2, .int 0], "loose")] ?_ fun ρ' e => by
    have e : ρ'.n = n := e
    show k _ ⟨_, ρ'.n⟩
    rw [e]
    exact z
  · have q1 := w.q1
    repeat' (refine List.forall_mem_cons.mpr ⟨⟨?_, ?_, ?_, ?_⟩, ?_⟩)
    all_goals first | exact (fun _ h => absurd h List.not_mem_nil) | rfl | decide +kernel | (simp [kindErr, kindErr3, intB, ascB, numsB, risB, intsOfD, okK, okD, noInst]; done) | skip
    · show kindErr3 q (.int 0) (.int 2) (.tuple [.int q]) = some "loose"
      unfold kindErr3
      rw [asc_q]
      rfl
    · show PyData.strOk "loose" = true
      decide +kernel
def W_law_wishes_right (C1 C2 C3 : Addr) : FE := fun ρ k => ∃ q T G, ρ.sl = [.d (wishD q T G)] ∧ WOK q T G ∧ k (.bool true) ρ
theorem mW_law_wishes_right (C1 C2 C3 : Addr) (ρ : Rho) (k k' : KD) (hM : ∀ d ρ', k d ρ' → k' d ρ') (z : W_law_wishes_right C1 C2 C3 ρ k) : W_law_wishes_right C1 C2 C3 ρ k' := by
  obtain ⟨q, T, G, e1, e2, e3⟩ := z
  exact ⟨q, T, G, e1, e2, hM _ _ e3⟩
abbrev s_law_wishes_right : Stmt := top 35
theorem sc_law_wishes_right : FnScope ["want", "deeds", "rows", "good", "odds", "odd", "bent", "word", "call"] ["want"] (defScope s_law_wishes_right) := ⟨rfl, rfl, rfl, by decide +kernel, rfl, by decide +kernel, by decide +kernel⟩
def b_law_wishes_right_1 (C_BadKind : Addr) (C_BadWish : Addr) (C_OutOfPlace : Addr) : FS := (fun ρ P => (∃ xs : List D, ρ.sl[4]? = some (Sl.own xs)) ∧ fsApp 4 (fTup (flCons (fTup (flCons (fVar 1) (flCons (fVar 2) (flCons (fVar 5) (flNil))))) (flCons (fC (.str "good")) (flNil)))) ρ P)
def b_law_wishes_right_2 (C_BadKind : Addr) (C_BadWish : Addr) (C_OutOfPlace : Addr) : FS := fsIf (ftB (fOp gNeA (fOfN (fnComp (fiSeq (fCall 2 W_law_calls (faD (flCons (fVar 5) (flCons (fC .none) (flNil)))))) (fgN 8) (ftYes) (fCall 1 (W_law_outcome C_BadKind C_BadWish C_OutOfPlace) (faD (flCons (fVar 8) (flNil)))) [8])) (fOp gMulX (fLst (flCons (fVar 7) (flNil))) (fC (.int 6))))) (fsRet (fC (.bool false))) (fsNext)
def c_law_wishes_right_8 (C_BadKind : Addr) (C_BadWish : Addr) (C_OutOfPlace : Addr) : FS := fsRet (fC (.bool true))
def c_law_wishes_right_7 (C_BadKind : Addr) (C_BadWish : Addr) (C_OutOfPlace : Addr) : FS := fsSeq ((fun ρ P => (fsFor (fiSeq (fVar 4)) (fgTup 2 (fgCons (fgN 5) (fgCons (fgN 7) (fgNil)))) (b_law_wishes_right_2 C_BadKind C_BadWish C_OutOfPlace)) (frz 4 ρ) P))
  (c_law_wishes_right_8 C_BadKind C_BadWish C_OutOfPlace)
def c_law_wishes_right_6 (C_BadKind : Addr) (C_BadWish : Addr) (C_OutOfPlace : Addr) : FS := fsSeq (fsFor (fiSeq (fLst (flCons (fC .none) (flCons (fTup (flNil)) (flCons (fOfN (fn1 nList (fVar 3))) (flCons (fOp gAdd (fVar 3) (fTup (flCons (fUn gLen (fVar 2)) (flNil)))) (flCons (fOp gAdd (fVar 3) (fTup (flCons (fC (.int 0)) (flNil)))) (flCons (fTup (flCons (fC (.bool true)) (flNil))) (flCons (fTup (flCons (fC (.str "0")) (flNil))) (flCons (fTup (flCons (fC (.int 1)) (flNil))) (flCons (fTup (flCons (fUn gNeg (fC (.int 1))) (flCons (fC (.int 0)) (flNil)))) (flNil)))))))))))) (fgN 5) (b_law_wishes_right_1 C_BadKind C_BadWish C_OutOfPlace))
  (c_law_wishes_right_7 C_BadKind C_BadWish C_OutOfPlace)
def c_law_wishes_right_5 (C_BadKind : Addr) (C_BadWish : Addr) (C_OutOfPlace : Addr) : FS := fsSeq ((fun ρ P => (fsOwn 4 (fnCat (fVar 4) (fOfN (fnComp (fiSeq (fVar 6)) (fgN 5) (ftYes) (fTup (flCons (fTup (flCons (fVar 1) (flCons (fVar 5) (flCons (fVar 3) (flNil))))) (flCons (fC (.str "steps")) (flNil)))) [5])))) (frz 4 ρ) P))
  (c_law_wishes_right_6 C_BadKind C_BadWish C_OutOfPlace)
def c_law_wishes_right_4 (C_BadKind : Addr) (C_BadWish : Addr) (C_OutOfPlace : Addr) : FS := fsSeq (fsAsg (fOp gAdd (fVar 6) (fLst (flCons (fOp gMulX (fTup (flCons (fOp gMulX (fTup (flCons (fC (.int 0)) (flNil))) (fVar 1)) (flNil))) (fC (.int 7))) (flCons (fTup (flCons (fOp gMulX (fTup (flCons (fUn gNeg (fC (.int 1))) (flNil))) (fVar 1)) (flNil))) (flCons (fTup (flCons (fOp gMulX (fTup (flCons (fC (.str "0")) (flNil))) (fVar 1)) (flNil))) (flCons (fTup (flCons (fOp gMulX (fTup (flCons (fC (.int 0)) (flNil))) (fVar 1)) (flCons (fC .none) (flNil)))) (flNil))))))) (fgN 6))
  (c_law_wishes_right_5 C_BadKind C_BadWish C_OutOfPlace)
def c_law_wishes_right_3 (C_BadKind : Addr) (C_BadWish : Addr) (C_OutOfPlace : Addr) : FS := fsSeq (fsAsg (fLst (flCons (fC .none) (flCons (fTup (flNil)) (flCons (fOfN (fn1 nList (fVar 2))) (flCons (fTup (flCons (fC (.int 0)) (flNil))) (flCons (fTup (flCons (fOp gMulX (fLst (flCons (fC (.int 0)) (flNil))) (fVar 1)) (flNil))) (flCons (fTup (flCons (fOp gMulX (fTup (flCons (fC (.int 0)) (flNil))) (fOp gAdd (fVar 1) (fC (.int 1)))) (flNil))) (flCons (fTup (flCons (fOp gMulX (fTup (flCons (fC (.int 1)) (flNil))) (fVar 1)) (flNil))) (flCons (fTup (flCons (fOp gMulX (fTup (flCons (fC (.bool true)) (flNil))) (fVar 1)) (flNil))) (flNil)))))))))) (fgN 6))
  (c_law_wishes_right_4 C_BadKind C_BadWish C_OutOfPlace)
def c_law_wishes_right_2 (C_BadKind : Addr) (C_BadWish : Addr) (C_OutOfPlace : Addr) : FS := fsSeq ((fun ρ P => (fsOwn 4 (fnCat (fVar 4) (fOfN (fnComp (fiSeq (fTup (flCons (fC (.int 0)) (flCons (fC (.int 5)) (flCons (fC .none) (flCons (fC (.bool true)) (flCons (fC (.str "1")) (flCons (fUn gNeg (fC (.int 1))) (flNil))))))))) (fgN 5) (ftYes) (fTup (flCons (fTup (flCons (fVar 5) (flCons (fVar 2) (flCons (fVar 3) (flNil))))) (flCons (fC (.str "deeds")) (flNil)))) [5])))) (frz 4 ρ) P))
  (c_law_wishes_right_3 C_BadKind C_BadWish C_OutOfPlace)
def c_law_wishes_right_1 (C_BadKind : Addr) (C_BadWish : Addr) (C_OutOfPlace : Addr) : FS := fsSeq (fsOwn 4 (fnLst (flCons (fTup (flCons (fC .none) (flCons (fC (.str "form")) (flNil)))) (flCons (fTup (flCons (fTup (flNil)) (flCons (fC (.str "form")) (flNil)))) (flCons (fTup (flCons (fSl gSl (fVar 0) (foNone) (foSome (fC (.int 2)))) (flCons (fC (.str "form")) (flNil)))) (flCons (fTup (flCons (fOp gAdd (fVar 0) (fTup (flCons (fC (.int 0)) (flNil)))) (flCons (fC (.str "form")) (flNil)))) (flCons (fTup (flCons (fOfN (fn1 nList (fVar 0))) (flCons (fC (.str "form")) (flNil)))) (flCons (fTup (flCons (fC (.str "")) (flCons (fC (.str "form")) (flNil)))) (flNil)))))))))
  (c_law_wishes_right_2 C_BadKind C_BadWish C_OutOfPlace)
def w_law_wishes_right (C_BadKind : Addr) (C_BadWish : Addr) (C_OutOfPlace : Addr) : FS := fsSeq (fsAsg (fVar 0) (fgTup 3 (fgCons (fgN 1) (fgCons (fgN 2) (fgCons (fgN 3) (fgNil))))))
  (c_law_wishes_right_1 C_BadKind C_BadWish C_OutOfPlace)
theorem raw_law_wishes_right {f : Addr} {fd : FuncData} {a_law_outcome : Addr} {d_law_outcome : FuncData} {a_law_calls : Addr} {d_law_calls : FuncData} {C_BadKind : Addr} {C_BadWish : Addr} {C_OutOfPlace : Addr} (F : Fun K "_law_wishes_right" "_law_wishes_right" s_law_wishes_right f fd) (T : Txt mg) (g_law_outcome : mg "_law_outcome" = some (.ref a_law_outcome)) (g_law_calls : mg "_law_calls" = some (.ref a_law_calls)) (G_law_outcome : FnG P w K mg base (L2.CX P w) 9 a_law_outcome d_law_outcome ["call"] (spD ⟨K, w, P⟩ (MM TT) 1 (W_law_outcome C_BadKind C_BadWish C_OutOfPlace))) (b_law_outcome : Binds K d_law_outcome ["call"] []) (k_law_outcome : PySem.W.keepIn K (.ref a_law_outcome) = true) (G_law_calls : FnG P w K mg base (L2.CX P w) 8 a_law_calls d_law_calls ["want", "thing"] (spD ⟨K, w, P⟩ (MM TT) 2 W_law_calls)) (b_law_calls : Binds K d_law_calls ["want", "thing"] []) (k_law_calls : PySem.W.keepIn K (.ref a_law_calls) = true) : FnG P w K mg base (L2.CX P w) (10) f fd ["want"] (spD ⟨K, w, P⟩ (MM TT) 1 (fBody 9 (w_law_wishes_right C_BadKind C_BadWish C_OutOfPlace))) := by
  refine fnD F sc_law_wishes_right fun cdv A outer s H E hgd hr => ?_
  have nd := (sc_law_wishes_right).nd
  have hu : (A.deeper (envOfC "_law_wishes_right" (defScope s_law_wishes_right) s.heap.objs.size f cdv)).units + 64 < cLine := hr.units
  exact pds_cons (pds_asg (pd_var (pv 0)) (pg1_tup (pgn_cons (pg1_name (i := 1) (pg_name (i := 1) nd rfl (by first | exact Or.inl rfl | exact Or.inr rfl))) (pgn_cons (pg1_name (i := 2) (pg_name (i := 2) nd rfl (by first | exact Or.inl rfl | exact Or.inr rfl))) (pgn_cons (pg1_name (i := 3) (pg_name (i := 3) nd rfl (by first | exact Or.inl rfl | exact Or.inr rfl))) (pgn_nil) (pgs_cons (pg1_name (i := 3) (pg_name (i := 3) nd rfl (by first | exact Or.inl rfl | exact Or.inr rfl))).pg (pgn_nil).pg)) (pgs_cons (pg1_name (i := 2) (pg_name (i := 2) nd rfl (by first | exact Or.inl rfl | exact Or.inr rfl))).pg (pgn_cons (pg1_name (i := 3) (pg_name (i := 3) nd rfl (by first | exact Or.inl rfl | exact Or.inr rfl))) (pgn_nil) (pgs_cons (pg1_name (i := 3) (pg_name (i := 3) nd rfl (by first | exact Or.inl rfl | exact Or.inr rfl))).pg (pgn_nil).pg)).pg)) (pgs_cons (pg1_name (i := 1) (pg_name (i := 1) nd rfl (by first | exact Or.inl rfl | exact Or.inr rfl))).pg (pgn_cons (pg1_name (i := 2) (pg_name (i := 2) nd rfl (by first | exact Or.inl rfl | exact Or.inr rfl))) (pgn_cons (pg1_name (i := 3) (pg_name (i := 3) nd rfl (by first | exact Or.inl rfl | exact Or.inr rfl))) (pgn_nil) (pgs_cons (pg1_name (i := 3) (pg_name (i := 3) nd rfl (by first | exact Or.inl rfl | exact Or.inr rfl))).pg (pgn_nil).pg)) (pgs_cons (pg1_name (i := 2) (pg_name (i := 2) nd rfl (by first | exact Or.inl rfl | exact Or.inr rfl))).pg (pgn_cons (pg1_name (i := 3) (pg_name (i := 3) nd rfl (by first | exact Or.inl rfl | exact Or.inr rfl))) (pgn_nil) (pgs_cons (pg1_name (i := 3) (pg_name (i := 3) nd rfl (by first | exact Or.inl rfl | exact Or.inr rfl))).pg (pgn_nil).pg)).pg)).pg)) (pg_tup rfl (pgn_cons (pg1_name (i := 1) (pg_name (i := 1) nd rfl (by first | exact Or.inl rfl | exact Or.inr rfl))) (pgn_cons (pg1_name (i := 2) (pg_name (i := 2) nd rfl (by first | exact Or.inl rfl | exact Or.inr rfl))) (pgn_cons (pg1_name (i := 3) (pg_name (i := 3) nd rfl (by first | exact Or.inl rfl | exact Or.inr rfl))) (pgn_nil) (pgs_cons (pg1_name (i := 3) (pg_name (i := 3) nd rfl (by first | exact Or.inl rfl | exact Or.inr rfl))).pg (pgn_nil).pg)) (pgs_cons (pg1_name (i := 2) (pg_name (i := 2) nd rfl (by first | exact Or.inl rfl | exact Or.inr rfl))).pg (pgn_cons (pg1_name (i := 3) (pg_name (i := 3) nd rfl (by first | exact Or.inl rfl | exact Or.inr rfl))) (pgn_nil) (pgs_cons (pg1_name (i := 3) (pg_name (i := 3) nd rfl (by first | exact Or.inl rfl | exact Or.inr rfl))).pg (pgn_nil).pg)).pg)) (pgs_cons (pg1_name (i := 1) (pg_name (i := 1) nd rfl (by first | exact Or.inl rfl | exact Or.inr rfl))).pg (pgn_cons (pg1_name (i := 2) (pg_name (i := 2) nd rfl (by first | exact Or.inl rfl | exact Or.inr rfl))) (pgn_cons (pg1_name (i := 3) (pg_name (i := 3) nd rfl (by first | exact Or.inl rfl | exact Or.inr rfl))) (pgn_nil) (pgs_cons (pg1_name (i := 3) (pg_name (i := 3) nd rfl (by first | exact Or.inl rfl | exact Or.inr rfl))).pg (pgn_nil).pg)) (pgs_cons (pg1_name (i := 2) (pg_name (i := 2) nd rfl (by first | exact Or.inl rfl | exact Or.inr rfl))).pg (pgn_cons (pg1_name (i := 3) (pg_name (i := 3) nd rfl (by first | exact Or.inl rfl | exact Or.inr rfl))) (pgn_nil) (pgs_cons (pg1_name (i := 3) (pg_name (i := 3) nd rfl (by first | exact Or.inl rfl | exact Or.inr rfl))).pg (pgn_nil).pg)).pg)).pg)).pg)))
    (pds_cons (pds_own (i := 4) (pn_lst (pdl_cons (pd_tup (pdl_cons (pd_non) (pdl_cons (pd_str) (pdl_nil)))) (pdl_cons (pd_tup (pdl_cons (pd_tup (pdl_nil)) (pdl_cons (pd_str) (pdl_nil)))) (pdl_cons (pd_tup (pdl_cons (pd_slice (pd_var (pv 0)) (pdo_none) (pdo_some (pd_int))) (pdl_cons (pd_str) (pdl_nil)))) (pdl_cons (pd_tup (pdl_cons (pd_op op_addA rd_add (pd_var (pv 0)) (pd_tup (pdl_cons (pd_int) (pdl_nil)))) (pdl_cons (pd_str) (pdl_nil)))) (pdl_cons (pd_tup (pdl_cons (pd_ofN (pn_t1 call_list_of rn_list (by rfl) T.list (by decide +kernel) (pd_var (pv 0)))) (pdl_cons (pd_str) (pdl_nil)))) (pdl_cons (pd_tup (pdl_cons (pd_str) (pdl_cons (pd_str) (pdl_nil)))) (pdl_nil)))))))) (pg_name (i := 4) nd rfl (by first | exact Or.inl rfl | exact Or.inr rfl)))
    (pds_cons (pds_frz1 4 (pds_own (i := 4) (pn_cat (pd_var (pv 4)) (pd_ofN (pn_lc rfl nd (own := [("odd", 5)]) (vs := [5]) (pdi_seq (pd_tup (pdl_cons (pd_int) (pdl_cons (pd_int) (pdl_cons (pd_non) (pdl_cons (pd_bl) (pdl_cons (pd_str) (pdl_cons (pd_un un_neg r1_neg (pd_int)) (pdl_nil))))))))) (blkOk_by (own := [("odd", 5)]) (N := ["want", "deeds", "rows", "good", "odds", "odd", "bent", "word", "call"]) (sc := defScope s_law_wishes_right) (by decide +kernel)) rfl (fun _ _ _ _ _ => pg1_name (i := 5) (pg_name (i := 5) nd rfl (by first | exact Or.inl rfl | exact Or.inr rfl))) (fun _ _ _ _ _ => ptn_nil) (fun _ _ _ _ _ => pd_tup (pdl_cons (pd_tup (pdl_cons (pd_var (pv 5)) (pdl_cons (pd_var (pv 2)) (pdl_cons (pd_var (pv 3)) (pdl_nil))))) (pdl_cons (pd_str) (pdl_nil)))) s))) (pg_name (i := 4) nd rfl (by first | exact Or.inl rfl | exact Or.inr rfl))))
    (pds_cons (pds_asg (pd_lst (pdl_cons (pd_non) (pdl_cons (pd_tup (pdl_nil)) (pdl_cons (pd_ofN (pn_t1 call_list_of rn_list (by rfl) T.list (by decide +kernel) (pd_var (pv 2)))) (pdl_cons (pd_tup (pdl_cons (pd_int) (pdl_nil))) (pdl_cons (pd_tup (pdl_cons (pd_op op_mulX rd_mulX (pd_lst (pdl_cons (pd_int) (pdl_nil))) (pd_var (pv 1))) (pdl_nil))) (pdl_cons (pd_tup (pdl_cons (pd_op op_mulX rd_mulX (pd_tup (pdl_cons (pd_int) (pdl_nil))) (pd_op op_addA rd_add (pd_var (pv 1)) (pd_int))) (pdl_nil))) (pdl_cons (pd_tup (pdl_cons (pd_op op_mulX rd_mulX (pd_tup (pdl_cons (pd_int) (pdl_nil))) (pd_var (pv 1))) (pdl_nil))) (pdl_cons (pd_tup (pdl_cons (pd_op op_mulX rd_mulX (pd_tup (pdl_cons (pd_bl) (pdl_nil))) (pd_var (pv 1))) (pdl_nil))) (pdl_nil)))))))))) (pg1_name (i := 6) (pg_name (i := 6) nd rfl (by first | exact Or.inl rfl | exact Or.inr rfl))))
    (pds_cons (pds_asg (pd_op op_addA rd_add (pd_var (pv 6)) (pd_lst (pdl_cons (pd_op op_mulX rd_mulX (pd_tup (pdl_cons (pd_op op_mulX rd_mulX (pd_tup (pdl_cons (pd_int) (pdl_nil))) (pd_var (pv 1))) (pdl_nil))) (pd_int)) (pdl_cons (pd_tup (pdl_cons (pd_op op_mulX rd_mulX (pd_tup (pdl_cons (pd_un un_neg r1_neg (pd_int)) (pdl_nil))) (pd_var (pv 1))) (pdl_nil))) (pdl_cons (pd_tup (pdl_cons (pd_op op_mulX rd_mulX (pd_tup (pdl_cons (pd_str) (pdl_nil))) (pd_var (pv 1))) (pdl_nil))) (pdl_cons (pd_tup (pdl_cons (pd_op op_mulX rd_mulX (pd_tup (pdl_cons (pd_int) (pdl_nil))) (pd_var (pv 1))) (pdl_cons (pd_non) (pdl_nil)))) (pdl_nil))))))) (pg1_name (i := 6) (pg_name (i := 6) nd rfl (by first | exact Or.inl rfl | exact Or.inr rfl))))
    (pds_cons (pds_frz1 4 (pds_own (i := 4) (pn_cat (pd_var (pv 4)) (pd_ofN (pn_lc rfl nd (own := [("odd", 5)]) (vs := [5]) (pdi_seq (pd_var (pv 6))) (blkOk_by (own := [("odd", 5)]) (N := ["want", "deeds", "rows", "good", "odds", "odd", "bent", "word", "call"]) (sc := defScope s_law_wishes_right) (by decide +kernel)) rfl (fun _ _ _ _ _ => pg1_name (i := 5) (pg_name (i := 5) nd rfl (by first | exact Or.inl rfl | exact Or.inr rfl))) (fun _ _ _ _ _ => ptn_nil) (fun _ _ _ _ _ => pd_tup (pdl_cons (pd_tup (pdl_cons (pd_var (pv 1)) (pdl_cons (pd_var (pv 5)) (pdl_cons (pd_var (pv 3)) (pdl_nil))))) (pdl_cons (pd_str) (pdl_nil)))) s))) (pg_name (i := 4) nd rfl (by first | exact Or.inl rfl | exact Or.inr rfl))))
    (pds_cons (pds_for (fs := b_law_wishes_right_1 C_BadKind C_BadWish C_OutOfPlace) PassesOwn.never rfl (pdi_seq (pd_lst (pdl_cons (pd_non) (pdl_cons (pd_tup (pdl_nil)) (pdl_cons (pd_ofN (pn_t1 call_list_of rn_list (by rfl) T.list (by decide +kernel) (pd_var (pv 3)))) (pdl_cons (pd_op op_addA rd_add (pd_var (pv 3)) (pd_tup (pdl_cons (pd_b1 call_lenA r1_len (by rfl) T.len (by decide +kernel) (pd_var (pv 2))) (pdl_nil)))) (pdl_cons (pd_op op_addA rd_add (pd_var (pv 3)) (pd_tup (pdl_cons (pd_int) (pdl_nil)))) (pdl_cons (pd_tup (pdl_cons (pd_bl) (pdl_nil))) (pdl_cons (pd_tup (pdl_cons (pd_str) (pdl_nil))) (pdl_cons (pd_tup (pdl_cons (pd_int) (pdl_nil))) (pdl_cons (pd_tup (pdl_cons (pd_un un_neg r1_neg (pd_int)) (pdl_cons (pd_int) (pdl_nil)))) (pdl_nil)))))))))))) (pg1_name (i := 5) (pg_name (i := 5) nd rfl (by first | exact Or.inl rfl | exact Or.inr rfl))) (pds_one (pds_app (i := 4) (pd_tup (pdl_cons (pd_tup (pdl_cons (pd_var (pv 1)) (pdl_cons (pd_var (pv 2)) (pdl_cons (pd_var (pv 5)) (pdl_nil))))) (pdl_cons (pd_str) (pdl_nil)))) (pe_bm PySem.F.plainAttrs_list PySem.F.slot_list_append PySem.F.type_list_append mt_append (pv 4) (pa_cons (pd_tup (pdl_cons (pd_tup (pdl_cons (pd_var (pv 1)) (pdl_cons (pd_var (pv 2)) (pdl_cons (pd_var (pv 5)) (pdl_nil))))) (pdl_cons (pd_str) (pdl_nil)))).pe pa_nil)))))
    (pds_cons (pds_frz1 4 (pds_for (fs := b_law_wishes_right_2 C_BadKind C_BadWish C_OutOfPlace) PassesOwn.never rfl (pdi_seq (pd_var (pv 4))) (pg1_tup (pgn_cons (pg1_name (i := 5) (pg_name (i := 5) nd rfl (by first | exact Or.inl rfl | exact Or.inr rfl))) (pgn_cons (pg1_name (i := 7) (pg_name (i := 7) nd rfl (by first | exact Or.inl rfl | exact Or.inr rfl))) (pgn_nil) (pgs_cons (pg1_name (i := 7) (pg_name (i := 7) nd rfl (by first | exact Or.inl rfl | exact Or.inr rfl))).pg (pgn_nil).pg)) (pgs_cons (pg1_name (i := 5) (pg_name (i := 5) nd rfl (by first | exact Or.inl rfl | exact Or.inr rfl))).pg (pgn_cons (pg1_name (i := 7) (pg_name (i := 7) nd rfl (by first | exact Or.inl rfl | exact Or.inr rfl))) (pgn_nil) (pgs_cons (pg1_name (i := 7) (pg_name (i := 7) nd rfl (by first | exact Or.inl rfl | exact Or.inr rfl))).pg (pgn_nil).pg)).pg)) (pg_tup rfl (pgn_cons (pg1_name (i := 5) (pg_name (i := 5) nd rfl (by first | exact Or.inl rfl | exact Or.inr rfl))) (pgn_cons (pg1_name (i := 7) (pg_name (i := 7) nd rfl (by first | exact Or.inl rfl | exact Or.inr rfl))) (pgn_nil) (pgs_cons (pg1_name (i := 7) (pg_name (i := 7) nd rfl (by first | exact Or.inl rfl | exact Or.inr rfl))).pg (pgn_nil).pg)) (pgs_cons (pg1_name (i := 5) (pg_name (i := 5) nd rfl (by first | exact Or.inl rfl | exact Or.inr rfl))).pg (pgn_cons (pg1_name (i := 7) (pg_name (i := 7) nd rfl (by first | exact Or.inl rfl | exact Or.inr rfl))) (pgn_nil) (pgs_cons (pg1_name (i := 7) (pg_name (i := 7) nd rfl (by first | exact Or.inl rfl | exact Or.inr rfl))).pg (pgn_nil).pg)).pg)).pg)) (pds_one (pds_if (pdt_cmp (op_neA hu) rd_neA (pd_ofN (pn_lc rfl nd (own := [("call", 8)]) (vs := [8]) (pdi_seq (pd_call mW_law_calls (G_law_calls.mono (by decide)) hgd hr (by rfl) g_law_calls k_law_calls b_law_calls (pda_d (pdl_cons (pd_var (pv 5)) (pdl_cons (pd_non) (pdl_nil)))))) (blkOk_by (own := [("call", 8)]) (N := ["want", "deeds", "rows", "good", "odds", "odd", "bent", "word", "call"]) (sc := defScope s_law_wishes_right) (by decide +kernel)) rfl (fun _ _ _ _ _ => pg1_name (i := 8) (pg_name (i := 8) nd rfl (by first | exact Or.inl rfl | exact Or.inr rfl))) (fun _ _ _ _ _ => ptn_nil) (fun _ _ _ _ _ => pd_call (mW_law_outcome C_BadKind C_BadWish C_OutOfPlace) (G_law_outcome.mono (by decide)) hgd hr (by rfl) g_law_outcome k_law_outcome b_law_outcome (pda_d (pdl_cons (pd_var (pv 8)) (pdl_nil)))) s)) (pd_op op_mulX rd_mulX (pd_lst (pdl_cons (pd_var (pv 7)) (pdl_nil))) (pd_int)) (by first | exact nomark _ | rfl)) (pds_one (pds_ret (pd_bl))) (pds_nil)))))
    (pds_one (pds_ret (pd_bl))))))))))
def callsL (d t : D) : List D := [cloD [34, 100, 0, 0] [d], cloD [34, 101, 0, 1] [d], cloD [34, 102, 0, 1] [d, t], cloD [34, 103, 0, 1] [d, t], cloD [34, 104, 0, 1] [d, t], cloD [34, 105, 0, 1] [d, t]]
/-- each call of a bad wish says what is bad -/
theorem out_wish {C1 C2 C3 : Addr} {d : D} {p : Str} {ρ : Rho} {k : KD} (h1 : okW d) (h2 : wishErr d = some p) (h3 : noC 34 d = true) {y : D} (hy : y ∈ callsL d .none) (hs : ρ.sl = [.d y]) (z : k (.str p) ρ) : W_law_outcome C1 C2 C3 ρ k := by
  obtain ⟨sl, n⟩ := ρ
  simp only at hs
  subst hs
  have o1 : (([d] : List D).map Sl.d).all (okC 34) = true := by show (noC 34 d && true) = true; rw [h3]; rfl
  have o2 : (([d, .none] : List D).map Sl.d).all (okC 34) = true := by show (noC 34 d && (true && true)) = true; rw [h3]; rfl
  have u0 : ∀ n, U_need_wish C2 ⟨[.d d], n⟩ fun c fl ρ' => ρ'.n = n ∧ ((c = .ref C2 ∧ ∃ p' : Str, fl = [(.str "part", .str p')] ∧ (PyData.str p : D) = .str p') ∨ (c = .ref C1 ∧ ∃ p' : Str, fl = [(.str "part", .str p')] ∧ (PyData.str p : D) = .list [.str p']) ∨ (c = .ref C3 ∧ (PyData.str p : D) = .str "place")) := fun n => ⟨d, p, rfl, h1, h2, rfl, .inl ⟨rfl, p, rfl, rfl⟩⟩
  have u1 : ∀ n, U_need_kind C1 C2 ⟨[.d d, .d .none], n⟩ fun c fl ρ' => ρ'.n = n ∧ ((c = .ref C2 ∧ ∃ p' : Str, fl = [(.str "part", .str p')] ∧ (PyData.str p : D) = .str p') ∨ (c = .ref C1 ∧ ∃ p' : Str, fl = [(.str "part", .str p')] ∧ (PyData.str p : D) = .list [.str p']) ∨ (c = .ref C3 ∧ (PyData.str p : D) = .str "place")) := fun n => ⟨d, .none, rfl, .inl ⟨h1, p, h2, rfl, .inl ⟨rfl, p, rfl, rfl⟩⟩⟩
  have u2 : ∀ n, UB C2 C3 ⟨[.d d, .d .none], n⟩ fun c fl ρ' => ρ'.n = n ∧ ((c = .ref C2 ∧ ∃ p' : Str, fl = [(.str "part", .str p')] ∧ (PyData.str p : D) = .str p') ∨ (c = .ref C1 ∧ ∃ p' : Str, fl = [(.str "part", .str p')] ∧ (PyData.str p : D) = .list [.str p']) ∨ (c = .ref C3 ∧ (PyData.str p : D) = .str "place")) := fun n => ⟨d, .none, rfl, .inl ⟨h1, p, h2, rfl, .inl ⟨rfl, p, rfl, rfl⟩⟩⟩
  unfold callsL at hy
  simp only [List.mem_cons, List.not_mem_nil, or_false] at hy
  rcases hy with rfl | rfl | rfl | rfl | rfl | rfl
  · exact ⟨_, mem0 C1 C2 C3, [d], .str p, rfl, ⟨rfl, rfl, o1, .inr (u0 n)⟩, z⟩
  · exact ⟨_, mem1 C1 C2 C3, [d], .str p, rfl, ⟨rfl, rfl, o1, .inr (u0 n)⟩, z⟩
  · exact ⟨_, mem2 C1 C2 C3, [d, .none], .str p, rfl, ⟨rfl, rfl, o2, .inr (u1 n)⟩, z⟩
  · exact ⟨_, mem3 C1 C2 C3, [d, .none], .str p, rfl, ⟨rfl, rfl, o2, .inr (u2 n)⟩, z⟩
  · exact ⟨_, mem4 C1 C2 C3, [d, .none], .str p, rfl, ⟨rfl, rfl, o2, .inr (u2 n)⟩, z⟩
  · exact ⟨_, mem5 C1 C2 C3, [d, .none], .str p, rfl, ⟨rfl, rfl, o2, .inr (u2 n)⟩, z⟩
theorem wishes_loop {C1 C2 C3 : Addr} {d0 d1 d2 d3 d4 d6 : D} {n : Nat} {P : Post} : ∀ (l : List (D × Str)) (a b : Sl), (∀ x ∈ l, okW x.1 ∧ wishErr x.1 = some x.2 ∧ noC 34 x.1 = true ∧ PyData.strOk x.2 = true) → (∀ a b, P.nx ⟨[.d d0, .d d1, .d d2, .d d3, .d d4, a, .d d6, b, .no], n⟩) →
    forD (fgTup 2 (fgCons (fgN 5) (fgCons (fgN 7) (fgNil)))) (b_law_wishes_right_2 C1 C2 C3) (l.map pairD) ⟨[.d d0, .d d1, .d d2, .d d3, .d d4, a, .d d6, b, .no], n⟩ P := by
  intro l
  induction l with
  | nil => intro a b _ h; exact h a b
  | cons x l ih =>
    intro a b hl h
    obtain ⟨h1, h2, h3, h4⟩ := hl x List.mem_cons_self
    have ht : tame (.list [.str x.2, .str x.2, .str x.2, .str x.2, .str x.2, .str x.2]) = true := by simp [tame, tameAll, h4]
    have hd : (PyData.list [.str x.2, .str x.2, .str x.2, .str x.2, .str x.2, .str x.2]).depth ≤ 60 := by simp [PyData.depth, PyData.depthAll]
    rw [List.map_cons]
    unfold forD
    simp [b_law_wishes_right_2]
    simp [and_assoc, Rho.set, dropOwn, ftLend, fLend, lendR, frz, ow, nList, -forall_exists_index, fBody, fsSeq, fsIf, fsRet, fsNext, fsDrop, fsAsg, fsNever, fsFor, fsOwn, fsPar2, fsPar3, fsPar_od, fsPar_do, fsPar_oo, fVar, fC, fUn, fOp, fChain, fTup, fLst, fCall, faD, faSt, flCons, flNil, fSl, foSome, foNone, fAnd, fOr, fNot, fIf, fOfN, fn1, fnLst, fnCat, fgN, fgTup, fgCons, fgNil, fiSeq, fiRange1, fiRange2, fiEnumA, fiZip, ftOr, ftAnd, ftNot, ftB, ftT, ftYes, truD_b, truD_i, truD_l, truD_t, truD_n, gIx_t0, gIx_t1, gIx_t2, gSl_t, gSl_l, gIsT, notDict, isT, isN, tyName, gLen_t, gLen_l, gTuple_l, gCmp, gAdd_ii, gAdd_ll, PD.gSub, gNeg, gMod, seqD, forD, wipeR, gEqA, gNeA, gEq_ii, gNe_ii, gEq_tt, gIn_ints, gIn_intsL, gNotIn_ints, gNotIn_intsL, fM0, fM1, fJoined, fJ, flStar, starD, fCall0, gIsTX, noInst_n, noInst_b, noInst_i, noInst_s, noInst_l, noInst_t, fFld, fMeth, fMake, faNil, fsFld, fLendO, fDisp, fpCons, fpNil, fDict0, fiAny, walkD, fiOver, dKeys, dVals, dPairs, fsOwnD, fsPut, fOwnIx, fPop, fsExt, fDc, compK, gInX, gNotInX, gIxX, fGet]
    refine fnComp_i ?_
    simp [and_assoc, Rho.set, dropOwn, ftLend, fLend, lendR, frz, ow, nList, -forall_exists_index, fBody, fsSeq, fsIf, fsRet, fsNext, fsDrop, fsAsg, fsNever, fsFor, fsOwn, fsPar2, fsPar3, fsPar_od, fsPar_do, fsPar_oo, fVar, fC, fUn, fOp, fChain, fTup, fLst, fCall, faD, faSt, flCons, flNil, fSl, foSome, foNone, fAnd, fOr, fNot, fIf, fOfN, fn1, fnLst, fnCat, fgN, fgTup, fgCons, fgNil, fiSeq, fiRange1, fiRange2, fiEnumA, fiZip, ftOr, ftAnd, ftNot, ftB, ftT, ftYes, truD_b, truD_i, truD_l, truD_t, truD_n, gIx_t0, gIx_t1, gIx_t2, gSl_t, gSl_l, gIsT, notDict, isT, isN, tyName, gLen_t, gLen_l, gTuple_l, gCmp, gAdd_ii, gAdd_ll, PD.gSub, gNeg, gMod, seqD, forD, wipeR, gEqA, gNeA, gEq_ii, gNe_ii, gEq_tt, gIn_ints, gIn_intsL, gNotIn_ints, gNotIn_intsL, fM0, fM1, fJoined, fJ, flStar, starD, fCall0, gIsTX, noInst_n, noInst_b, noInst_i, noInst_s, noInst_l, noInst_t, fFld, fMeth, fMake, faNil, fsFld, fLendO, fDisp, fpCons, fpNil, fDict0, fiAny, walkD, fiOver, dKeys, dVals, dPairs, fsOwnD, fsPut, fOwnIx, fPop, fsExt, fDc, compK, gInX, gNotInX, gIxX, fGet]
    refine ⟨x.1, .none, rfl, _, rfl, by simp, ?_⟩
    refine comp_allD (fun _ => .str x.2) (callsL x.1 .none) (fun y hy kt h' => by simp [and_assoc, Rho.set, dropOwn, ftLend, fLend, lendR, frz, ow, nList, -forall_exists_index, fBody, fsSeq, fsIf, fsRet, fsNext, fsDrop, fsAsg, fsNever, fsFor, fsOwn, fsPar2, fsPar3, fsPar_od, fsPar_do, fsPar_oo, fVar, fC, fUn, fOp, fChain, fTup, fLst, fCall, faD, faSt, flCons, flNil, fSl, foSome, foNone, fAnd, fOr, fNot, fIf, fOfN, fn1, fnLst, fnCat, fgN, fgTup, fgCons, fgNil, fiSeq, fiRange1, fiRange2, fiEnumA, fiZip, ftOr, ftAnd, ftNot, ftB, ftT, ftYes, truD_b, truD_i, truD_l, truD_t, truD_n, gIx_t0, gIx_t1, gIx_t2, gSl_t, gSl_l, gIsT, notDict, isT, isN, tyName, gLen_t, gLen_l, gTuple_l, gCmp, gAdd_ii, gAdd_ll, PD.gSub, gNeg, gMod, seqD, forD, wipeR, gEqA, gNeA, gEq_ii, gNe_ii, gEq_tt, gIn_ints, gIn_intsL, gNotIn_ints, gNotIn_intsL, fM0, fM1, fJoined, fJ, flStar, starD, fCall0, gIsTX, noInst_n, noInst_b, noInst_i, noInst_s, noInst_l, noInst_t, fFld, fMeth, fMake, faNil, fsFld, fLendO, fDisp, fpCons, fpNil, fDict0, fiAny, walkD, fiOver, dKeys, dVals, dPairs, fsOwnD, fsPut, fOwnIx, fPop, fsExt, fDc, compK, gInX, gNotInX, gIxX, fGet]; exact out_wish h1 h2 h3 hy rfl (h' _ rfl)) ?_
    exact ⟨_, by rfl, .bool false, gNe_self ht hd, .inl ⟨rfl, ih _ _ (fun z hz => hl z (List.mem_cons_of_mem _ hz)) h⟩⟩
def L0 (q : Int) (T : List (List Int)) (G : List Int) : List (D × Str) := [(.none, "form"), (.tuple [], "form"), (.tuple [.int q, tupT T], "form"), (.tuple [.int q, tupT T, tupI G, .int 0], "form"), (.list [.int q, tupT T, tupI G], "form"), (.str "", "form")]
def L1 (T : List (List Int)) (G : List Int) : List (D × Str) := ([.int 0, .int 5, .none, .bool true, .str "1", .int (-1)] : List D).map fun x => (.tuple [x, tupT T, tupI G], "deeds")
def bent (q : Int) (T : List (List Int)) : List D := [.none, .tuple [], .list (T.map tupI), .tuple [.int 0], .tuple [.list (List.replicate q.toNat (.int 0))], .tuple [.tuple (List.replicate (q.toNat + 1) (.int 0))], .tuple [.tuple (List.replicate q.toNat (.int 1))], .tuple [.tuple (List.replicate q.toNat (.bool true))],
  .tuple (List.replicate 7 (.tuple (List.replicate q.toNat (.int 0)))), .tuple [.tuple (List.replicate q.toNat (.int (-1)))], .tuple [.tuple (List.replicate q.toNat (.str "0"))], .tuple [.tuple (List.replicate q.toNat (.int 0)), .none]]
def L2 (q : Int) (T : List (List Int)) (G : List Int) : List (D × Str) := (bent q T).map fun x => (.tuple [.int q, x, tupI G], "steps")
def odd3 (T : List (List Int)) (G : List Int) : List D := [.none, .tuple [], .list (G.map .int), tupI (G ++ [(T.length : Int)]), tupI (G ++ [0]), .tuple [.bool true], .tuple [.str "0"], .tuple [.int 1], .tuple [.int (-1), .int 0]]
def L3 (q : Int) (T : List (List Int)) (G : List Int) : List (D × Str) := (odd3 T G).map fun x => (.tuple [.int q, tupT T, x], "good")
def OddOk (x : D × Str) : Prop := okW x.1 ∧ wishErr x.1 = some x.2 ∧ noC 34 x.1 = true ∧ PyData.strOk x.2 = true
section
variable {q : Int} {T : List (List Int)} {G : List Int}
theorem odd0 : ∀ x ∈ L0 q T G, OddOk x := by
  have f : PyData.strOk "form" = true := by decide +kernel
  have n1 : noC 34 (.tuple [.int q, tupT T]) = true := by show (true && (noC 34 (tupT T) && true)) = true; rw [noC_tupT]; rfl
  have n2 : noC 34 (.tuple [.int q, tupT T, tupI G, .int 0]) = true := by show (true && (noC 34 (tupT T) && (noC 34 (tupI G) && (true && true)))) = true; rw [noC_tupT, noC_tupI]; rfl
  exact List.forall_mem_cons.mpr ⟨⟨rfl, rfl, rfl, f⟩, List.forall_mem_cons.mpr ⟨⟨rfl, rfl, rfl, f⟩, List.forall_mem_cons.mpr ⟨⟨rfl, rfl, n1, f⟩, List.forall_mem_cons.mpr ⟨⟨rfl, rfl, n2, f⟩, List.forall_mem_cons.mpr ⟨⟨rfl, rfl, noC_wish q T G, f⟩, List.forall_mem_cons.mpr ⟨⟨rfl, rfl, rfl, f⟩, fun _ h => absurd h List.not_mem_nil⟩⟩⟩⟩⟩⟩
theorem odd1 (w : WOK q T G) : ∀ x ∈ L1 T G, OddOk x := by
  have f : PyData.strOk "deeds" = true := by decide +kernel
  have g6 := w.glen
  have hT := okD2_T w
  have hG : okD (tupI G) := okD_tupI (by omega)
  have nc : ∀ x : D, noC 34 x = true → noC 34 (.tuple [x, tupT T, tupI G]) = true := fun x hx => by show (noC 34 x && (noC 34 (tupT T) && (noC 34 (tupI G) && true))) = true; rw [hx, noC_tupT, noC_tupI]; rfl
  intro x hx
  obtain ⟨y, hy, rfl⟩ := List.mem_map.mp hx
  have key : ∀ y ∈ ([.int 0, .int 5, .none, .bool true, .str "1", .int (-1)] : List D), noInst y = true ∧ intB y 1 4 = false ∧ noC 34 y = true := by
    repeat' (refine List.forall_mem_cons.mpr ⟨⟨?_, ?_, ?_⟩, ?_⟩)
    all_goals first | exact (fun _ h => absurd h List.not_mem_nil) | rfl | decide +kernel
  obtain ⟨h1, h2, h3⟩ := key y hy
  refine ⟨⟨h1, hT, hG⟩, ?_, nc y h3, f⟩
  show wishErr3 y (tupT T) (tupI G) = _
  unfold wishErr3
  rw [h2]
  rfl
theorem bent_ok (h1 : 1 ≤ q) (h4 : q ≤ 4) (hT : T.length ≤ 6) (hr : ∀ r ∈ T, r.length ≤ 4) : ∀ x ∈ bent q T, okD2 x ∧ stepsB x q = false ∧ noC 34 x = true := by
  have hc : q = 1 ∨ q = 2 ∨ q = 3 ∨ q = 4 := by omega
  have n0 : noC 34 (.list (T.map tupI)) = true := noC_tupT T
  rcases hc with rfl | rfl | rfl | rfl
  all_goals
    unfold bent
    repeat' (refine List.forall_mem_cons.mpr ⟨⟨?_, ?_, ?_⟩, ?_⟩)
    all_goals first | exact (fun _ h => absurd h List.not_mem_nil) | exact n0 | rfl | decide +kernel | (simp [okD2, okD, noInst]; done)
theorem wq_ok (w : WOK q T G) : intB (.int q) 1 4 = true := decide_eq_true ⟨by have := w.q1; omega, w.q1, w.q4⟩
theorem odd2_ok (w : WOK q T G) : ∀ x ∈ L2 q T G, OddOk x := by
  have f : PyData.strOk "steps" = true := by decide +kernel
  have g6 := w.glen
  have hG : okD (tupI G) := okD_tupI (by omega)
  intro x hx
  obtain ⟨y, hy, rfl⟩ := List.mem_map.mp hx
  obtain ⟨h1, h2, h3⟩ := bent_ok w.q1 w.q4 w.t6 (fun r hr => by have := (w.row r hr).1; have := w.q4; omega) y hy
  refine ⟨⟨rfl, h1, hG⟩, ?_, ?_, f⟩
  · show wishErr3 (.int q) y (tupI G) = _
    unfold wishErr3
    rw [if_pos (wq_ok w)]
    have e : stepsB y (intOfD (.int q)) = false := h2
    rw [e]
    rfl
  · show (true && (noC 34 y && (noC 34 (tupI G) && true))) = true
    rw [h3, noC_tupI]
    rfl
theorem odd3_ok (w : WOK q T G) : ∀ x ∈ L3 q T G, OddOk x := by
  have f : PyData.strOk "good" = true := by decide +kernel
  have g6 := w.glen
  have hT := okD2_T w
  have key : ∀ y ∈ odd3 T G, okD y ∧ noC 34 y = true ∧ ¬(ascB y (T.length : Int) = true ∧ (0 : Int) ∈ intsOfD y) := by
    have a1 : ∀ ns : List Int, ns.length ≤ 10 → okD (tupI ns) := fun ns h => okD_tupI (by omega)
    have a2 : ∀ {d : D} {m : Int}, numsB d m = false → ¬(ascB d m = true ∧ (0 : Int) ∈ intsOfD d) := fun {d m} h z => by
      have := z.1
      unfold ascB at this
      rw [h] at this
      cases this
    refine List.forall_mem_cons.mpr ⟨⟨rfl, rfl, a2 rfl⟩, List.forall_mem_cons.mpr ⟨⟨a1 [] (by decide), rfl, fun z => absurd z.2 List.not_mem_nil⟩, List.forall_mem_cons.mpr ⟨⟨rfl, noC_tupI G, a2 rfl⟩, List.forall_mem_cons.mpr ⟨⟨a1 _ (by simp; omega), noC_tupI _, a2 ?_⟩, List.forall_mem_cons.mpr ⟨⟨a1 _ (by simp; omega), noC_tupI _, fun z => ?_⟩,
      List.forall_mem_cons.mpr ⟨⟨?_, rfl, a2 rfl⟩, List.forall_mem_cons.mpr ⟨⟨?_, rfl, a2 rfl⟩, List.forall_mem_cons.mpr ⟨⟨a1 [1] (by decide), rfl, fun z => ?_⟩, List.forall_mem_cons.mpr ⟨⟨a1 [-1, 0] (by decide), rfl, a2 rfl⟩, fun _ h => absurd h List.not_mem_nil⟩⟩⟩⟩⟩⟩⟩⟩⟩
    · rw [numsB_of, List.all_append]
      have e : ([(T.length : Int)].all fun x => decide (0 ≤ x ∧ x ≤ (T.length : Int) - 1)) = false := by
        simp
        omega
      rw [e, Bool.and_false]
    · have h := z.1
      unfold ascB at h
      rw [intsOf_tupI] at h
      have h2 := risB_iff.mp (Bool.and_eq_true_iff.mp h).2
      have := (List.pairwise_append.mp h2).2.2 0 w.g0 0 List.mem_cons_self
      omega
    · simp [okD, noInst]
    · simp [okD, noInst]
    · have h : (0 : Int) ∈ [1] := z.2
      simp at h
  intro x hx
  obtain ⟨y, hy, rfl⟩ := List.mem_map.mp hx
  obtain ⟨h1, h2, h3⟩ := key y hy
  refine ⟨⟨rfl, hT, h1⟩, ?_, ?_, f⟩
  · show wishErr3 (.int q) (tupT T) y = _
    unfold wishErr3
    rw [if_pos (wq_ok w)]
    have e : stepsB (tupT T) (intOfD (.int q)) = true := stepsB_yes w
    have e2 : (lenD (tupT T) : Int) = T.length := by show (((T.map tupI).length : Nat) : Int) = _; rw [List.length_map]
    rw [if_pos e, e2, if_neg h3]
  · show (true && (noC 34 (tupT T) && (noC 34 y && true))) = true
    rw [h2, noC_tupT]
    rfl
end
theorem gMulX_t {x : D} {m : Int} (h : 1 ≤ m) (h2 : m ≤ 1000) : gMulX (PyData.tuple [x]) (.int m) = some (PyData.tuple (List.replicate m.toNat x)) := by
  have e : (List.replicate m.toNat [x]).flatten = List.replicate m.toNat x := by
    induction m.toNat with
    | zero => rfl
    | succ n ih => rw [List.replicate_succ, List.flatten_cons, ih]; rfl
  show (if m = 1 then some (PyData.tuple [x]) else if [x] ≠ [] ∧ 2 ≤ m ∧ m ≤ 1000 ∧ [x].length ≤ 1000 then some (PyData.tuple (List.replicate m.toNat [x]).flatten) else none) = _
  by_cases h3 : m = 1
  · rw [if_pos h3, h3]
    rfl
  · rw [if_neg h3, if_pos ⟨by simp, by omega, h2, by simp⟩, e]
theorem gMulX_l {x : D} {m : Int} (h : 1 ≤ m) (h2 : m ≤ 1000) : gMulX (.list [x]) (.int m) = some (.list (List.replicate m.toNat x)) := by
  have e : (List.replicate m.toNat [x]).flatten = List.replicate m.toNat x := by
    induction m.toNat with
    | zero => rfl
    | succ n ih => rw [List.replicate_succ, List.flatten_cons, ih]; rfl
  show (if 0 ≤ m ∧ m ≤ 1000 ∧ [x].length ≤ 1000 then some (PyData.list (List.replicate m.toNat [x]).flatten) else none) = _
  rw [if_pos ⟨by omega, h2, by simp⟩, e]
theorem app_loop {C1 C2 C3 : Addr} {q : Int} {T : List (List Int)} {s0 g b s7 s8 : Sl} {n : Nat} {P : Post} : ∀ (xs : List D) (acc : List (D × Str)) (a : Sl), acc.length + xs.length ≤ 1000 → (∀ a, P.nx ⟨[s0, .d (.int q), .d (tupT T), g, .own (.l ((acc ++ xs.map fun x => ((PyData.tuple [.int q, tupT T, x], "good") : D × Str)).map pairD)), a, b, s7, s8], n⟩) →
    forD (fgN 5) (b_law_wishes_right_1 C1 C2 C3) xs ⟨[s0, .d (.int q), .d (tupT T), g, .own (.l (acc.map pairD)), a, b, s7, s8], n⟩ P := by
  intro xs
  induction xs with
  | nil => intro acc a _ h; have := h a; rw [List.map_nil, List.append_nil] at this; exact this
  | cons x xs ih =>
    intro acc a hn h
    rw [List.length_cons] at hn
    unfold forD
    simp [b_law_wishes_right_1]
    simp [and_assoc, Rho.set, dropOwn, ftLend, fLend, lendR, frz, ow, nList, -forall_exists_index, fBody, fsSeq, fsIf, fsRet, fsNext, fsDrop, fsAsg, fsNever, fsFor, fsOwn, fsPar2, fsPar3, fsPar_od, fsPar_do, fsPar_oo, fVar, fC, fUn, fOp, fChain, fTup, fLst, fCall, faD, faSt, flCons, flNil, fSl, foSome, foNone, fAnd, fOr, fNot, fIf, fOfN, fn1, fnLst, fnCat, fgN, fgTup, fgCons, fgNil, fiSeq, fiRange1, fiRange2, fiEnumA, fiZip, ftOr, ftAnd, ftNot, ftB, ftT, ftYes, truD_b, truD_i, truD_l, truD_t, truD_n, gIx_t0, gIx_t1, gIx_t2, gSl_t, gSl_l, gIsT, notDict, isT, isN, tyName, gLen_t, gLen_l, gTuple_l, gCmp, gAdd_ii, gAdd_ll, PD.gSub, gNeg, gMod, seqD, forD, wipeR, gEqA, gNeA, gEq_ii, gNe_ii, gEq_tt, gIn_ints, gIn_intsL, gNotIn_ints, gNotIn_intsL, fM0, fM1, fJoined, fJ, flStar, starD, fCall0, gIsTX, noInst_n, noInst_b, noInst_i, noInst_s, noInst_l, noInst_t, fFld, fMeth, fMake, faNil, fsFld, fLendO, fDisp, fpCons, fpNil, fDict0, fiAny, walkD, fiOver, dKeys, dVals, dPairs, fsOwnD, fsPut, fOwnIx, fPop, fsExt, fDc, compK, gInX, gNotInX, gIxX, fGet]
    refine fsApp_i ?_
    simp [and_assoc, Rho.set, dropOwn, ftLend, fLend, lendR, frz, ow, nList, -forall_exists_index, fBody, fsSeq, fsIf, fsRet, fsNext, fsDrop, fsAsg, fsNever, fsFor, fsOwn, fsPar2, fsPar3, fsPar_od, fsPar_do, fsPar_oo, fVar, fC, fUn, fOp, fChain, fTup, fLst, fCall, faD, faSt, flCons, flNil, fSl, foSome, foNone, fAnd, fOr, fNot, fIf, fOfN, fn1, fnLst, fnCat, fgN, fgTup, fgCons, fgNil, fiSeq, fiRange1, fiRange2, fiEnumA, fiZip, ftOr, ftAnd, ftNot, ftB, ftT, ftYes, truD_b, truD_i, truD_l, truD_t, truD_n, gIx_t0, gIx_t1, gIx_t2, gSl_t, gSl_l, gIsT, notDict, isT, isN, tyName, gLen_t, gLen_l, gTuple_l, gCmp, gAdd_ii, gAdd_ll, PD.gSub, gNeg, gMod, seqD, forD, wipeR, gEqA, gNeA, gEq_ii, gNe_ii, gEq_tt, gIn_ints, gIn_intsL, gNotIn_ints, gNotIn_intsL, fM0, fM1, fJoined, fJ, flStar, starD, fCall0, gIsTX, noInst_n, noInst_b, noInst_i, noInst_s, noInst_l, noInst_t, fFld, fMeth, fMake, faNil, fsFld, fLendO, fDisp, fpCons, fpNil, fDict0, fiAny, walkD, fiOver, dKeys, dVals, dPairs, fsOwnD, fsPut, fOwnIx, fPop, fsExt, fDc, compK, gInX, gNotInX, gIxX, fGet]
    refine ⟨by omega, ?_⟩
    have := ih (acc ++ [((PyData.tuple [.int q, tupT T, x], "good") : D × Str)]) (.d x) (by simp; omega) fun a => by
      have := h a
      rwa [List.map_cons, List.append_cons] at this
    rw [List.map_append] at this
    exact this
theorem wishes_7 {C1 C2 C3 : Addr} {q : Int} {T : List (List Int)} {G : List Int} {a : Sl} {bt : D} {n : Nat} {P : Post} (l : List (D × Str)) (hl : ∀ x ∈ l, OddOk x) (h : ∀ ρ', ρ'.n = n → P.rt (.bool true) ρ') :
    c_law_wishes_right_7 C1 C2 C3 ⟨[.d (wishD q T G), .d (.int q), .d (tupT T), .d (tupI G), .own (.l (l.map pairD)), a, .d bt, .no, .no], n⟩ P := by
  unfold c_law_wishes_right_7
  simp [and_assoc, Rho.set, dropOwn, ftLend, fLend, lendR, frz, ow, nList, -forall_exists_index, fBody, fsSeq, fsIf, fsRet, fsNext, fsDrop, fsAsg, fsNever, fsFor, fsOwn, fsPar2, fsPar3, fsPar_od, fsPar_do, fsPar_oo, fVar, fC, fUn, fOp, fChain, fTup, fLst, fCall, faD, faSt, flCons, flNil, fSl, foSome, foNone, fAnd, fOr, fNot, fIf, fOfN, fn1, fnLst, fnCat, fgN, fgTup, fgCons, fgNil, fiSeq, fiRange1, fiRange2, fiEnumA, fiZip, ftOr, ftAnd, ftNot, ftB, ftT, ftYes, truD_b, truD_i, truD_l, truD_t, truD_n, gIx_t0, gIx_t1, gIx_t2, gSl_t, gSl_l, gIsT, notDict, isT, isN, tyName, gLen_t, gLen_l, gTuple_l, gCmp, gAdd_ii, gAdd_ll, PD.gSub, gNeg, gMod, seqD, forD, wipeR, gEqA, gNeA, gEq_ii, gNe_ii, gEq_tt, gIn_ints, gIn_intsL, gNotIn_ints, gNotIn_intsL, fM0, fM1, fJoined, fJ, flStar, starD, fCall0, gIsTX, noInst_n, noInst_b, noInst_i, noInst_s, noInst_l, noInst_t, fFld, fMeth, fMake, faNil, fsFld, fLendO, fDisp, fpCons, fpNil, fDict0, fiAny, walkD, fiOver, dKeys, dVals, dPairs, fsOwnD, fsPut, fOwnIx, fPop, fsExt, fDc, compK, gInX, gNotInX, gIxX, fGet]
  refine wishes_loop l a .no hl fun a b => ?_
  unfold c_law_wishes_right_8
  simp [and_assoc, Rho.set, dropOwn, ftLend, fLend, lendR, frz, ow, nList, -forall_exists_index, fBody, fsSeq, fsIf, fsRet, fsNext, fsDrop, fsAsg, fsNever, fsFor, fsOwn, fsPar2, fsPar3, fsPar_od, fsPar_do, fsPar_oo, fVar, fC, fUn, fOp, fChain, fTup, fLst, fCall, faD, faSt, flCons, flNil, fSl, foSome, foNone, fAnd, fOr, fNot, fIf, fOfN, fn1, fnLst, fnCat, fgN, fgTup, fgCons, fgNil, fiSeq, fiRange1, fiRange2, fiEnumA, fiZip, ftOr, ftAnd, ftNot, ftB, ftT, ftYes, truD_b, truD_i, truD_l, truD_t, truD_n, gIx_t0, gIx_t1, gIx_t2, gSl_t, gSl_l, gIsT, notDict, isT, isN, tyName, gLen_t, gLen_l, gTuple_l, gCmp, gAdd_ii, gAdd_ll, PD.gSub, gNeg, gMod, seqD, forD, wipeR, gEqA, gNeA, gEq_ii, gNe_ii, gEq_tt, gIn_ints, gIn_intsL, gNotIn_ints, gNotIn_intsL, fM0, fM1, fJoined, fJ, flStar, starD, fCall0, gIsTX, noInst_n, noInst_b, noInst_i, noInst_s, noInst_l, noInst_t, fFld, fMeth, fMake, faNil, fsFld, fLendO, fDisp, fpCons, fpNil, fDict0, fiAny, walkD, fiOver, dKeys, dVals, dPairs, fsOwnD, fsPut, fOwnIx, fPop, fsExt, fDc, compK, gInX, gNotInX, gIxX, fGet]
  exact h _ rfl
theorem fi3 {q : Int} {T : List (List Int)} {G : List Int} {s0 s1 s4 s5 s6 s7 s8 : Sl} {n : Nat} (w : WOK q T G) (k : List D → Rho → Prop) (z : k (odd3 T G) ⟨[s0, s1, .d (tupT T), .d (tupI G), s4, s5, s6, s7, s8], n⟩) :
    fiSeq
    (fLst
      (flCons (fC PyData.none)
        (flCons (fTup flNil)
          (flCons (fOfN (fn1 nList (fVar 3)))
            (flCons (fOp gAdd (fVar 3) (fTup (flCons (fUn gLen (fVar 2)) flNil)))
              (flCons (fOp gAdd (fVar 3) (fTup (flCons (fC (PyData.int 0)) flNil)))
                (flCons (fTup (flCons (fC (PyData.bool true)) flNil))
                  (flCons (fTup (flCons (fC (PyData.str (Str.ofString "0"))) flNil))
                    (flCons (fTup (flCons (fC (PyData.int 1)) flNil))
                      (flCons (fTup (flCons (fUn gNeg (fC (PyData.int 1))) (flCons (fC (PyData.int 0)) flNil)))
                        flNil)))))))))) ⟨[s0, s1, .d (tupT T), .d (tupI G), s4, s5, s6, s7, s8], n⟩ k := by
  simp [and_assoc, Rho.set, dropOwn, ftLend, fLend, lendR, frz, ow, nList, -forall_exists_index, fBody, fsSeq, fsIf, fsRet, fsNext, fsDrop, fsAsg, fsNever, fsFor, fsOwn, fsPar2, fsPar3, fsPar_od, fsPar_do, fsPar_oo, fVar, fC, fUn, fOp, fChain, fTup, fLst, fCall, faD, faSt, flCons, flNil, fSl, foSome, foNone, fAnd, fOr, fNot, fIf, fOfN, fn1, fnLst, fnCat, fgN, fgTup, fgCons, fgNil, fiSeq, fiRange1, fiRange2, fiEnumA, fiZip, ftOr, ftAnd, ftNot, ftB, ftT, ftYes, truD_b, truD_i, truD_l, truD_t, truD_n, gIx_t0, gIx_t1, gIx_t2, gSl_t, gSl_l, gIsT, notDict, isT, isN, tyName, gLen_t, gLen_l, gTuple_l, gCmp, gAdd_ii, gAdd_ll, PD.gSub, gNeg, gMod, seqD, forD, wipeR, gEqA, gNeA, gEq_ii, gNe_ii, gEq_tt, gIn_ints, gIn_intsL, gNotIn_ints, gNotIn_intsL, fM0, fM1, fJoined, fJ, flStar, starD, fCall0, gIsTX, noInst_n, noInst_b, noInst_i, noInst_s, noInst_l, noInst_t, fFld, fMeth, fMake, faNil, fsFld, fLendO, fDisp, fpCons, fpNil, fDict0, fiAny, walkD, fiOver, dKeys, dVals, dPairs, fsOwnD, fsPut, fOwnIx, fPop, fsExt, fDc, compK, gInX, gNotInX, gIxX, fGet]
  have g6 := w.glen
  have e : ∀ x : Int, gAdd (tupI G) (.tuple [.int x]) = some (tupI (G ++ [x])) := fun x => by
    show (if _ then some (PyData.tuple (G.map PyData.int ++ [PyData.int x])) else none) = some (PyData.tuple ((G ++ [x]).map PyData.int))
    rw [if_pos (by simp [sizeLine_eq]; omega), List.map_append]
    rfl
  exact ⟨_, e _, _, e _, z⟩
theorem wishes_6 {C1 C2 C3 : Addr} {q : Int} {T : List (List Int)} {G : List Int} (w : WOK q T G) {a : Sl} {bt : D} {n : Nat} {P : Post} (l : List (D × Str)) (hn : l.length ≤ 200) (hl : ∀ x ∈ l, OddOk x) (h : ∀ ρ', ρ'.n = n → P.rt (.bool true) ρ') :
    c_law_wishes_right_6 C1 C2 C3 ⟨[.d (wishD q T G), .d (.int q), .d (tupT T), .d (tupI G), .own (.l (l.map pairD)), a, .d bt, .no, .no], n⟩ P := by
  unfold c_law_wishes_right_6
  simp only [fsSeq, fsFor]
  refine fi3 w _ ?_
  refine app_loop (odd3 T G) l a (by simp [odd3]; omega) fun a => ?_
  exact wishes_7 _ (fun x hx => (List.mem_append.mp hx).elim (hl x) fun hx => odd3_ok w x hx) h
theorem wishes_5 {C1 C2 C3 : Addr} {q : Int} {T : List (List Int)} {G : List Int} (w : WOK q T G) {a : Sl} {n : Nat} {P : Post} (l : List (D × Str)) (hn : l.length ≤ 100) (hl : ∀ x ∈ l, OddOk x) (h : ∀ ρ', ρ'.n = n → P.rt (.bool true) ρ') :
    c_law_wishes_right_5 C1 C2 C3 ⟨[.d (wishD q T G), .d (.int q), .d (tupT T), .d (tupI G), .own (.l (l.map pairD)), a, .d (.list (bent q T)), .no, .no], n⟩ P := by
  unfold c_law_wishes_right_5
  simp [and_assoc, Rho.set, dropOwn, ftLend, fLend, lendR, frz, ow, nList, -forall_exists_index, fBody, fsSeq, fsIf, fsRet, fsNext, fsDrop, fsAsg, fsNever, fsFor, fsOwn, fsPar2, fsPar3, fsPar_od, fsPar_do, fsPar_oo, fVar, fC, fUn, fOp, fChain, fTup, fLst, fCall, faD, faSt, flCons, flNil, fSl, foSome, foNone, fAnd, fOr, fNot, fIf, fOfN, fn1, fnLst, fnCat, fgN, fgTup, fgCons, fgNil, fiSeq, fiRange1, fiRange2, fiEnumA, fiZip, ftOr, ftAnd, ftNot, ftB, ftT, ftYes, truD_b, truD_i, truD_l, truD_t, truD_n, gIx_t0, gIx_t1, gIx_t2, gSl_t, gSl_l, gIsT, notDict, isT, isN, tyName, gLen_t, gLen_l, gTuple_l, gCmp, gAdd_ii, gAdd_ll, PD.gSub, gNeg, gMod, seqD, forD, wipeR, gEqA, gNeA, gEq_ii, gNe_ii, gEq_tt, gIn_ints, gIn_intsL, gNotIn_ints, gNotIn_intsL, fM0, fM1, fJoined, fJ, flStar, starD, fCall0, gIsTX, noInst_n, noInst_b, noInst_i, noInst_s, noInst_l, noInst_t, fFld, fMeth, fMake, faNil, fsFld, fLendO, fDisp, fpCons, fpNil, fDict0, fiAny, walkD, fiOver, dKeys, dVals, dPairs, fsOwnD, fsPut, fOwnIx, fPop, fsExt, fDc, compK, gInX, gNotInX, gIxX, fGet]
  refine fnComp_i ?_
  simp [and_assoc, Rho.set, dropOwn, ftLend, fLend, lendR, frz, ow, nList, -forall_exists_index, fBody, fsSeq, fsIf, fsRet, fsNext, fsDrop, fsAsg, fsNever, fsFor, fsOwn, fsPar2, fsPar3, fsPar_od, fsPar_do, fsPar_oo, fVar, fC, fUn, fOp, fChain, fTup, fLst, fCall, faD, faSt, flCons, flNil, fSl, foSome, foNone, fAnd, fOr, fNot, fIf, fOfN, fn1, fnLst, fnCat, fgN, fgTup, fgCons, fgNil, fiSeq, fiRange1, fiRange2, fiEnumA, fiZip, ftOr, ftAnd, ftNot, ftB, ftT, ftYes, truD_b, truD_i, truD_l, truD_t, truD_n, gIx_t0, gIx_t1, gIx_t2, gSl_t, gSl_l, gIsT, notDict, isT, isN, tyName, gLen_t, gLen_l, gTuple_l, gCmp, gAdd_ii, gAdd_ll, PD.gSub, gNeg, gMod, seqD, forD, wipeR, gEqA, gNeA, gEq_ii, gNe_ii, gEq_tt, gIn_ints, gIn_intsL, gNotIn_ints, gNotIn_intsL, fM0, fM1, fJoined, fJ, flStar, starD, fCall0, gIsTX, noInst_n, noInst_b, noInst_i, noInst_s, noInst_l, noInst_t, fFld, fMeth, fMake, faNil, fsFld, fLendO, fDisp, fpCons, fpNil, fDict0, fiAny, walkD, fiOver, dKeys, dVals, dPairs, fsOwnD, fsPut, fOwnIx, fPop, fsExt, fDc, compK, gInX, gNotInX, gIxX, fGet]
  refine ⟨by simp [bent], comp_allD (fun x => pairD (.tuple [.int q, x, tupI G], "steps")) _ (fun x _ kt h => by simp [and_assoc, Rho.set, dropOwn, ftLend, fLend, lendR, frz, ow, nList, -forall_exists_index, fBody, fsSeq, fsIf, fsRet, fsNext, fsDrop, fsAsg, fsNever, fsFor, fsOwn, fsPar2, fsPar3, fsPar_od, fsPar_do, fsPar_oo, fVar, fC, fUn, fOp, fChain, fTup, fLst, fCall, faD, faSt, flCons, flNil, fSl, foSome, foNone, fAnd, fOr, fNot, fIf, fOfN, fn1, fnLst, fnCat, fgN, fgTup, fgCons, fgNil, fiSeq, fiRange1, fiRange2, fiEnumA, fiZip, ftOr, ftAnd, ftNot, ftB, ftT, ftYes, truD_b, truD_i, truD_l, truD_t, truD_n, gIx_t0, gIx_t1, gIx_t2, gSl_t, gSl_l, gIsT, notDict, isT, isN, tyName, gLen_t, gLen_l, gTuple_l, gCmp, gAdd_ii, gAdd_ll, PD.gSub, gNeg, gMod, seqD, forD, wipeR, gEqA, gNeA, gEq_ii, gNe_ii, gEq_tt, gIn_ints, gIn_intsL, gNotIn_ints, gNotIn_intsL, fM0, fM1, fJoined, fJ, flStar, starD, fCall0, gIsTX, noInst_n, noInst_b, noInst_i, noInst_s, noInst_l, noInst_t, fFld, fMeth, fMake, faNil, fsFld, fLendO, fDisp, fpCons, fpNil, fDict0, fiAny, walkD, fiOver, dKeys, dVals, dPairs, fsOwnD, fsPut, fOwnIx, fPop, fsExt, fDc, compK, gInX, gNotInX, gIxX, fGet]; exact h _ rfl) ⟨(l ++ L2 q T G).map pairD, ?_, ?_⟩⟩
  · show (if (l.map pairD).length + ((bent q T).map _).length ≤ 1000000 then some _ else none) = _
    rw [if_pos (by simp [bent]; omega), List.map_append]
    unfold L2
    rw [List.map_map]
    rfl
  · exact wishes_6 w _ (by simp [L2, bent]; omega) (fun x hx => (List.mem_append.mp hx).elim (hl x) fun hx => odd2_ok w x hx) h
def bent1 (q : Int) (T : List (List Int)) : List D := [.none, .tuple [], .list (T.map tupI), .tuple [.int 0], .tuple [.list (List.replicate q.toNat (.int 0))], .tuple [.tuple (List.replicate (q.toNat + 1) (.int 0))], .tuple [.tuple (List.replicate q.toNat (.int 1))], .tuple [.tuple (List.replicate q.toNat (.bool true))]]
theorem wishes_4 {C1 C2 C3 : Addr} {q : Int} {T : List (List Int)} {G : List Int} (w : WOK q T G) {a : Sl} {n : Nat} {P : Post} (l : List (D × Str)) (hn : l.length ≤ 100) (hl : ∀ x ∈ l, OddOk x) (h : ∀ ρ', ρ'.n = n → P.rt (.bool true) ρ') :
    c_law_wishes_right_4 C1 C2 C3 ⟨[.d (wishD q T G), .d (.int q), .d (tupT T), .d (tupI G), .own (.l (l.map pairD)), a, .d (.list (bent1 q T)), .no, .no], n⟩ P := by
  have q1 := w.q1
  have q4 := w.q4
  unfold c_law_wishes_right_4
  simp [and_assoc, Rho.set, dropOwn, ftLend, fLend, lendR, frz, ow, nList, -forall_exists_index, fBody, fsSeq, fsIf, fsRet, fsNext, fsDrop, fsAsg, fsNever, fsFor, fsOwn, fsPar2, fsPar3, fsPar_od, fsPar_do, fsPar_oo, fVar, fC, fUn, fOp, fChain, fTup, fLst, fCall, faD, faSt, flCons, flNil, fSl, foSome, foNone, fAnd, fOr, fNot, fIf, fOfN, fn1, fnLst, fnCat, fgN, fgTup, fgCons, fgNil, fiSeq, fiRange1, fiRange2, fiEnumA, fiZip, ftOr, ftAnd, ftNot, ftB, ftT, ftYes, truD_b, truD_i, truD_l, truD_t, truD_n, gIx_t0, gIx_t1, gIx_t2, gSl_t, gSl_l, gIsT, notDict, isT, isN, tyName, gLen_t, gLen_l, gTuple_l, gCmp, gAdd_ii, gAdd_ll, PD.gSub, gNeg, gMod, seqD, forD, wipeR, gEqA, gNeA, gEq_ii, gNe_ii, gEq_tt, gIn_ints, gIn_intsL, gNotIn_ints, gNotIn_intsL, fM0, fM1, fJoined, fJ, flStar, starD, fCall0, gIsTX, noInst_n, noInst_b, noInst_i, noInst_s, noInst_l, noInst_t, fFld, fMeth, fMake, faNil, fsFld, fLendO, fDisp, fpCons, fpNil, fDict0, fiAny, walkD, fiOver, dKeys, dVals, dPairs, fsOwnD, fsPut, fOwnIx, fPop, fsExt, fDc, compK, gInX, gNotInX, gIxX, fGet]
  exact ⟨_, gMulX_t q1 (by omega), _, gMulX_t (by decide) (by decide), _, gMulX_t q1 (by omega), _, gMulX_t q1 (by omega), _, gMulX_t q1 (by omega), by simp [bent1, sizeLine_eq], wishes_5 w l hn hl h⟩
theorem wishes_3 {C1 C2 C3 : Addr} {q : Int} {T : List (List Int)} {G : List Int} (w : WOK q T G) {a : Sl} {n : Nat} {P : Post} (l : List (D × Str)) (hn : l.length ≤ 100) (hl : ∀ x ∈ l, OddOk x) (h : ∀ ρ', ρ'.n = n → P.rt (.bool true) ρ') :
    c_law_wishes_right_3 C1 C2 C3 ⟨[.d (wishD q T G), .d (.int q), .d (tupT T), .d (tupI G), .own (.l (l.map pairD)), a, .no, .no, .no], n⟩ P := by
  have q1 := w.q1
  have q4 := w.q4
  have e1 : gMulX (.tuple [.int 0]) (.int (q + 1)) = some (.tuple (List.replicate (q.toNat + 1) (.int 0))) := by
    rw [gMulX_t (by omega) (by omega), show (q + 1).toNat = q.toNat + 1 by omega]
  unfold c_law_wishes_right_3
  simp [and_assoc, Rho.set, dropOwn, ftLend, fLend, lendR, frz, ow, nList, -forall_exists_index, fBody, fsSeq, fsIf, fsRet, fsNext, fsDrop, fsAsg, fsNever, fsFor, fsOwn, fsPar2, fsPar3, fsPar_od, fsPar_do, fsPar_oo, fVar, fC, fUn, fOp, fChain, fTup, fLst, fCall, faD, faSt, flCons, flNil, fSl, foSome, foNone, fAnd, fOr, fNot, fIf, fOfN, fn1, fnLst, fnCat, fgN, fgTup, fgCons, fgNil, fiSeq, fiRange1, fiRange2, fiEnumA, fiZip, ftOr, ftAnd, ftNot, ftB, ftT, ftYes, truD_b, truD_i, truD_l, truD_t, truD_n, gIx_t0, gIx_t1, gIx_t2, gSl_t, gSl_l, gIsT, notDict, isT, isN, tyName, gLen_t, gLen_l, gTuple_l, gCmp, gAdd_ii, gAdd_ll, PD.gSub, gNeg, gMod, seqD, forD, wipeR, gEqA, gNeA, gEq_ii, gNe_ii, gEq_tt, gIn_ints, gIn_intsL, gNotIn_ints, gNotIn_intsL, fM0, fM1, fJoined, fJ, flStar, starD, fCall0, gIsTX, noInst_n, noInst_b, noInst_i, noInst_s, noInst_l, noInst_t, fFld, fMeth, fMake, faNil, fsFld, fLendO, fDisp, fpCons, fpNil, fDict0, fiAny, walkD, fiOver, dKeys, dVals, dPairs, fsOwnD, fsPut, fOwnIx, fPop, fsExt, fDc, compK, gInX, gNotInX, gIxX, fGet]
  exact ⟨_, gMulX_l q1 (by omega), _, e1, _, gMulX_t q1 (by omega), _, gMulX_t q1 (by omega), wishes_4 w l hn hl h⟩
theorem wishes_2 {C1 C2 C3 : Addr} {q : Int} {T : List (List Int)} {G : List Int} (w : WOK q T G) {n : Nat} {P : Post} (l : List (D × Str)) (hn : l.length ≤ 50) (hl : ∀ x ∈ l, OddOk x) (h : ∀ ρ', ρ'.n = n → P.rt (.bool true) ρ') :
    c_law_wishes_right_2 C1 C2 C3 ⟨[.d (wishD q T G), .d (.int q), .d (tupT T), .d (tupI G), .own (.l (l.map pairD)), .no, .no, .no, .no], n⟩ P := by
  unfold c_law_wishes_right_2
  simp [and_assoc, Rho.set, dropOwn, ftLend, fLend, lendR, frz, ow, nList, -forall_exists_index, fBody, fsSeq, fsIf, fsRet, fsNext, fsDrop, fsAsg, fsNever, fsFor, fsOwn, fsPar2, fsPar3, fsPar_od, fsPar_do, fsPar_oo, fVar, fC, fUn, fOp, fChain, fTup, fLst, fCall, faD, faSt, flCons, flNil, fSl, foSome, foNone, fAnd, fOr, fNot, fIf, fOfN, fn1, fnLst, fnCat, fgN, fgTup, fgCons, fgNil, fiSeq, fiRange1, fiRange2, fiEnumA, fiZip, ftOr, ftAnd, ftNot, ftB, ftT, ftYes, truD_b, truD_i, truD_l, truD_t, truD_n, gIx_t0, gIx_t1, gIx_t2, gSl_t, gSl_l, gIsT, notDict, isT, isN, tyName, gLen_t, gLen_l, gTuple_l, gCmp, gAdd_ii, gAdd_ll, PD.gSub, gNeg, gMod, seqD, forD, wipeR, gEqA, gNeA, gEq_ii, gNe_ii, gEq_tt, gIn_ints, gIn_intsL, gNotIn_ints, gNotIn_intsL, fM0, fM1, fJoined, fJ, flStar, starD, fCall0, gIsTX, noInst_n, noInst_b, noInst_i, noInst_s, noInst_l, noInst_t, fFld, fMeth, fMake, faNil, fsFld, fLendO, fDisp, fpCons, fpNil, fDict0, fiAny, walkD, fiOver, dKeys, dVals, dPairs, fsOwnD, fsPut, fOwnIx, fPop, fsExt, fDc, compK, gInX, gNotInX, gIxX, fGet]
  refine fnComp_i ?_
  simp [and_assoc, Rho.set, dropOwn, ftLend, fLend, lendR, frz, ow, nList, -forall_exists_index, fBody, fsSeq, fsIf, fsRet, fsNext, fsDrop, fsAsg, fsNever, fsFor, fsOwn, fsPar2, fsPar3, fsPar_od, fsPar_do, fsPar_oo, fVar, fC, fUn, fOp, fChain, fTup, fLst, fCall, faD, faSt, flCons, flNil, fSl, foSome, foNone, fAnd, fOr, fNot, fIf, fOfN, fn1, fnLst, fnCat, fgN, fgTup, fgCons, fgNil, fiSeq, fiRange1, fiRange2, fiEnumA, fiZip, ftOr, ftAnd, ftNot, ftB, ftT, ftYes, truD_b, truD_i, truD_l, truD_t, truD_n, gIx_t0, gIx_t1, gIx_t2, gSl_t, gSl_l, gIsT, notDict, isT, isN, tyName, gLen_t, gLen_l, gTuple_l, gCmp, gAdd_ii, gAdd_ll, PD.gSub, gNeg, gMod, seqD, forD, wipeR, gEqA, gNeA, gEq_ii, gNe_ii, gEq_tt, gIn_ints, gIn_intsL, gNotIn_ints, gNotIn_intsL, fM0, fM1, fJoined, fJ, flStar, starD, fCall0, gIsTX, noInst_n, noInst_b, noInst_i, noInst_s, noInst_l, noInst_t, fFld, fMeth, fMake, faNil, fsFld, fLendO, fDisp, fpCons, fpNil, fDict0, fiAny, walkD, fiOver, dKeys, dVals, dPairs, fsOwnD, fsPut, fOwnIx, fPop, fsExt, fDc, compK, gInX, gNotInX, gIxX, fGet]
  refine comp_allD (fun x => pairD (.tuple [x, tupT T, tupI G], "deeds")) _ (fun x _ kt h => by simp [and_assoc, Rho.set, dropOwn, ftLend, fLend, lendR, frz, ow, nList, -forall_exists_index, fBody, fsSeq, fsIf, fsRet, fsNext, fsDrop, fsAsg, fsNever, fsFor, fsOwn, fsPar2, fsPar3, fsPar_od, fsPar_do, fsPar_oo, fVar, fC, fUn, fOp, fChain, fTup, fLst, fCall, faD, faSt, flCons, flNil, fSl, foSome, foNone, fAnd, fOr, fNot, fIf, fOfN, fn1, fnLst, fnCat, fgN, fgTup, fgCons, fgNil, fiSeq, fiRange1, fiRange2, fiEnumA, fiZip, ftOr, ftAnd, ftNot, ftB, ftT, ftYes, truD_b, truD_i, truD_l, truD_t, truD_n, gIx_t0, gIx_t1, gIx_t2, gSl_t, gSl_l, gIsT, notDict, isT, isN, tyName, gLen_t, gLen_l, gTuple_l, gCmp, gAdd_ii, gAdd_ll, PD.gSub, gNeg, gMod, seqD, forD, wipeR, gEqA, gNeA, gEq_ii, gNe_ii, gEq_tt, gIn_ints, gIn_intsL, gNotIn_ints, gNotIn_intsL, fM0, fM1, fJoined, fJ, flStar, starD, fCall0, gIsTX, noInst_n, noInst_b, noInst_i, noInst_s, noInst_l, noInst_t, fFld, fMeth, fMake, faNil, fsFld, fLendO, fDisp, fpCons, fpNil, fDict0, fiAny, walkD, fiOver, dKeys, dVals, dPairs, fsOwnD, fsPut, fOwnIx, fPop, fsExt, fDc, compK, gInX, gNotInX, gIxX, fGet]; exact h _ rfl) ⟨(l ++ L1 T G).map pairD, ?_, ?_⟩
  · show (if (l.map pairD).length + 6 ≤ 1000000 then some _ else none) = _
    rw [if_pos (by simp; omega), List.map_append]
    rfl
  · exact wishes_3 w _ (by simp [L1]; omega) (fun x hx => (List.mem_append.mp hx).elim (hl x) fun hx => odd1 w x hx) h
theorem ok_law_wishes_right {C1 C2 C3 : Addr} : ∀ ρ k, W_law_wishes_right C1 C2 C3 ρ k → fBody 9 (w_law_wishes_right C1 C2 C3) ρ k := by
  rintro ⟨sl, n⟩ k ⟨q, T, G, e, w, z⟩
  simp only at e
  subst e
  simp [w_law_wishes_right]
  simp [and_assoc, Rho.set, dropOwn, ftLend, fLend, lendR, frz, ow, nList, -forall_exists_index, fBody, fsSeq, fsIf, fsRet, fsNext, fsDrop, fsAsg, fsNever, fsFor, fsOwn, fsPar2, fsPar3, fsPar_od, fsPar_do, fsPar_oo, fVar, fC, fUn, fOp, fChain, fTup, fLst, fCall, faD, faSt, flCons, flNil, fSl, foSome, foNone, fAnd, fOr, fNot, fIf, fOfN, fn1, fnLst, fnCat, fgN, fgTup, fgCons, fgNil, fiSeq, fiRange1, fiRange2, fiEnumA, fiZip, ftOr, ftAnd, ftNot, ftB, ftT, ftYes, truD_b, truD_i, truD_l, truD_t, truD_n, gIx_t0, gIx_t1, gIx_t2, gSl_t, gSl_l, gIsT, notDict, isT, isN, tyName, gLen_t, gLen_l, gTuple_l, gCmp, gAdd_ii, gAdd_ll, PD.gSub, gNeg, gMod, seqD, forD, wipeR, gEqA, gNeA, gEq_ii, gNe_ii, gEq_tt, gIn_ints, gIn_intsL, gNotIn_ints, gNotIn_intsL, fM0, fM1, fJoined, fJ, flStar, starD, fCall0, gIsTX, noInst_n, noInst_b, noInst_i, noInst_s, noInst_l, noInst_t, fFld, fMeth, fMake, faNil, fsFld, fLendO, fDisp, fpCons, fpNil, fDict0, fiAny, walkD, fiOver, dKeys, dVals, dPairs, fsOwnD, fsPut, fOwnIx, fPop, fsExt, fDc, compK, gInX, gNotInX, gIxX, fGet]
  unfold c_law_wishes_right_1
  simp [and_assoc, Rho.set, dropOwn, ftLend, fLend, lendR, frz, ow, nList, -forall_exists_index, fBody, fsSeq, fsIf, fsRet, fsNext, fsDrop, fsAsg, fsNever, fsFor, fsOwn, fsPar2, fsPar3, fsPar_od, fsPar_do, fsPar_oo, fVar, fC, fUn, fOp, fChain, fTup, fLst, fCall, faD, faSt, flCons, flNil, fSl, foSome, foNone, fAnd, fOr, fNot, fIf, fOfN, fn1, fnLst, fnCat, fgN, fgTup, fgCons, fgNil, fiSeq, fiRange1, fiRange2, fiEnumA, fiZip, ftOr, ftAnd, ftNot, ftB, ftT, ftYes, truD_b, truD_i, truD_l, truD_t, truD_n, gIx_t0, gIx_t1, gIx_t2, gSl_t, gSl_l, gIsT, notDict, isT, isN, tyName, gLen_t, gLen_l, gTuple_l, gCmp, gAdd_ii, gAdd_ll, PD.gSub, gNeg, gMod, seqD, forD, wipeR, gEqA, gNeA, gEq_ii, gNe_ii, gEq_tt, gIn_ints, gIn_intsL, gNotIn_ints, gNotIn_intsL, fM0, fM1, fJoined, fJ, flStar, starD, fCall0, gIsTX, noInst_n, noInst_b, noInst_i, noInst_s, noInst_l, noInst_t, fFld, fMeth, fMake, faNil, fsFld, fLendO, fDisp, fpCons, fpNil, fDict0, fiAny, walkD, fiOver, dKeys, dVals, dPairs, fsOwnD, fsPut, fOwnIx, fPop, fsExt, fDc, compK, gInX, gNotInX, gIxX, fGet]
  refine ⟨_, rfl, .tuple [.int q, tupT T, tupI G, .int 0], ?_, wishes_2 w (L0 q T G) (by simp [L0]) odd0 fun ρ' e => ?_⟩
  · show (if ([.int q, tupT T, tupI G] : List D).length + ([.int 0] : List D).length ≤ sizeLine then some (PyData.tuple _) else none) = _
    rw [if_pos (by simp [sizeLine_eq])]
    rfl
  · have e : ρ'.n = n := e
    show k _ ⟨_, ρ'.n⟩
    rw [e]
    exact z
def W_law_runs_right (C1 C2 C3 : Addr) : FE := fun ρ k => ∃ q T G, ρ.sl = [.d (wishD q T G)] ∧ WOK q T G ∧ k (.bool true) ρ
theorem mW_law_runs_right (C1 C2 C3 : Addr) (ρ : Rho) (k k' : KD) (hM : ∀ d ρ', k d ρ' → k' d ρ') (z : W_law_runs_right C1 C2 C3 ρ k) : W_law_runs_right C1 C2 C3 ρ k' := by
  obtain ⟨q, T, G, e1, e2, e3⟩ := z
  exact ⟨q, T, G, e1, e2, hM _ _ e3⟩
abbrev s_law_runs_right : Stmt := top 37
theorem sc_law_runs_right : FnScope ["want", "odd", "call"] ["want"] (defScope s_law_runs_right) := ⟨rfl, rfl, rfl, by decide +kernel, rfl, by decide +kernel, by decide +kernel⟩
def b_law_runs_right_1 (C_BadKind : Addr) (C_BadWish : Addr) (C_OutOfPlace : Addr) : FS := fsIf (ftB (fOp gNeA (fOfN (fnComp (fiSeq (fSl gSl (fCall 2 W_law_calls (faD (flCons (fVar 0) (flCons (fVar 1) (flNil))))) (foSome (fC (.int 3))) (foNone))) (fgN 2) (ftYes) (fCall 1 (W_law_outcome C_BadKind C_BadWish C_OutOfPlace) (faD (flCons (fVar 2) (flNil)))) [2])) (fOp gMulX (fLst (flCons (fC (.str "place")) (flNil))) (fC (.int 3))))) (fsRet (fC (.bool false))) (fsNext)
def c_law_runs_right_1 (C_BadKind : Addr) (C_BadWish : Addr) (C_OutOfPlace : Addr) : FS := fsRet (fOp gEqA (fOfN (fnComp (fiSeq (fSl gSl (fCall 2 W_law_calls (faD (flCons (fVar 0) (flCons (fOp gMulX (fTup (flCons (fC (.int 0)) (flNil))) (fC (.int 400))) (flNil))))) (foSome (fC (.int 3))) (foNone))) (fgN 2) (ftYes) (fCall 1 (W_law_outcome C_BadKind C_BadWish C_OutOfPlace) (faD (flCons (fVar 2) (flNil)))) [2])) (fOp gMulX (fLst (flCons (fC .none) (flNil))) (fC (.int 3))))
def w_law_runs_right (C_BadKind : Addr) (C_BadWish : Addr) (C_OutOfPlace : Addr) : FS := fsSeq (fsFor (fiSeq (fLst (flCons (fC .none) (flCons (fLst (flCons (fC (.int 0)) (flNil))) (flCons (fTup (flCons (fOp gIx (fVar 0) (fC (.int 0))) (flNil))) (flCons (fTup (flCons (fUn gNeg (fC (.int 1))) (flNil))) (flCons (fTup (flCons (fC (.bool true)) (flNil))) (flCons (fTup (flCons (fC (.str "0")) (flNil))) (flCons (fOp gMulX (fTup (flCons (fC (.int 0)) (flNil))) (fC (.int 401))) (flCons (fC (.int 0)) (flCons (fC (.str "")) (flCons (fTup (flCons (fC (.int 0)) (flCons (fC .none) (flNil)))) (flNil))))))))))))) (fgN 1) (b_law_runs_right_1 C_BadKind C_BadWish C_OutOfPlace))
  (c_law_runs_right_1 C_BadKind C_BadWish C_OutOfPlace)
theorem raw_law_runs_right {f : Addr} {fd : FuncData} {a_law_outcome : Addr} {d_law_outcome : FuncData} {a_law_calls : Addr} {d_law_calls : FuncData} {C_BadKind : Addr} {C_BadWish : Addr} {C_OutOfPlace : Addr} (F : Fun K "_law_runs_right" "_law_runs_right" s_law_runs_right f fd) (T : Txt mg) (g_law_outcome : mg "_law_outcome" = some (.ref a_law_outcome)) (g_law_calls : mg "_law_calls" = some (.ref a_law_calls)) (G_law_outcome : FnG P w K mg base (L2.CX P w) 9 a_law_outcome d_law_outcome ["call"] (spD ⟨K, w, P⟩ (MM TT) 1 (W_law_outcome C_BadKind C_BadWish C_OutOfPlace))) (b_law_outcome : Binds K d_law_outcome ["call"] []) (k_law_outcome : PySem.W.keepIn K (.ref a_law_outcome) = true) (G_law_calls : FnG P w K mg base (L2.CX P w) 8 a_law_calls d_law_calls ["want", "thing"] (spD ⟨K, w, P⟩ (MM TT) 2 W_law_calls)) (b_law_calls : Binds K d_law_calls ["want", "thing"] []) (k_law_calls : PySem.W.keepIn K (.ref a_law_calls) = true) : FnG P w K mg base (L2.CX P w) (10) f fd ["want"] (spD ⟨K, w, P⟩ (MM TT) 1 (fBody 3 (w_law_runs_right C_BadKind C_BadWish C_OutOfPlace))) := by
  refine fnD F sc_law_runs_right fun cdv A outer s H E hgd hr => ?_
  have nd := (sc_law_runs_right).nd
  have hu : (A.deeper (envOfC "_law_runs_right" (defScope s_law_runs_right) s.heap.objs.size f cdv)).units + 64 < cLine := hr.units
  exact pds_cons (pds_for (fs := b_law_runs_right_1 C_BadKind C_BadWish C_OutOfPlace) PassesOwn.never rfl (pdi_seq (pd_lst (pdl_cons (pd_non) (pdl_cons (pd_lst (pdl_cons (pd_int) (pdl_nil))) (pdl_cons (pd_tup (pdl_cons (pd_ix ix_any rd_ix (pd_var (pv 0)) (pd_int) (fun _ _ => rfl)) (pdl_nil))) (pdl_cons (pd_tup (pdl_cons (pd_un un_neg r1_neg (pd_int)) (pdl_nil))) (pdl_cons (pd_tup (pdl_cons (pd_bl) (pdl_nil))) (pdl_cons (pd_tup (pdl_cons (pd_str) (pdl_nil))) (pdl_cons (pd_op op_mulX rd_mulX (pd_tup (pdl_cons (pd_int) (pdl_nil))) (pd_int)) (pdl_cons (pd_int) (pdl_cons (pd_str) (pdl_cons (pd_tup (pdl_cons (pd_int) (pdl_cons (pd_non) (pdl_nil)))) (pdl_nil))))))))))))) (pg1_name (i := 1) (pg_name (i := 1) nd rfl (by first | exact Or.inl rfl | exact Or.inr rfl))) (pds_one (pds_if (pdt_cmp (op_neA hu) rd_neA (pd_ofN (pn_lc rfl nd (own := [("call", 2)]) (vs := [2]) (pdi_seq (pd_slice (pd_call mW_law_calls (G_law_calls.mono (by decide)) hgd hr (by rfl) g_law_calls k_law_calls b_law_calls (pda_d (pdl_cons (pd_var (pv 0)) (pdl_cons (pd_var (pv 1)) (pdl_nil))))) (pdo_some (pd_int)) (pdo_none))) (blkOk_by (own := [("call", 2)]) (N := ["want", "odd", "call"]) (sc := defScope s_law_runs_right) (by decide +kernel)) rfl (fun _ _ _ _ _ => pg1_name (i := 2) (pg_name (i := 2) nd rfl (by first | exact Or.inl rfl | exact Or.inr rfl))) (fun _ _ _ _ _ => ptn_nil) (fun _ _ _ _ _ => pd_call (mW_law_outcome C_BadKind C_BadWish C_OutOfPlace) (G_law_outcome.mono (by decide)) hgd hr (by rfl) g_law_outcome k_law_outcome b_law_outcome (pda_d (pdl_cons (pd_var (pv 2)) (pdl_nil)))) s)) (pd_op op_mulX rd_mulX (pd_lst (pdl_cons (pd_str) (pdl_nil))) (pd_int)) (by first | exact nomark _ | rfl)) (pds_one (pds_ret (pd_bl))) (pds_nil))))
    (pds_one (pds_ret (pd_cmp (op_eqA hu) rd_eqA (pd_ofN (pn_lc rfl nd (own := [("call", 2)]) (vs := [2]) (pdi_seq (pd_slice (pd_call mW_law_calls (G_law_calls.mono (by decide)) hgd hr (by rfl) g_law_calls k_law_calls b_law_calls (pda_d (pdl_cons (pd_var (pv 0)) (pdl_cons (pd_op op_mulX rd_mulX (pd_tup (pdl_cons (pd_int) (pdl_nil))) (pd_int)) (pdl_nil))))) (pdo_some (pd_int)) (pdo_none))) (blkOk_by (own := [("call", 2)]) (N := ["want", "odd", "call"]) (sc := defScope s_law_runs_right) (by decide +kernel)) rfl (fun _ _ _ _ _ => pg1_name (i := 2) (pg_name (i := 2) nd rfl (by first | exact Or.inl rfl | exact Or.inr rfl))) (fun _ _ _ _ _ => ptn_nil) (fun _ _ _ _ _ => pd_call (mW_law_outcome C_BadKind C_BadWish C_OutOfPlace) (G_law_outcome.mono (by decide)) hgd hr (by rfl) g_law_outcome k_law_outcome b_law_outcome (pda_d (pdl_cons (pd_var (pv 2)) (pdl_nil)))) s)) (pd_op op_mulX rd_mulX (pd_lst (pdl_cons (pd_non) (pdl_nil))) (pd_int)) (by first | exact nomark _ | rfl))))
theorem runs_loop {C1 C2 C3 : Addr} {q : Int} {T : List (List Int)} {G : List Int} (w : WOK q T G) {n : Nat} {P : Post} : ∀ (l : List D) (a : Sl), (∀ x ∈ l, okD x ∧ runB x q = false ∧ noC 34 x = true) → (∀ a, P.nx ⟨[.d (wishD q T G), a, .no], n⟩) →
    forD (fgN 1) (b_law_runs_right_1 C1 C2 C3) l ⟨[.d (wishD q T G), a, .no], n⟩ P := by
  intro l
  induction l with
  | nil => intro a _ h; exact h a
  | cons x l ih =>
    intro a hl h
    obtain ⟨h1, h2, h3⟩ := hl x List.mem_cons_self
    have ht : tame (.list [.str "place", .str "place", .str "place"]) = true := by decide +kernel
    have hd : (PyData.list [.str "place", .str "place", .str "place"]).depth ≤ 60 := by decide +kernel
    have o2 : (([wishD q T G, x] : List D).map Sl.d).all (okC 34) = true := by show (noC 34 (wishD q T G) && (noC 34 x && true)) = true; rw [h3, noC_wish]; rfl
    have u2 : ∀ n, UB C2 C3 ⟨[.d (wishD q T G), .d x], n⟩ fun c fl ρ' => ρ'.n = n ∧ ((c = .ref C2 ∧ ∃ p' : Str, fl = [(.str "part", .str p')] ∧ (PyData.str "place" : D) = .str p') ∨ (c = .ref C1 ∧ ∃ p' : Str, fl = [(.str "part", .str p')] ∧ (PyData.str "place" : D) = .list [.str p']) ∨ (c = .ref C3 ∧ (PyData.str "place" : D) = .str "place")) :=
      fun n => ⟨wishD q T G, x, rfl, .inr ⟨q, T, G, rfl, w, h1, h2, rfl, .inr (.inr ⟨rfl, rfl⟩)⟩⟩
    unfold forD
    simp [b_law_runs_right_1]
    simp [and_assoc, Rho.set, dropOwn, ftLend, fLend, lendR, frz, ow, nList, -forall_exists_index, fBody, fsSeq, fsIf, fsRet, fsNext, fsDrop, fsAsg, fsNever, fsFor, fsOwn, fsPar2, fsPar3, fsPar_od, fsPar_do, fsPar_oo, fVar, fC, fUn, fOp, fChain, fTup, fLst, fCall, faD, faSt, flCons, flNil, fSl, foSome, foNone, fAnd, fOr, fNot, fIf, fOfN, fn1, fnLst, fnCat, fgN, fgTup, fgCons, fgNil, fiSeq, fiRange1, fiRange2, fiEnumA, fiZip, ftOr, ftAnd, ftNot, ftB, ftT, ftYes, truD_b, truD_i, truD_l, truD_t, truD_n, gIx_t0, gIx_t1, gIx_t2, gSl_t, gSl_l, gIsT, notDict, isT, isN, tyName, gLen_t, gLen_l, gTuple_l, gCmp, gAdd_ii, gAdd_ll, PD.gSub, gNeg, gMod, seqD, forD, wipeR, gEqA, gNeA, gEq_ii, gNe_ii, gEq_tt, gIn_ints, gIn_intsL, gNotIn_ints, gNotIn_intsL, fM0, fM1, fJoined, fJ, flStar, starD, fCall0, gIsTX, noInst_n, noInst_b, noInst_i, noInst_s, noInst_l, noInst_t, fFld, fMeth, fMake, faNil, fsFld, fLendO, fDisp, fpCons, fpNil, fDict0, fiAny, walkD, fiOver, dKeys, dVals, dPairs, fsOwnD, fsPut, fOwnIx, fPop, fsExt, fDc, compK, gInX, gNotInX, gIxX, fGet]
    refine fnComp_i ?_
    simp [and_assoc, Rho.set, dropOwn, ftLend, fLend, lendR, frz, ow, nList, -forall_exists_index, fBody, fsSeq, fsIf, fsRet, fsNext, fsDrop, fsAsg, fsNever, fsFor, fsOwn, fsPar2, fsPar3, fsPar_od, fsPar_do, fsPar_oo, fVar, fC, fUn, fOp, fChain, fTup, fLst, fCall, faD, faSt, flCons, flNil, fSl, foSome, foNone, fAnd, fOr, fNot, fIf, fOfN, fn1, fnLst, fnCat, fgN, fgTup, fgCons, fgNil, fiSeq, fiRange1, fiRange2, fiEnumA, fiZip, ftOr, ftAnd, ftNot, ftB, ftT, ftYes, truD_b, truD_i, truD_l, truD_t, truD_n, gIx_t0, gIx_t1, gIx_t2, gSl_t, gSl_l, gIsT, notDict, isT, isN, tyName, gLen_t, gLen_l, gTuple_l, gCmp, gAdd_ii, gAdd_ll, PD.gSub, gNeg, gMod, seqD, forD, wipeR, gEqA, gNeA, gEq_ii, gNe_ii, gEq_tt, gIn_ints, gIn_intsL, gNotIn_ints, gNotIn_intsL, fM0, fM1, fJoined, fJ, flStar, starD, fCall0, gIsTX, noInst_n, noInst_b, noInst_i, noInst_s, noInst_l, noInst_t, fFld, fMeth, fMake, faNil, fsFld, fLendO, fDisp, fpCons, fpNil, fDict0, fiAny, walkD, fiOver, dKeys, dVals, dPairs, fsOwnD, fsPut, fOwnIx, fPop, fsExt, fDc, compK, gInX, gNotInX, gIxX, fGet]
    refine ⟨wishD q T G, x, rfl, _, rfl, _, rfl, (by show 3 ≤ 1000000; decide), ?_⟩
    refine comp_allD (fun _ => .str "place") [cloD [34, 103, 0, 1] [wishD q T G, x], cloD [34, 104, 0, 1] [wishD q T G, x], cloD [34, 105, 0, 1] [wishD q T G, x]] (fun y hy kt h' => ?_) ?_
    · simp [and_assoc, Rho.set, dropOwn, ftLend, fLend, lendR, frz, ow, nList, -forall_exists_index, fBody, fsSeq, fsIf, fsRet, fsNext, fsDrop, fsAsg, fsNever, fsFor, fsOwn, fsPar2, fsPar3, fsPar_od, fsPar_do, fsPar_oo, fVar, fC, fUn, fOp, fChain, fTup, fLst, fCall, faD, faSt, flCons, flNil, fSl, foSome, foNone, fAnd, fOr, fNot, fIf, fOfN, fn1, fnLst, fnCat, fgN, fgTup, fgCons, fgNil, fiSeq, fiRange1, fiRange2, fiEnumA, fiZip, ftOr, ftAnd, ftNot, ftB, ftT, ftYes, truD_b, truD_i, truD_l, truD_t, truD_n, gIx_t0, gIx_t1, gIx_t2, gSl_t, gSl_l, gIsT, notDict, isT, isN, tyName, gLen_t, gLen_l, gTuple_l, gCmp, gAdd_ii, gAdd_ll, PD.gSub, gNeg, gMod, seqD, forD, wipeR, gEqA, gNeA, gEq_ii, gNe_ii, gEq_tt, gIn_ints, gIn_intsL, gNotIn_ints, gNotIn_intsL, fM0, fM1, fJoined, fJ, flStar, starD, fCall0, gIsTX, noInst_n, noInst_b, noInst_i, noInst_s, noInst_l, noInst_t, fFld, fMeth, fMake, faNil, fsFld, fLendO, fDisp, fpCons, fpNil, fDict0, fiAny, walkD, fiOver, dKeys, dVals, dPairs, fsOwnD, fsPut, fOwnIx, fPop, fsExt, fDc, compK, gInX, gNotInX, gIxX, fGet]
      simp only [List.mem_cons, List.not_mem_nil, or_false] at hy
      rcases hy with rfl | rfl | rfl
      · exact ⟨_, mem3 C1 C2 C3, [wishD q T G, x], .str "place", rfl, ⟨rfl, rfl, o2, .inr (u2 n)⟩, h' _ rfl⟩
      · exact ⟨_, mem4 C1 C2 C3, [wishD q T G, x], .str "place", rfl, ⟨rfl, rfl, o2, .inr (u2 n)⟩, h' _ rfl⟩
      · exact ⟨_, mem5 C1 C2 C3, [wishD q T G, x], .str "place", rfl, ⟨rfl, rfl, o2, .inr (u2 n)⟩, h' _ rfl⟩
    · exact ⟨_, by rfl, .bool false, gNe_self ht hd, .inl ⟨rfl, ih _ (fun z hz => hl z (List.mem_cons_of_mem _ hz)) h⟩⟩
def oddR (q : Int) : List D := [.none, .list [.int 0], .tuple [.int q], .tuple [.int (-1)], .tuple [.bool true], .tuple [.str "0"], .tuple (List.replicate 401 (.int 0)), .int 0, .str "", .tuple [.int 0, .none]]
theorem oddR_ok {q : Int} (q1 : 1 ≤ q) : ∀ x ∈ oddR q, okD x ∧ runB x q = false ∧ noC 34 x = true := by
  have a2 : ∀ {d : D}, numsB d q = false → runB d q = false := fun {d} h => by unfold runB; rw [h]; rfl
  have e1 : numsB (.tuple [.int q]) q = false := by
    show (decide (0 ≤ q ∧ 0 ≤ q ∧ q ≤ q - 1) && true) = false
    rw [decide_eq_false (by omega)]
    rfl
  have e2 : numsB (.tuple [.int 0, .none]) q = false := by
    show (_ && (false && true)) = false
    rw [Bool.false_and, Bool.and_false]
  have o1 : ∀ xs : List D, xs.length ≤ 500 → (∀ x ∈ xs, noInst x = true) → okD (.tuple xs) := fun xs h1 h2 => ⟨by omega, h2⟩
  have s1 : ∀ x : D, noInst x = true → ∀ y ∈ ([x] : List D), noInst y = true := fun x h y hy => by rw [List.mem_singleton.mp hy]; exact h
  refine List.forall_mem_cons.mpr ⟨⟨rfl, a2 rfl, rfl⟩, List.forall_mem_cons.mpr ⟨⟨rfl, a2 rfl, rfl⟩, List.forall_mem_cons.mpr ⟨⟨o1 _ (by simp) (s1 _ rfl), a2 e1, rfl⟩, List.forall_mem_cons.mpr ⟨⟨o1 _ (by decide) (s1 _ rfl), a2 rfl, rfl⟩, List.forall_mem_cons.mpr ⟨⟨o1 _ (by decide) (s1 _ rfl), a2 rfl, rfl⟩, List.forall_mem_cons.mpr ⟨⟨o1 _ (by decide) (s1 _ rfl), a2 rfl, rfl⟩,
    List.forall_mem_cons.mpr ⟨⟨o1 _ (by rw [List.length_replicate]; decide) fun x hx => by rw [List.eq_of_mem_replicate hx]; rfl, ?_, noCs_all fun x hx => by rw [List.eq_of_mem_replicate hx]; rfl⟩, List.forall_mem_cons.mpr ⟨⟨rfl, a2 rfl, rfl⟩, List.forall_mem_cons.mpr ⟨⟨rfl, a2 rfl, rfl⟩, List.forall_mem_cons.mpr ⟨⟨o1 _ (by decide) (List.forall_mem_cons.mpr ⟨rfl, s1 _ rfl⟩), a2 e2, rfl⟩, fun _ h => absurd h List.not_mem_nil⟩⟩⟩⟩⟩⟩⟩⟩⟩⟩
  show (_ && decide (((List.replicate 401 (PyData.int 0)).length : Int) ≤ 400)) = false
  rw [List.length_replicate, decide_eq_false (by decide), Bool.and_false]
theorem fiR {q : Int} {T : List (List Int)} {G : List Int} {s1 s2 : Sl} {n : Nat} (k : List D → Rho → Prop) (z : k (oddR q) ⟨[.d (wishD q T G), s1, s2], n⟩) :
    fiSeq
    (fLst
      (flCons (fC PyData.none)
        (flCons (fLst (flCons (fC (PyData.int 0)) flNil))
          (flCons (fTup (flCons (fOp gIx (fVar 0) (fC (PyData.int 0))) flNil))
            (flCons (fTup (flCons (fUn gNeg (fC (PyData.int 1))) flNil))
              (flCons (fTup (flCons (fC (PyData.bool true)) flNil))
                (flCons (fTup (flCons (fC (PyData.str (Str.ofString "0"))) flNil))
                  (flCons (fOp gMulX (fTup (flCons (fC (PyData.int 0)) flNil)) (fC (PyData.int 401)))
                    (flCons (fC (PyData.int 0))
                      (flCons (fC (PyData.str (Str.ofString "")))
                        (flCons (fTup (flCons (fC (PyData.int 0)) (flCons (fC PyData.none) flNil))) flNil))))))))))) ⟨[.d (wishD q T G), s1, s2], n⟩ k := by
  simp [and_assoc, Rho.set, dropOwn, ftLend, fLend, lendR, frz, ow, nList, -forall_exists_index, fBody, fsSeq, fsIf, fsRet, fsNext, fsDrop, fsAsg, fsNever, fsFor, fsOwn, fsPar2, fsPar3, fsPar_od, fsPar_do, fsPar_oo, fVar, fC, fUn, fOp, fChain, fTup, fLst, fCall, faD, faSt, flCons, flNil, fSl, foSome, foNone, fAnd, fOr, fNot, fIf, fOfN, fn1, fnLst, fnCat, fgN, fgTup, fgCons, fgNil, fiSeq, fiRange1, fiRange2, fiEnumA, fiZip, ftOr, ftAnd, ftNot, ftB, ftT, ftYes, truD_b, truD_i, truD_l, truD_t, truD_n, gIx_t0, gIx_t1, gIx_t2, gSl_t, gSl_l, gIsT, notDict, isT, isN, tyName, gLen_t, gLen_l, gTuple_l, gCmp, gAdd_ii, gAdd_ll, PD.gSub, gNeg, gMod, seqD, forD, wipeR, gEqA, gNeA, gEq_ii, gNe_ii, gEq_tt, gIn_ints, gIn_intsL, gNotIn_ints, gNotIn_intsL, fM0, fM1, fJoined, fJ, flStar, starD, fCall0, gIsTX, noInst_n, noInst_b, noInst_i, noInst_s, noInst_l, noInst_t, fFld, fMeth, fMake, faNil, fsFld, fLendO, fDisp, fpCons, fpNil, fDict0, fiAny, walkD, fiOver, dKeys, dVals, dPairs, fsOwnD, fsPut, fOwnIx, fPop, fsExt, fDc, compK, gInX, gNotInX, gIxX, fGet]
  exact ⟨_, gMulX_t (by decide) (by decide), z⟩
theorem ok_law_runs_right {C1 C2 C3 : Addr} : ∀ ρ k, W_law_runs_right C1 C2 C3 ρ k → fBody 3 (w_law_runs_right C1 C2 C3) ρ k := by
  rintro ⟨sl, n⟩ k ⟨q, T, G, e, w, z⟩
  simp only at e
  subst e
  simp [w_law_runs_right]
  simp only [fBody, fsSeq, fsFor]
  refine fiR _ ?_
  refine runs_loop w (oddR q) .no (oddR_ok w.q1) fun a => ?_
  have hr : ∀ d ∈ List.replicate 400 (0 : Int), Dd q d := fun d hd => by
    rw [List.eq_of_mem_replicate hd]
    have := w.q1
    exact ⟨by decide, by omega⟩
  have et : (PyData.tuple (List.replicate (400 : Int).toNat (.int 0)) : D) = tupI (List.replicate 400 0) := by
    show PyData.tuple (List.replicate 400 (.int 0)) = .tuple ((List.replicate 400 (0 : Int)).map .int)
    rw [List.map_replicate]
  have n2 : noC 34 (tupI (List.replicate 400 (0 : Int))) = true := noC_tupI _
  have o2 : (([wishD q T G, tupI (List.replicate 400 0)] : List D).map Sl.d).all (okC 34) = true := by show (noC 34 (wishD q T G) && (noC 34 (tupI (List.replicate 400 (0 : Int))) && true)) = true; rw [n2, noC_wish]; rfl
  have lr : (List.replicate 400 (0 : Int)).length ≤ 400 := by rw [List.length_replicate]; decide
  generalize hR : List.replicate 400 (0 : Int) = R at et hr o2 n2 lr
  unfold c_law_runs_right_1
  simp [and_assoc, Rho.set, dropOwn, ftLend, fLend, lendR, frz, ow, nList, -forall_exists_index, fBody, fsSeq, fsIf, fsRet, fsNext, fsDrop, fsAsg, fsNever, fsFor, fsOwn, fsPar2, fsPar3, fsPar_od, fsPar_do, fsPar_oo, fVar, fC, fUn, fOp, fChain, fTup, fLst, fCall, faD, faSt, flCons, flNil, fSl, foSome, foNone, fAnd, fOr, fNot, fIf, fOfN, fn1, fnLst, fnCat, fgN, fgTup, fgCons, fgNil, fiSeq, fiRange1, fiRange2, fiEnumA, fiZip, ftOr, ftAnd, ftNot, ftB, ftT, ftYes, truD_b, truD_i, truD_l, truD_t, truD_n, gIx_t0, gIx_t1, gIx_t2, gSl_t, gSl_l, gIsT, notDict, isT, isN, tyName, gLen_t, gLen_l, gTuple_l, gCmp, gAdd_ii, gAdd_ll, PD.gSub, gNeg, gMod, seqD, forD, wipeR, gEqA, gNeA, gEq_ii, gNe_ii, gEq_tt, gIn_ints, gIn_intsL, gNotIn_ints, gNotIn_intsL, fM0, fM1, fJoined, fJ, flStar, starD, fCall0, gIsTX, noInst_n, noInst_b, noInst_i, noInst_s, noInst_l, noInst_t, fFld, fMeth, fMake, faNil, fsFld, fLendO, fDisp, fpCons, fpNil, fDict0, fiAny, walkD, fiOver, dKeys, dVals, dPairs, fsOwnD, fsPut, fOwnIx, fPop, fsExt, fDc, compK, gInX, gNotInX, gIxX, fGet]
  refine fnComp_i ?_
  simp [and_assoc, Rho.set, dropOwn, ftLend, fLend, lendR, frz, ow, nList, -forall_exists_index, fBody, fsSeq, fsIf, fsRet, fsNext, fsDrop, fsAsg, fsNever, fsFor, fsOwn, fsPar2, fsPar3, fsPar_od, fsPar_do, fsPar_oo, fVar, fC, fUn, fOp, fChain, fTup, fLst, fCall, faD, faSt, flCons, flNil, fSl, foSome, foNone, fAnd, fOr, fNot, fIf, fOfN, fn1, fnLst, fnCat, fgN, fgTup, fgCons, fgNil, fiSeq, fiRange1, fiRange2, fiEnumA, fiZip, ftOr, ftAnd, ftNot, ftB, ftT, ftYes, truD_b, truD_i, truD_l, truD_t, truD_n, gIx_t0, gIx_t1, gIx_t2, gSl_t, gSl_l, gIsT, notDict, isT, isN, tyName, gLen_t, gLen_l, gTuple_l, gCmp, gAdd_ii, gAdd_ll, PD.gSub, gNeg, gMod, seqD, forD, wipeR, gEqA, gNeA, gEq_ii, gNe_ii, gEq_tt, gIn_ints, gIn_intsL, gNotIn_ints, gNotIn_intsL, fM0, fM1, fJoined, fJ, flStar, starD, fCall0, gIsTX, noInst_n, noInst_b, noInst_i, noInst_s, noInst_l, noInst_t, fFld, fMeth, fMake, faNil, fsFld, fLendO, fDisp, fpCons, fpNil, fDict0, fiAny, walkD, fiOver, dKeys, dVals, dPairs, fsOwnD, fsPut, fOwnIx, fPop, fsExt, fDc, compK, gInX, gNotInX, gIxX, fGet]
  refine ⟨_, gMulX_t (by decide) (by decide), ?_⟩
  rw [et]
  refine ⟨wishD q T G, tupI R, rfl, _, rfl, _, rfl, (by show 3 ≤ 1000000; decide), ?_⟩
  refine comp_allD (fun _ => .none) [cloD [34, 103, 0, 1] [wishD q T G, tupI R], cloD [34, 104, 0, 1] [wishD q T G, tupI R], cloD [34, 105, 0, 1] [wishD q T G, tupI R]] (fun y hy kt h' => ?_) ?_
  · simp [and_assoc, Rho.set, dropOwn, ftLend, fLend, lendR, frz, ow, nList, -forall_exists_index, fBody, fsSeq, fsIf, fsRet, fsNext, fsDrop, fsAsg, fsNever, fsFor, fsOwn, fsPar2, fsPar3, fsPar_od, fsPar_do, fsPar_oo, fVar, fC, fUn, fOp, fChain, fTup, fLst, fCall, faD, faSt, flCons, flNil, fSl, foSome, foNone, fAnd, fOr, fNot, fIf, fOfN, fn1, fnLst, fnCat, fgN, fgTup, fgCons, fgNil, fiSeq, fiRange1, fiRange2, fiEnumA, fiZip, ftOr, ftAnd, ftNot, ftB, ftT, ftYes, truD_b, truD_i, truD_l, truD_t, truD_n, gIx_t0, gIx_t1, gIx_t2, gSl_t, gSl_l, gIsT, notDict, isT, isN, tyName, gLen_t, gLen_l, gTuple_l, gCmp, gAdd_ii, gAdd_ll, PD.gSub, gNeg, gMod, seqD, forD, wipeR, gEqA, gNeA, gEq_ii, gNe_ii, gEq_tt, gIn_ints, gIn_intsL, gNotIn_ints, gNotIn_intsL, fM0, fM1, fJoined, fJ, flStar, starD, fCall0, gIsTX, noInst_n, noInst_b, noInst_i, noInst_s, noInst_l, noInst_t, fFld, fMeth, fMake, faNil, fsFld, fLendO, fDisp, fpCons, fpNil, fDict0, fiAny, walkD, fiOver, dKeys, dVals, dPairs, fsOwnD, fsPut, fOwnIx, fPop, fsExt, fDc, compK, gInX, gNotInX, gIxX, fGet]
    simp only [List.mem_cons, List.not_mem_nil, or_false] at hy
    rcases hy with rfl | rfl | rfl
    · exact ⟨_, mem3 C1 C2 C3, [wishD q T G, tupI R], .none, rfl, ⟨rfl, rfl, o2, .inl ⟨rfl, q, T, G, R, rfl, ⟨w, lr, hr⟩, rfl⟩⟩, h' _ rfl⟩
    · exact ⟨_, mem4 C1 C2 C3, [wishD q T G, tupI R], .none, rfl, ⟨rfl, rfl, o2, .inl ⟨rfl, q, T, G, R, rfl, ⟨w, lr, hr⟩, rfl⟩⟩, h' _ rfl⟩
    · exact ⟨_, mem5 C1 C2 C3, [wishD q T G, tupI R], .none, rfl, ⟨rfl, rfl, o2, .inl ⟨rfl, q, T, G, R, rfl, ⟨w, lr, hr⟩, fun _ => rfl⟩⟩, h' _ rfl⟩
  · exact ⟨_, by rfl, .bool true, gEq_self (d := .list [.none, .none, .none]) rfl (by decide), z⟩
def W_law : FE := fun ρ k => ∃ ns : List Int, ρ.sl = [.d (.list (ns.map .int))] ∧ ns.length ≤ 63 ∧ ∀ n', k (.bool true) ⟨ρ.sl, n'⟩
abbrev s_law_want : Stmt := top 32
theorem sc_law_want : FnScope ["m", "deeds", "states", "many", "size", "rows", "k", "j", "good"] ["m", "deeds", "states"] (defScope s_law_want) := ⟨rfl, rfl, rfl, by decide +kernel, rfl, by decide +kernel, by decide +kernel⟩
theorem raw_law_want {f : Addr} {fd : FuncData} {a_law_next : Addr} {d_law_next : FuncData} (F : Fun K "_law_want" "_law_want" s_law_want f fd) (T : Txt mg) (g_law_next : mg "_law_next" = some (.ref a_law_next)) (G_law_next : FnG P w K mg base (L2.CX P w) 1 a_law_next d_law_next ["m", "total"] (spD ⟨K, w, P⟩ (MM TT) 2 W_law_next)) (b_law_next : Binds K d_law_next ["m", "total"] []) (k_law_next : PySem.W.keepIn K (.ref a_law_next) = true) : FnG P w K mg base (L2.CX P w) (2) f fd ["m", "deeds", "states"] (spD ⟨K, w, P⟩ (MM TT) 3 (fBody 9 w_law_want)) := by
  refine fnD F sc_law_want fun cdv A outer s H E hgd hr => ?_
  have nd := (sc_law_want).nd
  have hu : (A.deeper (envOfC "_law_want" (defScope s_law_want) s.heap.objs.size f cdv)).units + 64 < cLine := hr.units
  exact pds_cons (pds_asg (pd_tup (pdl_cons (pd_op op_addA rd_add (pd_int) (pd_call mW_law_next (G_law_next.mono (by decide)) hgd hr (by rfl) g_law_next k_law_next b_law_next (pda_st (pv 0) (pdl_cons (pd_var (pv 1)) (pdl_nil))))) (pdl_cons (pd_op op_addA rd_add (pd_int) (pd_call mW_law_next (G_law_next.mono (by decide)) hgd hr (by rfl) g_law_next k_law_next b_law_next (pda_st (pv 0) (pdl_cons (pd_var (pv 2)) (pdl_nil))))) (pdl_nil)))) (pg1_tup (pgn_cons (pg1_name (i := 3) (pg_name (i := 3) nd rfl (by first | exact Or.inl rfl | exact Or.inr rfl))) (pgn_cons (pg1_name (i := 4) (pg_name (i := 4) nd rfl (by first | exact Or.inl rfl | exact Or.inr rfl))) (pgn_nil) (pgs_cons (pg1_name (i := 4) (pg_name (i := 4) nd rfl (by first | exact Or.inl rfl | exact Or.inr rfl))).pg (pgn_nil).pg)) (pgs_cons (pg1_name (i := 3) (pg_name (i := 3) nd rfl (by first | exact Or.inl rfl | exact Or.inr rfl))).pg (pgn_cons (pg1_name (i := 4) (pg_name (i := 4) nd rfl (by first | exact Or.inl rfl | exact Or.inr rfl))) (pgn_nil) (pgs_cons (pg1_name (i := 4) (pg_name (i := 4) nd rfl (by first | exact Or.inl rfl | exact Or.inr rfl))).pg (pgn_nil).pg)).pg)) (pg_tup rfl (pgn_cons (pg1_name (i := 3) (pg_name (i := 3) nd rfl (by first | exact Or.inl rfl | exact Or.inr rfl))) (pgn_cons (pg1_name (i := 4) (pg_name (i := 4) nd rfl (by first | exact Or.inl rfl | exact Or.inr rfl))) (pgn_nil) (pgs_cons (pg1_name (i := 4) (pg_name (i := 4) nd rfl (by first | exact Or.inl rfl | exact Or.inr rfl))).pg (pgn_nil).pg)) (pgs_cons (pg1_name (i := 3) (pg_name (i := 3) nd rfl (by first | exact Or.inl rfl | exact Or.inr rfl))).pg (pgn_cons (pg1_name (i := 4) (pg_name (i := 4) nd rfl (by first | exact Or.inl rfl | exact Or.inr rfl))) (pgn_nil) (pgs_cons (pg1_name (i := 4) (pg_name (i := 4) nd rfl (by first | exact Or.inl rfl | exact Or.inr rfl))).pg (pgn_nil).pg)).pg)).pg)))
    (pds_cons (pds_own (i := 5) (pn_lst (pdl_nil)) (pg_name (i := 5) nd rfl (by first | exact Or.inl rfl | exact Or.inr rfl)))
    (pds_cons (pds_for (fs := b_law_want_1) PassesOwn.never rfl (pdi_range1 (by rfl) T.range (pdl_cons (pd_var (pv 4)) (pdl_nil))) (pg1_name (i := 6) (pg_name (i := 6) nd rfl (by first | exact Or.inl rfl | exact Or.inr rfl))) (pds_one (pds_app (i := 5) (pd_t1 call_tuple_of r1_tuple (by rfl) T.tuple (by decide +kernel) (pd_ofN (pn_lc rfl nd (own := [("j", 7)]) (vs := [7]) (pdi_range1 (by rfl) T.range (pdl_cons (pd_var (pv 3)) (pdl_nil))) (blkOk_by (own := [("j", 7)]) (N := ["m", "deeds", "states", "many", "size", "rows", "k", "j", "good"]) (sc := defScope s_law_want) (by decide +kernel)) rfl (fun _ _ _ _ _ => pg1_name (i := 7) (pg_name (i := 7) nd rfl (by first | exact Or.inl rfl | exact Or.inr rfl))) (fun _ _ _ _ _ => ptn_nil) (fun _ _ _ _ _ => pd_call mW_law_next (G_law_next.mono (by decide)) hgd hr (by rfl) g_law_next k_law_next b_law_next (pda_st (pv 0) (pdl_cons (pd_var (pv 4)) (pdl_nil)))) s))) (pe_bm PySem.F.plainAttrs_list PySem.F.slot_list_append PySem.F.type_list_append mt_append (pv 5) (pa_cons (pd_t1 call_tuple_of r1_tuple (by rfl) T.tuple (by decide +kernel) (pd_ofN (pn_lc rfl nd (own := [("j", 7)]) (vs := [7]) (pdi_range1 (by rfl) T.range (pdl_cons (pd_var (pv 3)) (pdl_nil))) (blkOk_by (own := [("j", 7)]) (N := ["m", "deeds", "states", "many", "size", "rows", "k", "j", "good"]) (sc := defScope s_law_want) (by decide +kernel)) rfl (fun _ _ _ _ _ => pg1_name (i := 7) (pg_name (i := 7) nd rfl (by first | exact Or.inl rfl | exact Or.inr rfl))) (fun _ _ _ _ _ => ptn_nil) (fun _ _ _ _ _ => pd_call mW_law_next (G_law_next.mono (by decide)) hgd hr (by rfl) g_law_next k_law_next b_law_next (pda_st (pv 0) (pdl_cons (pd_var (pv 4)) (pdl_nil)))) s))).pe pa_nil)))))
    (pds_cons (pds_setLc (i := 8) rfl nd rfl rfl (sw_true rfl rfl rfl (by decide +kernel)) (own := [("k", 6)]) (vs := [6]) (pdi_range1 (by rfl) T.range (pdl_cons (pd_var (pv 4)) (pdl_nil))) (blkOk_by (own := [("k", 6)]) (N := ["m", "deeds", "states", "many", "size", "rows", "k", "j", "good"]) (sc := defScope s_law_want) (by decide +kernel)) rfl (fun _ _ _ _ _ => pg1_name (i := 6) (pg_name (i := 6) nd rfl (by first | exact Or.inl rfl | exact Or.inr rfl))) (fun _ _ _ _ _ => ptn_one (pdt_cmp (op_eqA hu) rd_eqA (pd_call mW_law_next (G_law_next.mono (by decide)) hgd hr (by rfl) g_law_next k_law_next b_law_next (pda_st (pv 0) (pdl_cons (pd_int) (pdl_nil)))) (pd_int) (by first | exact nomark _ | rfl))) (fun _ _ _ _ _ => pd_var (pv 6)) s)
    (pds_one (pds_frz1 5 (pds_ret (pd_tup (pdl_cons (pd_var (pv 3)) (pdl_cons (pd_t1 call_tuple_of r1_tuple (by rfl) T.tuple (by decide +kernel) (pd_var (pv 5))) (pdl_cons (pd_t1 call_tuple_of r1_tuple (by rfl) T.tuple (by decide +kernel) (pd_ofN (pn_sortset rfl (by rfl) T.sorted (by rfl) T.set (pd_op op_addA rd_add (pd_var (pv 8)) (pd_lst (pdl_cons (pd_int) (pdl_nil))))))) (pdl_nil)))))))))))
abbrev s_law : Stmt := top 38
theorem sc_law : FnScope ["script", "m", "turn", "want", "whole"] ["script"] (defScope s_law) := ⟨rfl, rfl, rfl, by decide +kernel, rfl, by decide +kernel, by decide +kernel⟩
def b_law_1 (C_BadKind : Addr) (C_BadWish : Addr) (C_OutOfPlace : Addr) : FS := fsSeq (fsAsg (fCall 3 W_law_want (faSt 1 (flCons (fC (.int 4)) (flCons (fC (.int 6)) (flNil))))) (fgN 3))
  (fsIf (ftOr (ftNot (ftT (fCall 1 (W_law_wishes_right C_BadKind C_BadWish C_OutOfPlace) (faD (flCons (fVar 3) (flNil)))))) (ftOr (ftNot (ftT (fCall 1 (W_law_kinds_right C_BadKind C_BadWish C_OutOfPlace) (faD (flCons (fVar 3) (flNil)))))) (ftNot (ftT (fCall 1 (W_law_runs_right C_BadKind C_BadWish C_OutOfPlace) (faD (flCons (fVar 3) (flNil)))))))) (fsRet (fC (.bool false))) (fsNext))
def w_law (C_BadKind : Addr) (C_BadWish : Addr) (C_OutOfPlace : Addr) : FS := fsBegin 1 1 B_law (flCons (fVar 0) (flNil))
  (fsSeq (fsFor (fiRange1 (flCons (fOp gAdd (fC (.int 1)) (fOp gMin2 (fUn gLen (fVar 0)) (fC (.int 3)))) (flNil))) (fgN 2) (b_law_1 C_BadKind C_BadWish C_OutOfPlace))
  (fsSeq (fsAsg (fTup (flCons (fC (.int 4)) (flCons (fOp gMulX (fTup (flCons (fTup (flCons (fC (.int 0)) (flCons (fC (.int 1)) (flCons (fC (.int 2)) (flCons (fC (.int 3)) (flNil)))))) (flNil))) (fC (.int 6))) (flCons (fTup (flCons (fC (.int 0)) (flCons (fC (.int 1)) (flCons (fC (.int 2)) (flCons (fC (.int 3)) (flCons (fC (.int 4)) (flCons (fC (.int 5)) (flNil)))))))) (flNil))))) (fgN 4))
  (fsRet (fAnd (fOp gEqA (fCall 1 W_need_wish (faD (flCons (fVar 4) (flNil)))) (fVar 4)) (fOp gEqA (fCall 1 W_need_wish (faD (flCons (fTup (flCons (fC (.int 1)) (flCons (fTup (flCons (fTup (flCons (fC (.int 0)) (flNil))) (flNil))) (flCons (fTup (flCons (fC (.int 0)) (flNil))) (flNil))))) (flNil)))) (fTup (flCons (fC (.int 1)) (flCons (fTup (flCons (fTup (flCons (fC (.int 0)) (flNil))) (flNil))) (flCons (fTup (flCons (fC (.int 0)) (flNil))) (flNil))))))))))
theorem raw_law {f : Addr} {fd : FuncData} {a_need_wish : Addr} {d_need_wish : FuncData} {a_law_begun : Addr} {d_law_begun : FuncData} {a_law_want : Addr} {d_law_want : FuncData} {a_law_wishes_right : Addr} {d_law_wishes_right : FuncData} {a_law_kinds_right : Addr} {d_law_kinds_right : FuncData} {a_law_runs_right : Addr} {d_law_runs_right : FuncData} {C_BadKind : Addr} {C_BadWish : Addr} {C_OutOfPlace : Addr} (F : Fun K "law" "law" s_law f fd) (T : Txt mg) (g_need_wish : mg "need_wish" = some (.ref a_need_wish)) (g_law_begun : mg "_law_begun" = some (.ref a_law_begun)) (g_law_want : mg "_law_want" = some (.ref a_law_want)) (g_law_wishes_right : mg "_law_wishes_right" = some (.ref a_law_wishes_right)) (g_law_kinds_right : mg "_law_kinds_right" = some (.ref a_law_kinds_right)) (g_law_runs_right : mg "_law_runs_right" = some (.ref a_law_runs_right)) (G_need_wish : FnG P w K mg base (L2.CX P w) 5 a_need_wish d_need_wish ["thing"] (spX ⟨K, w, P⟩ (MM TT) 1 W_need_wish (U_need_wish C_BadWish))) (b_need_wish : Binds K d_need_wish ["thing"] []) (k_need_wish : PySem.W.keepIn K (.ref a_need_wish) = true) (G_law_begun : FnG P w K mg base (L2.CX P w) 1 a_law_begun d_law_begun ["script"] (spB ⟨K, w, P⟩ (MM TT) 1 B_law)) (b_law_begun : Binds K d_law_begun ["script"] []) (k_law_begun : PySem.W.keepIn K (.ref a_law_begun) = true) (G_law_want : FnG P w K mg base (L2.CX P w) 2 a_law_want d_law_want ["m", "deeds", "states"] (spD ⟨K, w, P⟩ (MM TT) 3 W_law_want)) (b_law_want : Binds K d_law_want ["m", "deeds", "states"] []) (k_law_want : PySem.W.keepIn K (.ref a_law_want) = true) (G_law_wishes_right : FnG P w K mg base (L2.CX P w) 10 a_law_wishes_right d_law_wishes_right ["want"] (spD ⟨K, w, P⟩ (MM TT) 1 (W_law_wishes_right C_BadKind C_BadWish C_OutOfPlace))) (b_law_wishes_right : Binds K d_law_wishes_right ["want"] []) (k_law_wishes_right : PySem.W.keepIn K (.ref a_law_wishes_right) = true) (G_law_kinds_right : FnG P w K mg base (L2.CX P w) 10 a_law_kinds_right d_law_kinds_right ["want"] (spD ⟨K, w, P⟩ (MM TT) 1 (W_law_kinds_right C_BadKind C_BadWish C_OutOfPlace))) (b_law_kinds_right : Binds K d_law_kinds_right ["want"] []) (k_law_kinds_right : PySem.W.keepIn K (.ref a_law_kinds_right) = true) (G_law_runs_right : FnG P w K mg base (L2.CX P w) 10 a_law_runs_right d_law_runs_right ["want"] (spD ⟨K, w, P⟩ (MM TT) 1 (W_law_runs_right C_BadKind C_BadWish C_OutOfPlace))) (b_law_runs_right : Binds K d_law_runs_right ["want"] []) (k_law_runs_right : PySem.W.keepIn K (.ref a_law_runs_right) = true) : FnG P w K mg base (L2.CX P w) (11) f fd ["script"] (spD ⟨K, w, P⟩ (MM TT) 1 (fBody 5 (w_law C_BadKind C_BadWish C_OutOfPlace))) := by
  refine fnD F sc_law fun cdv A outer s H E hgd hr => ?_
  have nd := (sc_law).nd
  have hu : (A.deeper (envOfC "law" (defScope s_law) s.heap.objs.size f cdv)).units + 64 < cLine := hr.units
  exact pds_begin (i := 1) (n := 1) (B := B_law) (G_law_begun.mono (by decide)) hgd hr (by rfl) g_law_begun k_law_begun b_law_begun (pdl_cons (pd_var (pv 0)) (pdl_nil)) (pg_name (i := 1) nd rfl (by first | exact Or.inl rfl | exact Or.inr rfl))
    (pds_cons (pds_for (fs := b_law_1 C_BadKind C_BadWish C_OutOfPlace) PassesOwn.never rfl (pdi_range1 (by rfl) T.range (pdl_cons (pd_op op_addA rd_add (pd_int) (pd_b2 (call_min2 rfl) rd_min2 (by rfl) T.min (by decide +kernel) (pd_b1 call_lenA r1_len (by rfl) T.len (by decide +kernel) (pd_var (pv 0))) (pd_int))) (pdl_nil))) (pg1_name (i := 2) (pg_name (i := 2) nd rfl (by first | exact Or.inl rfl | exact Or.inr rfl))) (pds_cons (pds_asg (pd_call mW_law_want (G_law_want.mono (by decide)) hgd hr (by rfl) g_law_want k_law_want b_law_want (pda_st (pv 1) (pdl_cons (pd_int) (pdl_cons (pd_int) (pdl_nil))))) (pg1_name (i := 3) (pg_name (i := 3) nd rfl (by first | exact Or.inl rfl | exact Or.inr rfl))))
    (pds_one (pds_if (PDW.pt (pdw_or (pdt_not (pdt_truth (pd_call (mW_law_wishes_right C_BadKind C_BadWish C_OutOfPlace) (G_law_wishes_right.mono (by decide)) hgd hr (by rfl) g_law_wishes_right k_law_wishes_right b_law_wishes_right (pda_d (pdl_cons (pd_var (pv 3)) (pdl_nil)))))) (pdw_or (pdt_not (pdt_truth (pd_call (mW_law_kinds_right C_BadKind C_BadWish C_OutOfPlace) (G_law_kinds_right.mono (by decide)) hgd hr (by rfl) g_law_kinds_right k_law_kinds_right b_law_kinds_right (pda_d (pdl_cons (pd_var (pv 3)) (pdl_nil)))))) (pdw_or1 (pdt_not (pdt_truth (pd_call (mW_law_runs_right C_BadKind C_BadWish C_OutOfPlace) (G_law_runs_right.mono (by decide)) hgd hr (by rfl) g_law_runs_right k_law_runs_right b_law_runs_right (pda_d (pdl_cons (pd_var (pv 3)) (pdl_nil)))))))))) (pds_one (pds_ret (pd_bl))) (pds_nil)))))
    (pds_cons (pds_asg (pd_tup (pdl_cons (pd_int) (pdl_cons (pd_op op_mulX rd_mulX (pd_tup (pdl_cons (pd_tup (pdl_cons (pd_int) (pdl_cons (pd_int) (pdl_cons (pd_int) (pdl_cons (pd_int) (pdl_nil)))))) (pdl_nil))) (pd_int)) (pdl_cons (pd_tup (pdl_cons (pd_int) (pdl_cons (pd_int) (pdl_cons (pd_int) (pdl_cons (pd_int) (pdl_cons (pd_int) (pdl_cons (pd_int) (pdl_nil)))))))) (pdl_nil))))) (pg1_name (i := 4) (pg_name (i := 4) nd rfl (by first | exact Or.inl rfl | exact Or.inr rfl))))
    (pds_one (pds_ret (pd_and (pd_cmp (op_eqA hu) rd_eqA (pd_call mW_need_wish (G_need_wish.left.mono (by decide)) hgd hr (by rfl) g_need_wish k_need_wish b_need_wish (pda_d (pdl_cons (pd_var (pv 4)) (pdl_nil)))) (pd_var (pv 4)) (by first | exact nomark _ | rfl)) (pd_one (pd_cmp (op_eqA hu) rd_eqA (pd_call mW_need_wish (G_need_wish.left.mono (by decide)) hgd hr (by rfl) g_need_wish k_need_wish b_need_wish (pda_d (pdl_cons (pd_tup (pdl_cons (pd_int) (pdl_cons (pd_tup (pdl_cons (pd_tup (pdl_cons (pd_int) (pdl_nil))) (pdl_nil))) (pdl_cons (pd_tup (pdl_cons (pd_int) (pdl_nil))) (pdl_nil))))) (pdl_nil)))) (pd_tup (pdl_cons (pd_int) (pdl_cons (pd_tup (pdl_cons (pd_tup (pdl_cons (pd_int) (pdl_nil))) (pdl_nil))) (pdl_cons (pd_tup (pdl_cons (pd_int) (pdl_nil))) (pdl_nil))))) (by first | exact nomark _ | rfl))))))))
theorem law_turns {C1 C2 C3 : Addr} (s0 s4 : Sl) : ∀ (js : List Nat) (n : Nat) (x2 x3 : Sl) (P : Post), n + js.length * 1000 ≤ 800000000000 → (∀ (n' : Nat) (x2 x3 : Sl), P.nx ⟨[s0, .st, x2, x3, s4], n'⟩) →
    forD (fgN 2) (b_law_1 C1 C2 C3) (js.map fun i : Nat => PyData.int (i : Int)) ⟨[s0, .st, x2, x3, s4], n⟩ P := by
  intro js
  induction js with
  | nil => intro n x2 x3 P _ h; exact h n x2 x3
  | cons j js ih =>
    intro n x2 x3 P hn h
    rw [List.length_cons, Nat.succ_mul] at hn
    rw [List.map_cons]
    unfold forD
    simp [and_assoc, Rho.set, dropOwn, ftLend, fLend, lendR, frz, ow, nList, -forall_exists_index, fBody, fsSeq, fsIf, fsRet, fsNext, fsDrop, fsAsg, fsNever, fsFor, fsOwn, fsPar2, fsPar3, fsPar_od, fsPar_do, fsPar_oo, fVar, fC, fUn, fOp, fChain, fTup, fLst, fCall, faD, faSt, flCons, flNil, fSl, foSome, foNone, fAnd, fOr, fNot, fIf, fOfN, fn1, fnLst, fnCat, fgN, fgTup, fgCons, fgNil, fiSeq, fiRange1, fiRange2, fiEnumA, fiZip, ftOr, ftAnd, ftNot, ftB, ftT, ftYes, truD_b, truD_i, truD_l, truD_t, truD_n, gIx_t0, gIx_t1, gIx_t2, gSl_t, gSl_l, gIsT, notDict, isT, isN, tyName, gLen_t, gLen_l, gTuple_l, gCmp, gAdd_ii, gAdd_ll, PD.gSub, gNeg, gMod, seqD, forD, wipeR, gEqA, gNeA, gEq_ii, gNe_ii, gEq_tt, gIn_ints, gIn_intsL, gNotIn_ints, gNotIn_intsL, fM0, fM1, fJoined, fJ, flStar, starD, fCall0, gIsTX, noInst_n, noInst_b, noInst_i, noInst_s, noInst_l, noInst_t, fFld, fMeth, fMake, faNil, fsFld, fLendO, fDisp, fpCons, fpNil, fDict0, fiAny, walkD, fiOver, dKeys, dVals, dPairs, fsOwnD, fsPut, fOwnIx, fPop, fsExt, fDc, compK, gInX, gNotInX, gIxX, fGet]
    show b_law_1 C1 C2 C3 _ _
    unfold b_law_1
    simp [and_assoc, Rho.set, dropOwn, ftLend, fLend, lendR, frz, ow, nList, -forall_exists_index, fBody, fsSeq, fsIf, fsRet, fsNext, fsDrop, fsAsg, fsNever, fsFor, fsOwn, fsPar2, fsPar3, fsPar_od, fsPar_do, fsPar_oo, fVar, fC, fUn, fOp, fChain, fTup, fLst, fCall, faD, faSt, flCons, flNil, fSl, foSome, foNone, fAnd, fOr, fNot, fIf, fOfN, fn1, fnLst, fnCat, fgN, fgTup, fgCons, fgNil, fiSeq, fiRange1, fiRange2, fiEnumA, fiZip, ftOr, ftAnd, ftNot, ftB, ftT, ftYes, truD_b, truD_i, truD_l, truD_t, truD_n, gIx_t0, gIx_t1, gIx_t2, gSl_t, gSl_l, gIsT, notDict, isT, isN, tyName, gLen_t, gLen_l, gTuple_l, gCmp, gAdd_ii, gAdd_ll, PD.gSub, gNeg, gMod, seqD, forD, wipeR, gEqA, gNeA, gEq_ii, gNe_ii, gEq_tt, gIn_ints, gIn_intsL, gNotIn_ints, gNotIn_intsL, fM0, fM1, fJoined, fJ, flStar, starD, fCall0, gIsTX, noInst_n, noInst_b, noInst_i, noInst_s, noInst_l, noInst_t, fFld, fMeth, fMake, faNil, fsFld, fLendO, fDisp, fpCons, fpNil, fDict0, fiAny, walkD, fiOver, dKeys, dVals, dPairs, fsOwnD, fsPut, fOwnIx, fPop, fsExt, fDc, compK, gInX, gNotInX, gIxX, fGet]
    refine ⟨4, 6, rfl, ⟨by decide, by decide, by decide, by decide⟩, by simp; omega, fun q T G n1 ⟨w, q3, t4⟩ hn1 => ?_⟩
    have hn1 : n1 ≤ n + 100 := hn1
    simp [and_assoc, Rho.set, dropOwn, ftLend, fLend, lendR, frz, ow, nList, -forall_exists_index, fBody, fsSeq, fsIf, fsRet, fsNext, fsDrop, fsAsg, fsNever, fsFor, fsOwn, fsPar2, fsPar3, fsPar_od, fsPar_do, fsPar_oo, fVar, fC, fUn, fOp, fChain, fTup, fLst, fCall, faD, faSt, flCons, flNil, fSl, foSome, foNone, fAnd, fOr, fNot, fIf, fOfN, fn1, fnLst, fnCat, fgN, fgTup, fgCons, fgNil, fiSeq, fiRange1, fiRange2, fiEnumA, fiZip, ftOr, ftAnd, ftNot, ftB, ftT, ftYes, truD_b, truD_i, truD_l, truD_t, truD_n, gIx_t0, gIx_t1, gIx_t2, gSl_t, gSl_l, gIsT, notDict, isT, isN, tyName, gLen_t, gLen_l, gTuple_l, gCmp, gAdd_ii, gAdd_ll, PD.gSub, gNeg, gMod, seqD, forD, wipeR, gEqA, gNeA, gEq_ii, gNe_ii, gEq_tt, gIn_ints, gIn_intsL, gNotIn_ints, gNotIn_intsL, fM0, fM1, fJoined, fJ, flStar, starD, fCall0, gIsTX, noInst_n, noInst_b, noInst_i, noInst_s, noInst_l, noInst_t, fFld, fMeth, fMake, faNil, fsFld, fLendO, fDisp, fpCons, fpNil, fDict0, fiAny, walkD, fiOver, dKeys, dVals, dPairs, fsOwnD, fsPut, fOwnIx, fPop, fsExt, fDc, compK, gInX, gNotInX, gIxX, fGet]
    exact ⟨q, T, G, rfl, w, .inr ⟨rfl, q, T, G, rfl, w, .inr ⟨rfl, q, T, G, rfl, w, .inr ⟨rfl, ih _ _ _ P (by simp; omega) h⟩⟩⟩⟩
theorem whole_ok : WOK 4 (List.replicate 6 [0, 1, 2, 3]) [0, 1, 2, 3, 4, 5] := by
  refine ⟨by decide, by decide, by decide, by decide, fun r hr => ?_, by decide, by decide, by decide⟩
  rw [List.eq_of_mem_replicate hr]
  refine ⟨by decide, ?_⟩
  decide
theorem one_ok : WOK 1 [[0]] [0] := by
  refine ⟨by decide, by decide, by decide, by decide, fun r hr => ?_, by decide, by decide, by decide⟩
  rw [List.mem_singleton.mp hr]
  exact ⟨by decide, by decide⟩
theorem ok_law {C1 C2 C3 : Addr} : ∀ ρ k, W_law ρ k → fBody 5 (w_law C1 C2 C3) ρ k := by
  rintro ⟨sl, n⟩ k ⟨ns, e, hl, z⟩
  simp only at e z
  subst e
  simp [w_law]
  simp [and_assoc, Rho.set, dropOwn, ftLend, fLend, lendR, frz, ow, nList, -forall_exists_index, fBody, fsSeq, fsIf, fsRet, fsNext, fsDrop, fsAsg, fsNever, fsFor, fsOwn, fsPar2, fsPar3, fsPar_od, fsPar_do, fsPar_oo, fVar, fC, fUn, fOp, fChain, fTup, fLst, fCall, faD, faSt, flCons, flNil, fSl, foSome, foNone, fAnd, fOr, fNot, fIf, fOfN, fn1, fnLst, fnCat, fgN, fgTup, fgCons, fgNil, fiSeq, fiRange1, fiRange2, fiEnumA, fiZip, ftOr, ftAnd, ftNot, ftB, ftT, ftYes, truD_b, truD_i, truD_l, truD_t, truD_n, gIx_t0, gIx_t1, gIx_t2, gSl_t, gSl_l, gIsT, notDict, isT, isN, tyName, gLen_t, gLen_l, gTuple_l, gCmp, gAdd_ii, gAdd_ll, PD.gSub, gNeg, gMod, seqD, forD, wipeR, gEqA, gNeA, gEq_ii, gNe_ii, gEq_tt, gIn_ints, gIn_intsL, gNotIn_ints, gNotIn_intsL, fM0, fM1, fJoined, fJ, flStar, starD, fCall0, gIsTX, noInst_n, noInst_b, noInst_i, noInst_s, noInst_l, noInst_t, fFld, fMeth, fMake, faNil, fsFld, fLendO, fDisp, fpCons, fpNil, fDict0, fiAny, walkD, fiOver, dKeys, dVals, dPairs, fsOwnD, fsPut, fOwnIx, fPop, fsExt, fDc, compK, gInX, gNotInX, gIxX, fGet]
  unfold fsBegin
  simp [and_assoc, Rho.set, dropOwn, ftLend, fLend, lendR, frz, ow, nList, -forall_exists_index, fBody, fsSeq, fsIf, fsRet, fsNext, fsDrop, fsAsg, fsNever, fsFor, fsOwn, fsPar2, fsPar3, fsPar_od, fsPar_do, fsPar_oo, fVar, fC, fUn, fOp, fChain, fTup, fLst, fCall, faD, faSt, flCons, flNil, fSl, foSome, foNone, fAnd, fOr, fNot, fIf, fOfN, fn1, fnLst, fnCat, fgN, fgTup, fgCons, fgNil, fiSeq, fiRange1, fiRange2, fiEnumA, fiZip, ftOr, ftAnd, ftNot, ftB, ftT, ftYes, truD_b, truD_i, truD_l, truD_t, truD_n, gIx_t0, gIx_t1, gIx_t2, gSl_t, gSl_l, gIsT, notDict, isT, isN, tyName, gLen_t, gLen_l, gTuple_l, gCmp, gAdd_ii, gAdd_ll, PD.gSub, gNeg, gMod, seqD, forD, wipeR, gEqA, gNeA, gEq_ii, gNe_ii, gEq_tt, gIn_ints, gIn_intsL, gNotIn_ints, gNotIn_intsL, fM0, fM1, fJoined, fJ, flStar, starD, fCall0, gIsTX, noInst_n, noInst_b, noInst_i, noInst_s, noInst_l, noInst_t, fFld, fMeth, fMake, faNil, fsFld, fLendO, fDisp, fpCons, fpNil, fDict0, fiAny, walkD, fiOver, dKeys, dVals, dPairs, fsOwnD, fsPut, fOwnIx, fPop, fsExt, fDc, compK, gInX, gNotInX, gIxX, fGet]
  refine ⟨?_, ⟨ns, rfl, hl⟩, ?_⟩
  · intro j
    match j with
    | 0 => simp
    | 1 => simp
    | 2 => simp
    | 3 => simp
    | 4 => simp
    | j + 5 => simp
  · obtain ⟨m, hm, hm5⟩ : ∃ m : Nat, gMin2 (PyData.int (ns.length : Int)) (PyData.int 3) = some (.int (m : Int)) ∧ m ≤ 3 := by
      by_cases h : ns.length ≤ 3
      · refine ⟨ns.length, ?_, h⟩
        simp [gMin2]
        omega
      · refine ⟨3, ?_, Nat.le_refl _⟩
        simp [gMin2]
        omega
    refine ⟨_, hm, _, rfl, _, rfl, by omega, by omega, ?_⟩
    rw [show (1 : Int) + (m : Int) = ((1 + m : Nat) : Int) by omega, rangeD_nat]
    refine law_turns _ _ (List.range (1 + m)) 0 .no .no _ (by rw [List.length_range]; omega) fun n' x2 x3 => ?_
    dsimp only
    refine ⟨_, gMulX_t (by decide) (by decide), _, rfl, 4, List.replicate 6 [0, 1, 2, 3], [0, 1, 2, 3, 4, 5], rfl, whole_ok, _, rfl, .bool true, gEq_self (d := wishD 4 (List.replicate 6 [0, 1, 2, 3]) [0, 1, 2, 3, 4, 5]) (by decide +kernel) (by decide +kernel), .inr ⟨rfl, 1, [[0]], [0], rfl, one_ok, .bool true, gEq_self (d := wishD 1 [[0]] [0]) (by decide +kernel) (by decide +kernel), z _⟩⟩
abbrev s_BadKind_init : Stmt := inClass (top 9) 0
theorem sc_BadKind_init : FnScope ["self", "part"] ["self", "part"] (defScope s_BadKind_init) := ⟨rfl, rfl, rfl, by decide +kernel, rfl, by decide +kernel, by decide +kernel⟩
theorem fnx_BadKind {C f : Addr} {fd : FuncData} (F : Fun K "__init__" "BadKind.__init__" s_BadKind_init f fd) (T : Txt mg) (Z : OexC K C) (na : PySem.W.findIn K (.ref C) "part" = some none) (vV : PySem.W.findCls K (.type "ValueError") (.type "type") "__init__" = some (.val (.builtin "ValueError.__init__"))) : FnOk P w K mg base (L2.CX P w) 1 f fd ["self", "part"] (spExA C "part") := by
  refine F.okX sc_BadKind_init (fun vs H Q E ⟨a, v, e, _⟩ => by subst e; rfl) fun cdv A outer s H vs Q E hr ⟨a, v, e, ha, q⟩ => ?_
  subst e
  exact ⟨_, pss_cons (ps_expr (pe_veinit (by rfl) T.ValueError vV (pa_cons (pv 0) (pa_cons (pv 1) pa_nil)))) (pss_one (ps_ost (pv 0) (pv 1))), .ref a, rfl, v, rfl, a, C, [v], rfl, by simp, Z, ha, v, rfl, .ref a, rfl, a, C, rfl, Z, na, .inl ⟨ha, fun dx h1 h2 => q dx h1 h2⟩⟩
abbrev s_BadWish_init : Stmt := inClass (top 8) 0
theorem sc_BadWish_init : FnScope ["self", "part"] ["self", "part"] (defScope s_BadWish_init) := ⟨rfl, rfl, rfl, by decide +kernel, rfl, by decide +kernel, by decide +kernel⟩
theorem fnx_BadWish {C f : Addr} {fd : FuncData} (F : Fun K "__init__" "BadWish.__init__" s_BadWish_init f fd) (T : Txt mg) (Z : OexC K C) (na : PySem.W.findIn K (.ref C) "part" = some none) (vV : PySem.W.findCls K (.type "ValueError") (.type "type") "__init__" = some (.val (.builtin "ValueError.__init__"))) : FnOk P w K mg base (L2.CX P w) 1 f fd ["self", "part"] (spExA C "part") := by
  refine F.okX sc_BadWish_init (fun vs H Q E ⟨a, v, e, _⟩ => by subst e; rfl) fun cdv A outer s H vs Q E hr ⟨a, v, e, ha, q⟩ => ?_
  subst e
  exact ⟨_, pss_cons (ps_expr (pe_veinit (by rfl) T.ValueError vV (pa_cons (pv 0) (pa_cons (pv 1) pa_nil)))) (pss_one (ps_ost (pv 0) (pv 1))), .ref a, rfl, v, rfl, a, C, [v], rfl, by simp, Z, ha, v, rfl, .ref a, rfl, a, C, rfl, Z, na, .inl ⟨ha, fun dx h1 h2 => q dx h1 h2⟩⟩
abbrev s_OutOfPlace_init : Stmt := inClass (top 10) 0
theorem sc_OutOfPlace_init : FnScope ["self", "text"] ["self", "text"] (defScope s_OutOfPlace_init) := ⟨rfl, rfl, rfl, by decide +kernel, rfl, by decide +kernel, by decide +kernel⟩
theorem fnx_OutOfPlace {C f : Addr} {fd : FuncData} (F : Fun K "__init__" "OutOfPlace.__init__" s_OutOfPlace_init f fd) (T : Txt mg) (Z : OexC K C) (vV : PySem.W.findCls K (.type "ValueError") (.type "type") "__init__" = some (.val (.builtin "ValueError.__init__"))) : FnOk P w K mg base (L2.CX P w) 1 f fd ["self", "text"] (spExN C) := by
  refine F.okX sc_OutOfPlace_init (fun vs H Q E ⟨a, v, e, _⟩ => by subst e; rfl) fun cdv A outer s H vs Q E hr ⟨a, v, e, ha, q⟩ => ?_
  subst e
  exact ⟨_, pss_one (ps_expr (pe_veinit (by rfl) T.ValueError vV (pa_cons (pv 0) (pa_cons (pv 1) pa_nil)))), _, rfl, _, rfl, a, C, [v], rfl, by simp, Z, ha, q⟩
theorem exm_of {K : PySem.W.Frag} {S R : Addr} {b : Bool} (h1 : PySem.W.subIn K (.ref S) (.type "BaseException") = some true) (h2 : PySem.W.isClsIn K S = true) (h3 : PySem.W.typeIn K (.ref S) = some (.type "type")) (h4 : PySem.W.subIn K (.ref R) (.ref S) = some b) : PySem.W.exmOne K (.ref R) (.ref S) = some b := by
  have e1 : (PySem.W.subIn K (.ref S) (.type "BaseException") == some true) = true := by rw [h1] <;> rfl
  have h2' : (PySem.W.clsIn K S).isSome = true := h2
  have e2 : ((PySem.W.clsIn K S).isSome && PySem.W.typeIn K (.ref S) == some (.type "type")) = true := by rw [h2', h3] <;> rfl
  unfold PySem.W.exmOne PySem.W.kitCls
  rw [if_pos e1]
  simpa [e2] using h4
theorem all_mk {l : PySem.W.OpenLaw} {w : World} {K : PySem.W.Frag} {h : Heap} {mg : Str → Option Value} {fa : Addr} {f_is_count : Addr} {oc_is_count kV_is_count dc_is_count pm_is_count cd_is_count ct_is_count : Value} {od_is_count an_is_count : Option Addr} {sl_is_count : Array (Option Value)} {f_is_integer : Addr} {oc_is_integer kV_is_integer dc_is_integer pm_is_integer cd_is_integer ct_is_integer : Value} {od_is_integer an_is_integer : Option Addr} {sl_is_integer : Array (Option Value)} {f_is_triple : Addr} {oc_is_triple kV_is_triple dc_is_triple pm_is_triple cd_is_triple ct_is_triple : Value} {od_is_triple an_is_triple : Option Addr} {sl_is_triple : Array (Option Value)} {f_are_numbers : Addr} {oc_are_numbers kV_are_numbers dc_are_numbers pm_are_numbers cd_are_numbers ct_are_numbers : Value} {od_are_numbers an_are_numbers : Option Addr} {sl_are_numbers : Array (Option Value)} {f_are_ascending : Addr} {oc_are_ascending kV_are_ascending dc_are_ascending pm_are_ascending cd_are_ascending ct_are_ascending : Value} {od_are_ascending an_are_ascending : Option Addr} {sl_are_ascending : Array (Option Value)} {f_are_rising : Addr} {oc_are_rising kV_are_rising dc_are_rising pm_are_rising cd_are_rising ct_are_rising : Value} {od_are_rising an_are_rising : Option Addr} {sl_are_rising : Array (Option Value)} {f_need_wish : Addr} {oc_need_wish kV_need_wish dc_need_wish pm_need_wish cd_need_wish ct_need_wish : Value} {od_need_wish an_need_wish : Option Addr} {sl_need_wish : Array (Option Value)} {f_need_run : Addr} {oc_need_run kV_need_run dc_need_run pm_need_run cd_need_run ct_need_run : Value} {od_need_run an_need_run : Option Addr} {sl_need_run : Array (Option Value)} {f_is_run : Addr} {oc_is_run kV_is_run dc_is_run pm_is_run cd_is_run ct_is_run : Value} {od_is_run an_is_run : Option Addr} {sl_is_run : Array (Option Value)} {f_state_behind : Addr} {oc_state_behind kV_state_behind dc_state_behind pm_state_behind cd_state_behind ct_state_behind : Value} {od_state_behind an_state_behind : Option Addr} {sl_state_behind : Array (Option Value)} {f_state_of : Addr} {oc_state_of kV_state_of dc_state_of pm_state_of cd_state_of ct_state_of : Value} {od_state_of an_state_of : Option Addr} {sl_state_of : Array (Option Value)} {f_is_good : Addr} {oc_is_good kV_is_good dc_is_good pm_is_good cd_is_good ct_is_good : Value} {od_is_good an_is_good : Option Addr} {sl_is_good : Array (Option Value)} {f_is_live : Addr} {oc_is_live kV_is_live dc_is_live pm_is_live cd_is_live ct_is_live : Value} {od_is_live an_is_live : Option Addr} {sl_is_live : Array (Option Value)} {f_live_states : Addr} {oc_live_states kV_live_states dc_live_states pm_live_states cd_live_states ct_live_states : Value} {od_live_states an_live_states : Option Addr} {sl_live_states : Array (Option Value)} {f_are_steps : Addr} {oc_are_steps kV_are_steps dc_are_steps pm_are_steps cd_are_steps ct_are_steps : Value} {od_are_steps an_are_steps : Option Addr} {sl_are_steps : Array (Option Value)} {f_with_those_ahead : Addr} {oc_with_those_ahead kV_with_those_ahead dc_with_those_ahead pm_with_those_ahead cd_with_those_ahead ct_with_those_ahead : Value} {od_with_those_ahead an_with_those_ahead : Option Addr} {sl_with_those_ahead : Array (Option Value)} {f_need_kind : Addr} {oc_need_kind kV_need_kind dc_need_kind pm_need_kind cd_need_kind ct_need_kind : Value} {od_need_kind an_need_kind : Option Addr} {sl_need_kind : Array (Option Value)} {f_law_begun : Addr} {oc_law_begun kV_law_begun dc_law_begun pm_law_begun cd_law_begun ct_law_begun : Value} {od_law_begun an_law_begun : Option Addr} {sl_law_begun : Array (Option Value)} {f_law_next : Addr} {oc_law_next kV_law_next dc_law_next pm_law_next cd_law_next ct_law_next : Value} {od_law_next an_law_next : Option Addr} {sl_law_next : Array (Option Value)} {f_law_want : Addr} {oc_law_want kV_law_want dc_law_want pm_law_want cd_law_want ct_law_want : Value} {od_law_want an_law_want : Option Addr} {sl_law_want : Array (Option Value)} {f_law_outcome : Addr} {oc_law_outcome kV_law_outcome dc_law_outcome pm_law_outcome cd_law_outcome ct_law_outcome : Value} {od_law_outcome an_law_outcome : Option Addr} {sl_law_outcome : Array (Option Value)} {f_law_calls : Addr} {oc_law_calls kV_law_calls dc_law_calls pm_law_calls cd_law_calls ct_law_calls : Value} {od_law_calls an_law_calls : Option Addr} {sl_law_calls : Array (Option Value)} {f_law_wishes_right : Addr} {oc_law_wishes_right kV_law_wishes_right dc_law_wishes_right pm_law_wishes_right cd_law_wishes_right ct_law_wishes_right : Value} {od_law_wishes_right an_law_wishes_right : Option Addr} {sl_law_wishes_right : Array (Option Value)} {f_law_kinds_right : Addr} {oc_law_kinds_right kV_law_kinds_right dc_law_kinds_right pm_law_kinds_right cd_law_kinds_right ct_law_kinds_right : Value} {od_law_kinds_right an_law_kinds_right : Option Addr} {sl_law_kinds_right : Array (Option Value)} {f_law_runs_right : Addr} {oc_law_runs_right kV_law_runs_right dc_law_runs_right pm_law_runs_right cd_law_runs_right ct_law_runs_right : Value} {od_law_runs_right an_law_runs_right : Option Addr} {sl_law_runs_right : Array (Option Value)} {f_law : Addr} {oc_law kV_law dc_law pm_law cd_law ct_law : Value} {od_law an_law : Option Addr} {sl_law : Array (Option Value)} {q_law_calls : Addr} {q_law_kinds_right : Addr} {t_LONGEST_RUN : PySem.Tok} {t_MOST_AHEAD : PySem.Tok} {t_MOST_DEEDS : PySem.Tok} {t_MOST_HELD : PySem.Tok} {t_MOST_STATES : PySem.Tok} {C_BadKind : Addr} {C_BadWish : Addr} {C_OutOfPlace : Addr} {nm_BadKind q_BadKind : Str} {N_BadKind : Addr} {bs_BadKind bm_BadKind : List Value} {sn_BadKind : List Str} {sub_BadKind : List Value} {ab_BadKind : Bool} {col_BadKind : Option Bool} {dd_BadKind : Option Addr} {m0_BadKind m1_BadKind m2_BadKind m3_BadKind m5_BadKind : Option Value} {f_BadKind_init : Addr} {oc_BadKind kV_BadKind dc_BadKind pm_BadKind cd_BadKind ct_BadKind : Value} {od_BadKind an_BadKind : Option Addr} {sl_BadKind : Array (Option Value)} {nm_BadWish q_BadWish : Str} {N_BadWish : Addr} {bs_BadWish bm_BadWish : List Value} {sn_BadWish : List Str} {sub_BadWish : List Value} {ab_BadWish : Bool} {col_BadWish : Option Bool} {dd_BadWish : Option Addr} {m0_BadWish m1_BadWish m2_BadWish m3_BadWish m5_BadWish : Option Value} {f_BadWish_init : Addr} {oc_BadWish kV_BadWish dc_BadWish pm_BadWish cd_BadWish ct_BadWish : Value} {od_BadWish an_BadWish : Option Addr} {sl_BadWish : Array (Option Value)} {nm_OutOfPlace q_OutOfPlace : Str} {N_OutOfPlace : Addr} {bs_OutOfPlace bm_OutOfPlace : List Value} {sn_OutOfPlace : List Str} {sub_OutOfPlace : List Value} {ab_OutOfPlace : Bool} {col_OutOfPlace : Option Bool} {dd_OutOfPlace : Option Addr} {m0_OutOfPlace m1_OutOfPlace m2_OutOfPlace m3_OutOfPlace m5_OutOfPlace : Option Value} {f_OutOfPlace_init : Addr} {oc_OutOfPlace kV_OutOfPlace dc_OutOfPlace pm_OutOfPlace cd_OutOfPlace ct_OutOfPlace : Value} {od_OutOfPlace an_OutOfPlace : Option Addr} {sl_OutOfPlace : Array (Option Value)} (X : K.In h) (G : h.Ns mainGlobals mg) (hfa : mg "law" = some (.ref fa)) (pP : l.prog = PySem.Challenge.pw_guardkeeps_k02_wishes_kinds_and_runs_ref) (HT : ∀ g ∈ (["_law_calls", "_law_kinds_right"] : List Str), ∃ c Pt, TabAt mg h g c Pt)
    (a_BadKind : PySem.W.nsIn K mainGlobals "BadKind" = some (some (.ref C_BadKind)))
    (a_BadWish : PySem.W.nsIn K mainGlobals "BadWish" = some (some (.ref C_BadWish)))
    (a_OutOfPlace : PySem.W.nsIn K mainGlobals "OutOfPlace" = some (some (.ref C_OutOfPlace)))
    (eC_BadKind : PySem.W.subIn K (.ref C_BadKind) (.type "BaseException") = some true)
    (tC_BadKind : PySem.W.typeIn K (.ref C_BadKind) = some (.type "type"))
    (iC_BadKind : PySem.W.isClsIn K C_BadKind = true)
    (sC_BadKind : PySem.W.subIn K (.ref C_BadKind) (.ref C_BadKind) = some true)
    (sC_BadKind_BadWish : PySem.W.subIn K (.ref C_BadKind) (.ref C_BadWish) = some false)
    (sC_BadKind_OutOfPlace : PySem.W.subIn K (.ref C_BadKind) (.ref C_OutOfPlace) = some false)
    (eC_BadWish : PySem.W.subIn K (.ref C_BadWish) (.type "BaseException") = some true)
    (tC_BadWish : PySem.W.typeIn K (.ref C_BadWish) = some (.type "type"))
    (iC_BadWish : PySem.W.isClsIn K C_BadWish = true)
    (sC_BadWish : PySem.W.subIn K (.ref C_BadWish) (.ref C_BadWish) = some true)
    (sC_BadWish_BadKind : PySem.W.subIn K (.ref C_BadWish) (.ref C_BadKind) = some false)
    (sC_BadWish_OutOfPlace : PySem.W.subIn K (.ref C_BadWish) (.ref C_OutOfPlace) = some false)
    (eC_OutOfPlace : PySem.W.subIn K (.ref C_OutOfPlace) (.type "BaseException") = some true)
    (tC_OutOfPlace : PySem.W.typeIn K (.ref C_OutOfPlace) = some (.type "type"))
    (iC_OutOfPlace : PySem.W.isClsIn K C_OutOfPlace = true)
    (sC_OutOfPlace : PySem.W.subIn K (.ref C_OutOfPlace) (.ref C_OutOfPlace) = some true)
    (sC_OutOfPlace_BadKind : PySem.W.subIn K (.ref C_OutOfPlace) (.ref C_BadKind) = some false)
    (sC_OutOfPlace_BadWish : PySem.W.subIn K (.ref C_OutOfPlace) (.ref C_BadWish) = some false)
    (xl_BadKind : K.lookup C_BadKind = some (excClassObj nm_BadKind q_BadKind C_BadKind N_BadKind bs_BadKind bm_BadKind true sn_BadKind sub_BadKind ab_BadKind col_BadKind dd_BadKind m0_BadKind m1_BadKind m2_BadKind m3_BadKind m5_BadKind "ValueError.__new__"))
    (rv_BadKind : PySem.HandSPX.refsVE bm_BadKind = true)
    (sa_BadKind : PySem.W.findIn K (.ref C_BadKind) "__setattr__" = some (some (.builtin "object.__setattr__")))
    (kC_BadKind : PySem.W.keepIn K (.ref C_BadKind) = true)
    (a_BadKind_init : PySem.W.findIn K (.ref C_BadKind) "__init__" = some (some (.ref f_BadKind_init)))
    (tI_BadKind : PySem.W.typeIn K (.ref f_BadKind_init) = some (.type "function"))
    (l_BadKind_init : K.lookup f_BadKind_init = some ⟨oc_BadKind, od_BadKind, .func (PySem.W.fnOf "__init__" "BadKind.__init__" (defArgs s_BadKind_init) (defBody s_BadKind_init) (defScope s_BadKind_init) .none kV_BadKind dc_BadKind pm_BadKind an_BadKind cd_BadKind ct_BadKind), sl_BadKind⟩)
    (c_BadKind_init : PySem.W.codeIn K cd_BadKind "BadKind.__init__" = true)
    (k_BadKind_init : PySem.W.keepIn K (.ref f_BadKind_init) = true)
    (nx_BadKind : PySem.W.findIn K (.ref C_BadKind) "part" = some none)
    (xl_BadWish : K.lookup C_BadWish = some (excClassObj nm_BadWish q_BadWish C_BadWish N_BadWish bs_BadWish bm_BadWish true sn_BadWish sub_BadWish ab_BadWish col_BadWish dd_BadWish m0_BadWish m1_BadWish m2_BadWish m3_BadWish m5_BadWish "ValueError.__new__"))
    (rv_BadWish : PySem.HandSPX.refsVE bm_BadWish = true)
    (sa_BadWish : PySem.W.findIn K (.ref C_BadWish) "__setattr__" = some (some (.builtin "object.__setattr__")))
    (kC_BadWish : PySem.W.keepIn K (.ref C_BadWish) = true)
    (a_BadWish_init : PySem.W.findIn K (.ref C_BadWish) "__init__" = some (some (.ref f_BadWish_init)))
    (tI_BadWish : PySem.W.typeIn K (.ref f_BadWish_init) = some (.type "function"))
    (l_BadWish_init : K.lookup f_BadWish_init = some ⟨oc_BadWish, od_BadWish, .func (PySem.W.fnOf "__init__" "BadWish.__init__" (defArgs s_BadWish_init) (defBody s_BadWish_init) (defScope s_BadWish_init) .none kV_BadWish dc_BadWish pm_BadWish an_BadWish cd_BadWish ct_BadWish), sl_BadWish⟩)
    (c_BadWish_init : PySem.W.codeIn K cd_BadWish "BadWish.__init__" = true)
    (k_BadWish_init : PySem.W.keepIn K (.ref f_BadWish_init) = true)
    (nx_BadWish : PySem.W.findIn K (.ref C_BadWish) "part" = some none)
    (xl_OutOfPlace : K.lookup C_OutOfPlace = some (excClassObj nm_OutOfPlace q_OutOfPlace C_OutOfPlace N_OutOfPlace bs_OutOfPlace bm_OutOfPlace true sn_OutOfPlace sub_OutOfPlace ab_OutOfPlace col_OutOfPlace dd_OutOfPlace m0_OutOfPlace m1_OutOfPlace m2_OutOfPlace m3_OutOfPlace m5_OutOfPlace "ValueError.__new__"))
    (rv_OutOfPlace : PySem.HandSPX.refsVE bm_OutOfPlace = true)
    (sa_OutOfPlace : PySem.W.findIn K (.ref C_OutOfPlace) "__setattr__" = some (some (.builtin "object.__setattr__")))
    (kC_OutOfPlace : PySem.W.keepIn K (.ref C_OutOfPlace) = true)
    (a_OutOfPlace_init : PySem.W.findIn K (.ref C_OutOfPlace) "__init__" = some (some (.ref f_OutOfPlace_init)))
    (tI_OutOfPlace : PySem.W.typeIn K (.ref f_OutOfPlace_init) = some (.type "function"))
    (l_OutOfPlace_init : K.lookup f_OutOfPlace_init = some ⟨oc_OutOfPlace, od_OutOfPlace, .func (PySem.W.fnOf "__init__" "OutOfPlace.__init__" (defArgs s_OutOfPlace_init) (defBody s_OutOfPlace_init) (defScope s_OutOfPlace_init) .none kV_OutOfPlace dc_OutOfPlace pm_OutOfPlace an_OutOfPlace cd_OutOfPlace ct_OutOfPlace), sl_OutOfPlace⟩)
    (c_OutOfPlace_init : PySem.W.codeIn K cd_OutOfPlace "OutOfPlace.__init__" = true)
    (k_OutOfPlace_init : PySem.W.keepIn K (.ref f_OutOfPlace_init) = true)
    (vV_ValueError : PySem.W.findCls K (.type "ValueError") (.type "type") "__init__" = some (.val (.builtin "ValueError.__init__")))
    (a_is_count : PySem.W.nsIn K mainGlobals "is_count" = some (some (.ref f_is_count)))
    (l_is_count : K.lookup f_is_count = some ⟨oc_is_count, od_is_count, .func (PySem.W.fnOf "is_count" "is_count" (defArgs s_is_count) (defBody s_is_count) (defScope s_is_count) .none kV_is_count dc_is_count pm_is_count an_is_count cd_is_count ct_is_count), sl_is_count⟩)
    (c_is_count : PySem.W.codeIn K cd_is_count "is_count" = true)
    (k_is_count : PySem.W.keepIn K (.ref f_is_count) = true)
    (a_is_integer : PySem.W.nsIn K mainGlobals "is_integer" = some (some (.ref f_is_integer)))
    (l_is_integer : K.lookup f_is_integer = some ⟨oc_is_integer, od_is_integer, .func (PySem.W.fnOf "is_integer" "is_integer" (defArgs s_is_integer) (defBody s_is_integer) (defScope s_is_integer) .none kV_is_integer dc_is_integer pm_is_integer an_is_integer cd_is_integer ct_is_integer), sl_is_integer⟩)
    (c_is_integer : PySem.W.codeIn K cd_is_integer "is_integer" = true)
    (k_is_integer : PySem.W.keepIn K (.ref f_is_integer) = true)
    (a_is_triple : PySem.W.nsIn K mainGlobals "is_triple" = some (some (.ref f_is_triple)))
    (l_is_triple : K.lookup f_is_triple = some ⟨oc_is_triple, od_is_triple, .func (PySem.W.fnOf "is_triple" "is_triple" (defArgs s_is_triple) (defBody s_is_triple) (defScope s_is_triple) .none kV_is_triple dc_is_triple pm_is_triple an_is_triple cd_is_triple ct_is_triple), sl_is_triple⟩)
    (c_is_triple : PySem.W.codeIn K cd_is_triple "is_triple" = true)
    (k_is_triple : PySem.W.keepIn K (.ref f_is_triple) = true)
    (a_are_numbers : PySem.W.nsIn K mainGlobals "are_numbers" = some (some (.ref f_are_numbers)))
    (l_are_numbers : K.lookup f_are_numbers = some ⟨oc_are_numbers, od_are_numbers, .func (PySem.W.fnOf "are_numbers" "are_numbers" (defArgs s_are_numbers) (defBody s_are_numbers) (defScope s_are_numbers) .none kV_are_numbers dc_are_numbers pm_are_numbers an_are_numbers cd_are_numbers ct_are_numbers), sl_are_numbers⟩)
    (c_are_numbers : PySem.W.codeIn K cd_are_numbers "are_numbers" = true)
    (k_are_numbers : PySem.W.keepIn K (.ref f_are_numbers) = true)
    (a_are_ascending : PySem.W.nsIn K mainGlobals "are_ascending" = some (some (.ref f_are_ascending)))
    (l_are_ascending : K.lookup f_are_ascending = some ⟨oc_are_ascending, od_are_ascending, .func (PySem.W.fnOf "are_ascending" "are_ascending" (defArgs s_are_ascending) (defBody s_are_ascending) (defScope s_are_ascending) .none kV_are_ascending dc_are_ascending pm_are_ascending an_are_ascending cd_are_ascending ct_are_ascending), sl_are_ascending⟩)
    (c_are_ascending : PySem.W.codeIn K cd_are_ascending "are_ascending" = true)
    (k_are_ascending : PySem.W.keepIn K (.ref f_are_ascending) = true)
    (a_are_rising : PySem.W.nsIn K mainGlobals "are_rising" = some (some (.ref f_are_rising)))
    (l_are_rising : K.lookup f_are_rising = some ⟨oc_are_rising, od_are_rising, .func (PySem.W.fnOf "are_rising" "are_rising" (defArgs s_are_rising) (defBody s_are_rising) (defScope s_are_rising) .none kV_are_rising dc_are_rising pm_are_rising an_are_rising cd_are_rising ct_are_rising), sl_are_rising⟩)
    (c_are_rising : PySem.W.codeIn K cd_are_rising "are_rising" = true)
    (k_are_rising : PySem.W.keepIn K (.ref f_are_rising) = true)
    (a_need_wish : PySem.W.nsIn K mainGlobals "need_wish" = some (some (.ref f_need_wish)))
    (l_need_wish : K.lookup f_need_wish = some ⟨oc_need_wish, od_need_wish, .func (PySem.W.fnOf "need_wish" "need_wish" (defArgs s_need_wish) (defBody s_need_wish) (defScope s_need_wish) .none kV_need_wish dc_need_wish pm_need_wish an_need_wish cd_need_wish ct_need_wish), sl_need_wish⟩)
    (c_need_wish : PySem.W.codeIn K cd_need_wish "need_wish" = true)
    (k_need_wish : PySem.W.keepIn K (.ref f_need_wish) = true)
    (a_need_run : PySem.W.nsIn K mainGlobals "need_run" = some (some (.ref f_need_run)))
    (l_need_run : K.lookup f_need_run = some ⟨oc_need_run, od_need_run, .func (PySem.W.fnOf "need_run" "need_run" (defArgs s_need_run) (defBody s_need_run) (defScope s_need_run) .none kV_need_run dc_need_run pm_need_run an_need_run cd_need_run ct_need_run), sl_need_run⟩)
    (c_need_run : PySem.W.codeIn K cd_need_run "need_run" = true)
    (k_need_run : PySem.W.keepIn K (.ref f_need_run) = true)
    (a_is_run : PySem.W.nsIn K mainGlobals "is_run" = some (some (.ref f_is_run)))
    (l_is_run : K.lookup f_is_run = some ⟨oc_is_run, od_is_run, .func (PySem.W.fnOf "is_run" "is_run" (defArgs s_is_run) (defBody s_is_run) (defScope s_is_run) .none kV_is_run dc_is_run pm_is_run an_is_run cd_is_run ct_is_run), sl_is_run⟩)
    (c_is_run : PySem.W.codeIn K cd_is_run "is_run" = true)
    (k_is_run : PySem.W.keepIn K (.ref f_is_run) = true)
    (a_state_behind : PySem.W.nsIn K mainGlobals "state_behind" = some (some (.ref f_state_behind)))
    (l_state_behind : K.lookup f_state_behind = some ⟨oc_state_behind, od_state_behind, .func (PySem.W.fnOf "state_behind" "state_behind" (defArgs s_state_behind) (defBody s_state_behind) (defScope s_state_behind) .none kV_state_behind dc_state_behind pm_state_behind an_state_behind cd_state_behind ct_state_behind), sl_state_behind⟩)
    (c_state_behind : PySem.W.codeIn K cd_state_behind "state_behind" = true)
    (k_state_behind : PySem.W.keepIn K (.ref f_state_behind) = true)
    (a_state_of : PySem.W.nsIn K mainGlobals "state_of" = some (some (.ref f_state_of)))
    (l_state_of : K.lookup f_state_of = some ⟨oc_state_of, od_state_of, .func (PySem.W.fnOf "state_of" "state_of" (defArgs s_state_of) (defBody s_state_of) (defScope s_state_of) .none kV_state_of dc_state_of pm_state_of an_state_of cd_state_of ct_state_of), sl_state_of⟩)
    (c_state_of : PySem.W.codeIn K cd_state_of "state_of" = true)
    (k_state_of : PySem.W.keepIn K (.ref f_state_of) = true)
    (a_is_good : PySem.W.nsIn K mainGlobals "is_good" = some (some (.ref f_is_good)))
    (l_is_good : K.lookup f_is_good = some ⟨oc_is_good, od_is_good, .func (PySem.W.fnOf "is_good" "is_good" (defArgs s_is_good) (defBody s_is_good) (defScope s_is_good) .none kV_is_good dc_is_good pm_is_good an_is_good cd_is_good ct_is_good), sl_is_good⟩)
    (c_is_good : PySem.W.codeIn K cd_is_good "is_good" = true)
    (k_is_good : PySem.W.keepIn K (.ref f_is_good) = true)
    (a_is_live : PySem.W.nsIn K mainGlobals "is_live" = some (some (.ref f_is_live)))
    (l_is_live : K.lookup f_is_live = some ⟨oc_is_live, od_is_live, .func (PySem.W.fnOf "is_live" "is_live" (defArgs s_is_live) (defBody s_is_live) (defScope s_is_live) .none kV_is_live dc_is_live pm_is_live an_is_live cd_is_live ct_is_live), sl_is_live⟩)
    (c_is_live : PySem.W.codeIn K cd_is_live "is_live" = true)
    (k_is_live : PySem.W.keepIn K (.ref f_is_live) = true)
    (a_live_states : PySem.W.nsIn K mainGlobals "live_states" = some (some (.ref f_live_states)))
    (l_live_states : K.lookup f_live_states = some ⟨oc_live_states, od_live_states, .func (PySem.W.fnOf "live_states" "live_states" (defArgs s_live_states) (defBody s_live_states) (defScope s_live_states) .none kV_live_states dc_live_states pm_live_states an_live_states cd_live_states ct_live_states), sl_live_states⟩)
    (c_live_states : PySem.W.codeIn K cd_live_states "live_states" = true)
    (k_live_states : PySem.W.keepIn K (.ref f_live_states) = true)
    (a_are_steps : PySem.W.nsIn K mainGlobals "_are_steps" = some (some (.ref f_are_steps)))
    (l_are_steps : K.lookup f_are_steps = some ⟨oc_are_steps, od_are_steps, .func (PySem.W.fnOf "_are_steps" "_are_steps" (defArgs s_are_steps) (defBody s_are_steps) (defScope s_are_steps) .none kV_are_steps dc_are_steps pm_are_steps an_are_steps cd_are_steps ct_are_steps), sl_are_steps⟩)
    (c_are_steps : PySem.W.codeIn K cd_are_steps "_are_steps" = true)
    (k_are_steps : PySem.W.keepIn K (.ref f_are_steps) = true)
    (a_with_those_ahead : PySem.W.nsIn K mainGlobals "_with_those_ahead" = some (some (.ref f_with_those_ahead)))
    (l_with_those_ahead : K.lookup f_with_those_ahead = some ⟨oc_with_those_ahead, od_with_those_ahead, .func (PySem.W.fnOf "_with_those_ahead" "_with_those_ahead" (defArgs s_with_those_ahead) (defBody s_with_those_ahead) (defScope s_with_those_ahead) .none kV_with_those_ahead dc_with_those_ahead pm_with_those_ahead an_with_those_ahead cd_with_those_ahead ct_with_those_ahead), sl_with_those_ahead⟩)
    (c_with_those_ahead : PySem.W.codeIn K cd_with_those_ahead "_with_those_ahead" = true)
    (k_with_those_ahead : PySem.W.keepIn K (.ref f_with_those_ahead) = true)
    (a_need_kind : PySem.W.nsIn K mainGlobals "need_kind" = some (some (.ref f_need_kind)))
    (l_need_kind : K.lookup f_need_kind = some ⟨oc_need_kind, od_need_kind, .func (PySem.W.fnOf "need_kind" "need_kind" (defArgs s_need_kind) (defBody s_need_kind) (defScope s_need_kind) .none kV_need_kind dc_need_kind pm_need_kind an_need_kind cd_need_kind ct_need_kind), sl_need_kind⟩)
    (c_need_kind : PySem.W.codeIn K cd_need_kind "need_kind" = true)
    (k_need_kind : PySem.W.keepIn K (.ref f_need_kind) = true)
    (a_law_begun : PySem.W.nsIn K mainGlobals "_law_begun" = some (some (.ref f_law_begun)))
    (l_law_begun : K.lookup f_law_begun = some ⟨oc_law_begun, od_law_begun, .func (PySem.W.fnOf "_law_begun" "_law_begun" (defArgs s_law_begun) (defBody s_law_begun) (defScope s_law_begun) .none kV_law_begun dc_law_begun pm_law_begun an_law_begun cd_law_begun ct_law_begun), sl_law_begun⟩)
    (c_law_begun : PySem.W.codeIn K cd_law_begun "_law_begun" = true)
    (k_law_begun : PySem.W.keepIn K (.ref f_law_begun) = true)
    (a_law_next : PySem.W.nsIn K mainGlobals "_law_next" = some (some (.ref f_law_next)))
    (l_law_next : K.lookup f_law_next = some ⟨oc_law_next, od_law_next, .func (PySem.W.fnOf "_law_next" "_law_next" (defArgs s_law_next) (defBody s_law_next) (defScope s_law_next) .none kV_law_next dc_law_next pm_law_next an_law_next cd_law_next ct_law_next), sl_law_next⟩)
    (c_law_next : PySem.W.codeIn K cd_law_next "_law_next" = true)
    (k_law_next : PySem.W.keepIn K (.ref f_law_next) = true)
    (a_law_want : PySem.W.nsIn K mainGlobals "_law_want" = some (some (.ref f_law_want)))
    (l_law_want : K.lookup f_law_want = some ⟨oc_law_want, od_law_want, .func (PySem.W.fnOf "_law_want" "_law_want" (defArgs s_law_want) (defBody s_law_want) (defScope s_law_want) .none kV_law_want dc_law_want pm_law_want an_law_want cd_law_want ct_law_want), sl_law_want⟩)
    (c_law_want : PySem.W.codeIn K cd_law_want "_law_want" = true)
    (k_law_want : PySem.W.keepIn K (.ref f_law_want) = true)
    (a_law_outcome : PySem.W.nsIn K mainGlobals "_law_outcome" = some (some (.ref f_law_outcome)))
    (l_law_outcome : K.lookup f_law_outcome = some ⟨oc_law_outcome, od_law_outcome, .func (PySem.W.fnOf "_law_outcome" "_law_outcome" (defArgs s_law_outcome) (defBody s_law_outcome) (defScope s_law_outcome) .none kV_law_outcome dc_law_outcome pm_law_outcome an_law_outcome cd_law_outcome ct_law_outcome), sl_law_outcome⟩)
    (c_law_outcome : PySem.W.codeIn K cd_law_outcome "_law_outcome" = true)
    (k_law_outcome : PySem.W.keepIn K (.ref f_law_outcome) = true)
    (a_law_calls : PySem.W.nsIn K mainGlobals "_law_calls" = some (some (.ref f_law_calls)))
    (l_law_calls : K.lookup f_law_calls = some ⟨oc_law_calls, od_law_calls, .func (PySem.W.fnOf "_law_calls" "_law_calls" (defArgs s_law_calls) (defBody s_law_calls) (defScope s_law_calls) .none kV_law_calls dc_law_calls pm_law_calls an_law_calls cd_law_calls ct_law_calls), sl_law_calls⟩)
    (c_law_calls : PySem.W.codeIn K cd_law_calls "_law_calls" = true)
    (k_law_calls : PySem.W.keepIn K (.ref f_law_calls) = true)
    (a_law_wishes_right : PySem.W.nsIn K mainGlobals "_law_wishes_right" = some (some (.ref f_law_wishes_right)))
    (l_law_wishes_right : K.lookup f_law_wishes_right = some ⟨oc_law_wishes_right, od_law_wishes_right, .func (PySem.W.fnOf "_law_wishes_right" "_law_wishes_right" (defArgs s_law_wishes_right) (defBody s_law_wishes_right) (defScope s_law_wishes_right) .none kV_law_wishes_right dc_law_wishes_right pm_law_wishes_right an_law_wishes_right cd_law_wishes_right ct_law_wishes_right), sl_law_wishes_right⟩)
    (c_law_wishes_right : PySem.W.codeIn K cd_law_wishes_right "_law_wishes_right" = true)
    (k_law_wishes_right : PySem.W.keepIn K (.ref f_law_wishes_right) = true)
    (a_law_kinds_right : PySem.W.nsIn K mainGlobals "_law_kinds_right" = some (some (.ref f_law_kinds_right)))
    (l_law_kinds_right : K.lookup f_law_kinds_right = some ⟨oc_law_kinds_right, od_law_kinds_right, .func (PySem.W.fnOf "_law_kinds_right" "_law_kinds_right" (defArgs s_law_kinds_right) (defBody s_law_kinds_right) (defScope s_law_kinds_right) .none kV_law_kinds_right dc_law_kinds_right pm_law_kinds_right an_law_kinds_right cd_law_kinds_right ct_law_kinds_right), sl_law_kinds_right⟩)
    (c_law_kinds_right : PySem.W.codeIn K cd_law_kinds_right "_law_kinds_right" = true)
    (k_law_kinds_right : PySem.W.keepIn K (.ref f_law_kinds_right) = true)
    (a_law_runs_right : PySem.W.nsIn K mainGlobals "_law_runs_right" = some (some (.ref f_law_runs_right)))
    (l_law_runs_right : K.lookup f_law_runs_right = some ⟨oc_law_runs_right, od_law_runs_right, .func (PySem.W.fnOf "_law_runs_right" "_law_runs_right" (defArgs s_law_runs_right) (defBody s_law_runs_right) (defScope s_law_runs_right) .none kV_law_runs_right dc_law_runs_right pm_law_runs_right an_law_runs_right cd_law_runs_right ct_law_runs_right), sl_law_runs_right⟩)
    (c_law_runs_right : PySem.W.codeIn K cd_law_runs_right "_law_runs_right" = true)
    (k_law_runs_right : PySem.W.keepIn K (.ref f_law_runs_right) = true)
    (a_law : PySem.W.nsIn K mainGlobals "law" = some (some (.ref f_law)))
    (l_law : K.lookup f_law = some ⟨oc_law, od_law, .func (PySem.W.fnOf "law" "law" (defArgs s_law) (defBody s_law) (defScope s_law) .none kV_law dc_law pm_law an_law cd_law ct_law), sl_law⟩)
    (c_law : PySem.W.codeIn K cd_law "law" = true)
    (k_law : PySem.W.keepIn K (.ref f_law) = true)
    (xg_BadKind : PySem.W.findIn K (.ref C_BadKind) "__getattribute__" = some (some (.builtin "BaseException.__getattribute__")))
    (xh_BadKind : PySem.W.findIn K (.ref C_BadKind) "__getattr__" = some none)
    (xd_BadKind : PySem.W.hasDictIn K C_BadKind = true)
    (xg_BadWish : PySem.W.findIn K (.ref C_BadWish) "__getattribute__" = some (some (.builtin "BaseException.__getattribute__")))
    (xh_BadWish : PySem.W.findIn K (.ref C_BadWish) "__getattr__" = some none)
    (xd_BadWish : PySem.W.hasDictIn K C_BadWish = true)
    (xa_BadKind_part : PySem.W.findIn K (.ref C_BadKind) "part" = some none)
    (xa_BadWish_part : PySem.W.findIn K (.ref C_BadWish) "part" = some none)
    (tk_law_calls : tabOf K cd_law_calls = some q_law_calls)
    (tk_law_kinds_right : tabOf K cd_law_kinds_right = some q_law_kinds_right)
    (z_ValueError : PySem.W.nsIn K mainGlobals "ValueError" = some none)
    (z_all : PySem.W.nsIn K mainGlobals "all" = some none)
    (z_any : PySem.W.nsIn K mainGlobals "any" = some none)
    (z_bool : PySem.W.nsIn K mainGlobals "bool" = some none)
    (z_LONGEST_RUN : PySem.W.nsIn K mainGlobals "LONGEST_RUN" = some (some (.int 400 t_LONGEST_RUN)))
    (z_MOST_AHEAD : PySem.W.nsIn K mainGlobals "MOST_AHEAD" = some (some (.int 2 t_MOST_AHEAD)))
    (z_MOST_DEEDS : PySem.W.nsIn K mainGlobals "MOST_DEEDS" = some (some (.int 4 t_MOST_DEEDS)))
    (z_MOST_HELD : PySem.W.nsIn K mainGlobals "MOST_HELD" = some (some (.int 3 t_MOST_HELD)))
    (z_MOST_STATES : PySem.W.nsIn K mainGlobals "MOST_STATES" = some (some (.int 6 t_MOST_STATES)))
    (z_enumerate : PySem.W.nsIn K mainGlobals "enumerate" = some none)
    (z_int : PySem.W.nsIn K mainGlobals "int" = some none)
    (z_isinstance : PySem.W.nsIn K mainGlobals "isinstance" = some none)
    (z_len : PySem.W.nsIn K mainGlobals "len" = some none)
    (z_list : PySem.W.nsIn K mainGlobals "list" = some none)
    (z_min : PySem.W.nsIn K mainGlobals "min" = some none)
    (z_range : PySem.W.nsIn K mainGlobals "range" = some none)
    (z_set : PySem.W.nsIn K mainGlobals "set" = some none)
    (z_sorted : PySem.W.nsIn K mainGlobals "sorted" = some none)
    (z_tuple : PySem.W.nsIn K mainGlobals "tuple" = some none)
    (z_zip : PySem.W.nsIn K mainGlobals "zip" = some none)
    : ∃ (cs : List (Addr × Addr)) (fd : FuncData), (∀ p ∈ cs, PySem.W.CodeHd h p.1 p.2 ∧ h.get? p.2 = some { cls := .none, data := .fields #[] } ∧ K.lookup p.2 = none) ∧ (∀ (s : Shared) (u : Value), BindsTo s fd ⟨[u], []⟩ [("script", u)]) ∧ ∀ base : Heap, K.In base → base.Ns mainGlobals mg → (∀ p ∈ cs, LamX.TabB base mg p.1 p.2) → FnG l.prog w K mg base (L2.CX l.prog w) 11 fa fd ["script"] (spD ⟨K, w, l.prog⟩ (MM (cs.map (·.2))) 1 W_law) := by
  have e := hfa.symm.trans (PySem.W.mg_of X G a_law)
  cases e
  have T : Txt mg := ⟨PySem.W.mg_none_of X G z_ValueError, PySem.W.mg_none_of X G z_all, PySem.W.mg_none_of X G z_any, PySem.W.mg_none_of X G z_bool, ⟨_, PySem.W.mg_of X G z_LONGEST_RUN⟩, ⟨_, PySem.W.mg_of X G z_MOST_AHEAD⟩, ⟨_, PySem.W.mg_of X G z_MOST_DEEDS⟩, ⟨_, PySem.W.mg_of X G z_MOST_HELD⟩, ⟨_, PySem.W.mg_of X G z_MOST_STATES⟩, PySem.W.mg_none_of X G z_enumerate, PySem.W.mg_none_of X G z_int, PySem.W.mg_none_of X G z_isinstance, PySem.W.mg_none_of X G z_len, PySem.W.mg_none_of X G z_list, PySem.W.mg_none_of X G z_min, PySem.W.mg_none_of X G z_range, PySem.W.mg_none_of X G z_set, PySem.W.mg_none_of X G z_sorted, PySem.W.mg_none_of X G z_tuple, PySem.W.mg_none_of X G z_zip⟩
  have F_is_count := fun_mk (st := s_is_count) l_is_count c_is_count k_is_count
  have b_is_count := F_is_count.binds (ps := ["thing"]) fun _ _ _ _ _ _ us hl => match us, hl with | [_], _ => rfl
  have F_is_integer := fun_mk (st := s_is_integer) l_is_integer c_is_integer k_is_integer
  have b_is_integer := F_is_integer.binds (ps := ["thing", "least", "most"]) fun _ _ _ _ _ _ us hl => match us, hl with | [_, _, _], _ => rfl
  have F_is_triple := fun_mk (st := s_is_triple) l_is_triple c_is_triple k_is_triple
  have b_is_triple := F_is_triple.binds (ps := ["thing"]) fun _ _ _ _ _ _ us hl => match us, hl with | [_], _ => rfl
  have F_are_numbers := fun_mk (st := s_are_numbers) l_are_numbers c_are_numbers k_are_numbers
  have b_are_numbers := F_are_numbers.binds (ps := ["thing", "many"]) fun _ _ _ _ _ _ us hl => match us, hl with | [_, _], _ => rfl
  have F_are_ascending := fun_mk (st := s_are_ascending) l_are_ascending c_are_ascending k_are_ascending
  have b_are_ascending := F_are_ascending.binds (ps := ["thing", "many"]) fun _ _ _ _ _ _ us hl => match us, hl with | [_, _], _ => rfl
  have F_are_rising := fun_mk (st := s_are_rising) l_are_rising c_are_rising k_are_rising
  have b_are_rising := F_are_rising.binds (ps := ["things"]) fun _ _ _ _ _ _ us hl => match us, hl with | [_], _ => rfl
  have F_need_wish := fun_mk (st := s_need_wish) l_need_wish c_need_wish k_need_wish
  have b_need_wish := F_need_wish.binds (ps := ["thing"]) fun _ _ _ _ _ _ us hl => match us, hl with | [_], _ => rfl
  have F_need_run := fun_mk (st := s_need_run) l_need_run c_need_run k_need_run
  have b_need_run := F_need_run.binds (ps := ["deeds", "thing"]) fun _ _ _ _ _ _ us hl => match us, hl with | [_, _], _ => rfl
  have F_is_run := fun_mk (st := s_is_run) l_is_run c_is_run k_is_run
  have b_is_run := F_is_run.binds (ps := ["thing", "deeds"]) fun _ _ _ _ _ _ us hl => match us, hl with | [_, _], _ => rfl
  have F_state_behind := fun_mk (st := s_state_behind) l_state_behind c_state_behind k_state_behind
  have b_state_behind := F_state_behind.binds (ps := ["steps", "state", "deeds"]) fun _ _ _ _ _ _ us hl => match us, hl with | [_, _, _], _ => rfl
  have F_state_of := fun_mk (st := s_state_of) l_state_of c_state_of k_state_of
  have b_state_of := F_state_of.binds (ps := ["wish", "run"]) fun _ _ _ _ _ _ us hl => match us, hl with | [_, _], _ => rfl
  have F_is_good := fun_mk (st := s_is_good) l_is_good c_is_good k_is_good
  have b_is_good := F_is_good.binds (ps := ["wish", "run"]) fun _ _ _ _ _ _ us hl => match us, hl with | [_, _], _ => rfl
  have F_is_live := fun_mk (st := s_is_live) l_is_live c_is_live k_is_live
  have b_is_live := F_is_live.binds (ps := ["wish", "run"]) fun _ _ _ _ _ _ us hl => match us, hl with | [_, _], _ => rfl
  have F_live_states := fun_mk (st := s_live_states) l_live_states c_live_states k_live_states
  have b_live_states := F_live_states.binds (ps := ["wish"]) fun _ _ _ _ _ _ us hl => match us, hl with | [_], _ => rfl
  have F_are_steps := fun_mk (st := s_are_steps) l_are_steps c_are_steps k_are_steps
  have b_are_steps := F_are_steps.binds (ps := ["thing", "deeds"]) fun _ _ _ _ _ _ us hl => match us, hl with | [_, _], _ => rfl
  have F_with_those_ahead := fun_mk (st := s_with_those_ahead) l_with_those_ahead c_with_those_ahead k_with_those_ahead
  have b_with_those_ahead := F_with_those_ahead.binds (ps := ["steps", "states"]) fun _ _ _ _ _ _ us hl => match us, hl with | [_, _], _ => rfl
  have F_need_kind := fun_mk (st := s_need_kind) l_need_kind c_need_kind k_need_kind
  have b_need_kind := F_need_kind.binds (ps := ["wish", "thing"]) fun _ _ _ _ _ _ us hl => match us, hl with | [_, _], _ => rfl
  have F_law_begun := fun_mk (st := s_law_begun) l_law_begun c_law_begun k_law_begun
  have b_law_begun := F_law_begun.binds (ps := ["script"]) fun _ _ _ _ _ _ us hl => match us, hl with | [_], _ => rfl
  have F_law_next := fun_mk (st := s_law_next) l_law_next c_law_next k_law_next
  have b_law_next := F_law_next.binds (ps := ["m", "total"]) fun _ _ _ _ _ _ us hl => match us, hl with | [_, _], _ => rfl
  have F_law_want := fun_mk (st := s_law_want) l_law_want c_law_want k_law_want
  have b_law_want := F_law_want.binds (ps := ["m", "deeds", "states"]) fun _ _ _ _ _ _ us hl => match us, hl with | [_, _, _], _ => rfl
  have F_law_outcome := fun_mk (st := s_law_outcome) l_law_outcome c_law_outcome k_law_outcome
  have b_law_outcome := F_law_outcome.binds (ps := ["call"]) fun _ _ _ _ _ _ us hl => match us, hl with | [_], _ => rfl
  have F_law_calls := fun_mk (st := s_law_calls) l_law_calls c_law_calls k_law_calls
  have b_law_calls := F_law_calls.binds (ps := ["want", "thing"]) fun _ _ _ _ _ _ us hl => match us, hl with | [_, _], _ => rfl
  have F_law_wishes_right := fun_mk (st := s_law_wishes_right) l_law_wishes_right c_law_wishes_right k_law_wishes_right
  have b_law_wishes_right := F_law_wishes_right.binds (ps := ["want"]) fun _ _ _ _ _ _ us hl => match us, hl with | [_], _ => rfl
  have F_law_kinds_right := fun_mk (st := s_law_kinds_right) l_law_kinds_right c_law_kinds_right k_law_kinds_right
  have b_law_kinds_right := F_law_kinds_right.binds (ps := ["want"]) fun _ _ _ _ _ _ us hl => match us, hl with | [_], _ => rfl
  have F_law_runs_right := fun_mk (st := s_law_runs_right) l_law_runs_right c_law_runs_right k_law_runs_right
  have b_law_runs_right := F_law_runs_right.binds (ps := ["want"]) fun _ _ _ _ _ _ us hl => match us, hl with | [_], _ => rfl
  have F_law := fun_mk (st := s_law) l_law c_law k_law
  have b_law := F_law.binds (ps := ["script"]) fun _ _ _ _ _ _ us hl => match us, hl with | [_], _ => rfl
  have F_BadKind_init := fun_mk (st := s_BadKind_init) l_BadKind_init c_BadKind_init k_BadKind_init
  have B_BadKind := F_BadKind_init.binds (ps := ["self", "part"]) fun _ _ _ _ _ _ us hl => match us, hl with | [_, _], _ => rfl
  have O_BadKind : OexC K C_BadKind := ⟨⟨_, _, _, _, _, _, _, _, _, _, _, _, _, _, _, xl_BadKind, rv_BadKind⟩, sa_BadKind, eC_BadKind, tC_BadKind, kC_BadKind⟩
  have F_BadWish_init := fun_mk (st := s_BadWish_init) l_BadWish_init c_BadWish_init k_BadWish_init
  have B_BadWish := F_BadWish_init.binds (ps := ["self", "part"]) fun _ _ _ _ _ _ us hl => match us, hl with | [_, _], _ => rfl
  have O_BadWish : OexC K C_BadWish := ⟨⟨_, _, _, _, _, _, _, _, _, _, _, _, _, _, _, xl_BadWish, rv_BadWish⟩, sa_BadWish, eC_BadWish, tC_BadWish, kC_BadWish⟩
  have F_OutOfPlace_init := fun_mk (st := s_OutOfPlace_init) l_OutOfPlace_init c_OutOfPlace_init k_OutOfPlace_init
  have B_OutOfPlace := F_OutOfPlace_init.binds (ps := ["self", "text"]) fun _ _ _ _ _ _ us hl => match us, hl with | [_, _], _ => rfl
  have O_OutOfPlace : OexC K C_OutOfPlace := ⟨⟨_, _, _, _, _, _, _, _, _, _, _, _, _, _, _, xl_OutOfPlace, rv_OutOfPlace⟩, sa_OutOfPlace, eC_OutOfPlace, tC_OutOfPlace, kC_OutOfPlace⟩
  obtain ⟨cT_law_calls, PT_law_calls, ta_law_calls⟩ := HT "_law_calls" (by decide)
  have tm_law_calls := tab_mk X (PySem.W.mg_of X G a_law_calls) l_law_calls rfl tk_law_calls ta_law_calls
  obtain ⟨cT_law_kinds_right, PT_law_kinds_right, ta_law_kinds_right⟩ := HT "_law_kinds_right" (by decide)
  have tm_law_kinds_right := tab_mk X (PySem.W.mg_of X G a_law_kinds_right) l_law_kinds_right rfl tk_law_kinds_right ta_law_kinds_right
  refine ⟨[(cT_law_calls, PT_law_calls), (cT_law_kinds_right, PT_law_kinds_right)], PySem.W.fnOf "law" "law" (defArgs s_law) (defBody s_law) (defScope s_law) .none kV_law dc_law pm_law an_law cd_law ct_law, ?_, fun s v => .of_eq rfl, fun base _ _ hTB => ?_⟩
  · exact List.forall_mem_cons.mpr ⟨tm_law_calls.2, List.forall_mem_cons.mpr ⟨tm_law_kinds_right.2, fun _ h => nomatch h⟩⟩
  simp only [List.map_cons, List.map_nil]
  have tb_law_calls : MkTab (MM [PT_law_calls, PT_law_kinds_right]) mg base _ := ⟨cT_law_calls, PT_law_calls, tm_law_calls.1, hTB (cT_law_calls, PT_law_calls) (by simp), by show PT_law_calls ∈ [PT_law_calls, PT_law_kinds_right]; simp⟩
  have tb_law_kinds_right : MkTab (MM [PT_law_calls, PT_law_kinds_right]) mg base _ := ⟨cT_law_kinds_right, PT_law_kinds_right, tm_law_kinds_right.1, hTB (cT_law_kinds_right, PT_law_kinds_right) (by simp), by show PT_law_kinds_right ∈ [PT_law_calls, PT_law_kinds_right]; simp⟩
  have te_BadKind := exm_of eC_BadKind iC_BadKind tC_BadKind sC_BadKind
  have te_BadWish := exm_of eC_BadWish iC_BadWish tC_BadWish sC_BadWish
  have te_OutOfPlace := exm_of eC_OutOfPlace iC_OutOfPlace tC_OutOfPlace sC_OutOfPlace
  have te_BadKind_BadWish := exm_of eC_BadWish iC_BadWish tC_BadWish sC_BadKind_BadWish
  have te_BadKind_OutOfPlace := exm_of eC_OutOfPlace iC_OutOfPlace tC_OutOfPlace sC_BadKind_OutOfPlace
  have te_BadWish_BadKind := exm_of eC_BadKind iC_BadKind tC_BadKind sC_BadWish_BadKind
  have te_BadWish_OutOfPlace := exm_of eC_OutOfPlace iC_OutOfPlace tC_OutOfPlace sC_BadWish_OutOfPlace
  have te_OutOfPlace_BadKind := exm_of eC_BadKind iC_BadKind tC_BadKind sC_OutOfPlace_BadKind
  have te_OutOfPlace_BadWish := exm_of eC_BadWish iC_BadWish tC_BadWish sC_OutOfPlace_BadWish
  have N_BadKind := fnx_BadKind (P := l.prog) (w := w) (base := base) F_BadKind_init T O_BadKind nx_BadKind vV_ValueError
  have N_BadWish := fnx_BadWish (P := l.prog) (w := w) (base := base) F_BadWish_init T O_BadWish nx_BadWish vV_ValueError
  have N_OutOfPlace := fnx_OutOfPlace (P := l.prog) (w := w) (base := base) F_OutOfPlace_init T O_OutOfPlace vV_ValueError
  have G_is_count : FnG l.prog w K mg base (L2.CX l.prog w) 1 f_is_count _ ["thing"] (spD ⟨K, w, l.prog⟩ (MM [PT_law_calls, PT_law_kinds_right]) 1 W_is_count) := (raw_is_count (P := l.prog) (w := w) (base := base) (F := F_is_count) (T := T) ).imp (spD_imp (by first | exact ok_is_count | exact ok_is_count _ | exact ok_is_count te_BadKind te_BadWish te_OutOfPlace te_BadKind_BadWish te_BadKind_OutOfPlace te_BadWish_BadKind te_BadWish_OutOfPlace te_OutOfPlace_BadKind te_OutOfPlace_BadWish))
  have G_is_triple : FnG l.prog w K mg base (L2.CX l.prog w) 1 f_is_triple _ ["thing"] (spD ⟨K, w, l.prog⟩ (MM [PT_law_calls, PT_law_kinds_right]) 1 W_is_triple) := (raw_is_triple (P := l.prog) (w := w) (base := base) (F := F_is_triple) (T := T) ).imp (spD_imp (by first | exact ok_is_triple | exact ok_is_triple _ | exact ok_is_triple te_BadKind te_BadWish te_OutOfPlace te_BadKind_BadWish te_BadKind_OutOfPlace te_BadWish_BadKind te_BadWish_OutOfPlace te_OutOfPlace_BadKind te_OutOfPlace_BadWish))
  have G_are_rising : FnG l.prog w K mg base (L2.CX l.prog w) 1 f_are_rising _ ["things"] (spD ⟨K, w, l.prog⟩ (MM [PT_law_calls, PT_law_kinds_right]) 1 W_are_rising) := (raw_are_rising (P := l.prog) (w := w) (base := base) (F := F_are_rising) (T := T) ).imp (spD_imp (by first | exact ok_are_rising | exact ok_are_rising _ | exact ok_are_rising te_BadKind te_BadWish te_OutOfPlace te_BadKind_BadWish te_BadKind_OutOfPlace te_BadWish_BadKind te_BadWish_OutOfPlace te_OutOfPlace_BadKind te_OutOfPlace_BadWish))
  have G_state_behind : FnG l.prog w K mg base (L2.CX l.prog w) 1 f_state_behind _ ["steps", "state", "deeds"] (spD ⟨K, w, l.prog⟩ (MM [PT_law_calls, PT_law_kinds_right]) 3 W_state_behind) := (raw_state_behind (P := l.prog) (w := w) (base := base) (F := F_state_behind) (T := T) ).imp (spD_imp (by first | exact ok_state_behind | exact ok_state_behind _ | exact ok_state_behind te_BadKind te_BadWish te_OutOfPlace te_BadKind_BadWish te_BadKind_OutOfPlace te_BadWish_BadKind te_BadWish_OutOfPlace te_OutOfPlace_BadKind te_OutOfPlace_BadWish))
  have G_with_those_ahead : FnG l.prog w K mg base (L2.CX l.prog w) 1 f_with_those_ahead _ ["steps", "states"] (spD ⟨K, w, l.prog⟩ (MM [PT_law_calls, PT_law_kinds_right]) 2 W_with_those_ahead) := (raw_with_those_ahead (P := l.prog) (w := w) (base := base) (F := F_with_those_ahead) (T := T) ).imp (spD_imp (by first | exact ok_with_those_ahead | exact ok_with_those_ahead _ | exact ok_with_those_ahead te_BadKind te_BadWish te_OutOfPlace te_BadKind_BadWish te_BadKind_OutOfPlace te_BadWish_BadKind te_BadWish_OutOfPlace te_OutOfPlace_BadKind te_OutOfPlace_BadWish))
  have G_law_begun := ok_law_begun (P := l.prog) (w := w) (base := base) (TT := [PT_law_calls, PT_law_kinds_right]) F_law_begun T
  have G_law_next := ok_law_next (P := l.prog) (w := w) (base := base) (TT := [PT_law_calls, PT_law_kinds_right]) F_law_next T
  have G_is_integer : FnG l.prog w K mg base (L2.CX l.prog w) 2 f_is_integer _ ["thing", "least", "most"] (spD ⟨K, w, l.prog⟩ (MM [PT_law_calls, PT_law_kinds_right]) 3 W_is_integer) := (raw_is_integer (P := l.prog) (w := w) (base := base) (F := F_is_integer) (T := T) (g_is_count := PySem.W.mg_of X G a_is_count) (G_is_count := G_is_count) (b_is_count := b_is_count) (k_is_count := k_is_count)).imp (spD_imp (by first | exact ok_is_integer | exact ok_is_integer _ | exact ok_is_integer te_BadKind te_BadWish te_OutOfPlace te_BadKind_BadWish te_BadKind_OutOfPlace te_BadWish_BadKind te_BadWish_OutOfPlace te_OutOfPlace_BadKind te_OutOfPlace_BadWish))
  have G_law_want : FnG l.prog w K mg base (L2.CX l.prog w) 2 f_law_want _ ["m", "deeds", "states"] (spD ⟨K, w, l.prog⟩ (MM [PT_law_calls, PT_law_kinds_right]) 3 W_law_want) := (raw_law_want (P := l.prog) (w := w) (base := base) (F := F_law_want) (T := T) (g_law_next := PySem.W.mg_of X G a_law_next) (G_law_next := G_law_next) (b_law_next := b_law_next) (k_law_next := k_law_next)).imp (spD_imp (by first | exact ok_law_want | exact ok_law_want _ | exact ok_law_want te_BadKind te_BadWish te_OutOfPlace te_BadKind_BadWish te_BadKind_OutOfPlace te_BadWish_BadKind te_BadWish_OutOfPlace te_OutOfPlace_BadKind te_OutOfPlace_BadWish))
  have G_are_numbers : FnG l.prog w K mg base (L2.CX l.prog w) 3 f_are_numbers _ ["thing", "many"] (spD ⟨K, w, l.prog⟩ (MM [PT_law_calls, PT_law_kinds_right]) 2 W_are_numbers) := (raw_are_numbers (P := l.prog) (w := w) (base := base) (F := F_are_numbers) (T := T) (g_is_integer := PySem.W.mg_of X G a_is_integer) (G_is_integer := G_is_integer) (b_is_integer := b_is_integer) (k_is_integer := k_is_integer)).imp (spD_imp (by first | exact ok_are_numbers | exact ok_are_numbers _ | exact ok_are_numbers te_BadKind te_BadWish te_OutOfPlace te_BadKind_BadWish te_BadKind_OutOfPlace te_BadWish_BadKind te_BadWish_OutOfPlace te_OutOfPlace_BadKind te_OutOfPlace_BadWish))
  have G_are_ascending : FnG l.prog w K mg base (L2.CX l.prog w) 4 f_are_ascending _ ["thing", "many"] (spD ⟨K, w, l.prog⟩ (MM [PT_law_calls, PT_law_kinds_right]) 2 W_are_ascending) := (raw_are_ascending (P := l.prog) (w := w) (base := base) (F := F_are_ascending) (T := T) (g_are_numbers := PySem.W.mg_of X G a_are_numbers) (g_are_rising := PySem.W.mg_of X G a_are_rising) (G_are_numbers := G_are_numbers) (b_are_numbers := b_are_numbers) (k_are_numbers := k_are_numbers) (G_are_rising := G_are_rising) (b_are_rising := b_are_rising) (k_are_rising := k_are_rising)).imp (spD_imp (by first | exact ok_are_ascending | exact ok_are_ascending _ | exact ok_are_ascending te_BadKind te_BadWish te_OutOfPlace te_BadKind_BadWish te_BadKind_OutOfPlace te_BadWish_BadKind te_BadWish_OutOfPlace te_OutOfPlace_BadKind te_OutOfPlace_BadWish))
  have G_is_run : FnG l.prog w K mg base (L2.CX l.prog w) 4 f_is_run _ ["thing", "deeds"] (spD ⟨K, w, l.prog⟩ (MM [PT_law_calls, PT_law_kinds_right]) 2 W_is_run) := (raw_is_run (P := l.prog) (w := w) (base := base) (F := F_is_run) (T := T) (g_are_numbers := PySem.W.mg_of X G a_are_numbers) (G_are_numbers := G_are_numbers) (b_are_numbers := b_are_numbers) (k_are_numbers := k_are_numbers)).imp (spD_imp (by first | exact ok_is_run | exact ok_is_run _ | exact ok_is_run te_BadKind te_BadWish te_OutOfPlace te_BadKind_BadWish te_BadKind_OutOfPlace te_BadWish_BadKind te_BadWish_OutOfPlace te_OutOfPlace_BadKind te_OutOfPlace_BadWish))
  have G_are_steps : FnG l.prog w K mg base (L2.CX l.prog w) 4 f_are_steps _ ["thing", "deeds"] (spD ⟨K, w, l.prog⟩ (MM [PT_law_calls, PT_law_kinds_right]) 2 W_are_steps) := (raw_are_steps (P := l.prog) (w := w) (base := base) (F := F_are_steps) (T := T) (g_are_numbers := PySem.W.mg_of X G a_are_numbers) (G_are_numbers := G_are_numbers) (b_are_numbers := b_are_numbers) (k_are_numbers := k_are_numbers)).imp (spD_imp (by first | exact ok_are_steps | exact ok_are_steps _ | exact ok_are_steps te_BadKind te_BadWish te_OutOfPlace te_BadKind_BadWish te_BadKind_OutOfPlace te_BadWish_BadKind te_BadWish_OutOfPlace te_OutOfPlace_BadKind te_OutOfPlace_BadWish))
  have G_need_wish : FnG l.prog w K mg base (L2.CX l.prog w) 5 f_need_wish _ ["thing"] (spX ⟨K, w, l.prog⟩ (MM [PT_law_calls, PT_law_kinds_right]) 1 W_need_wish (U_need_wish C_BadWish)) := (raw_need_wish (P := l.prog) (w := w) (base := base) (F := F_need_wish) (T := T) (g_is_integer := PySem.W.mg_of X G a_is_integer) (g_is_triple := PySem.W.mg_of X G a_is_triple) (g_are_ascending := PySem.W.mg_of X G a_are_ascending) (g_are_steps := PySem.W.mg_of X G a_are_steps) (m_BadWish := PySem.W.mg_of X G a_BadWish) (G_is_integer := G_is_integer) (b_is_integer := b_is_integer) (k_is_integer := k_is_integer) (G_is_triple := G_is_triple) (b_is_triple := b_is_triple) (k_is_triple := k_is_triple) (G_are_ascending := G_are_ascending) (b_are_ascending := b_are_ascending) (k_are_ascending := k_are_ascending) (G_are_steps := G_are_steps) (b_are_steps := b_are_steps) (k_are_steps := k_are_steps) (Z_BadWish := ⟨O_BadWish, a_BadWish_init, tI_BadWish⟩) (N_BadWish := N_BadWish) (B_BadWish := B_BadWish)).imp (spX_imp (by first | exact ok_need_wish | exact ok_need_wish _ | exact ok_need_wish te_BadKind te_BadWish te_OutOfPlace te_BadKind_BadWish te_BadKind_OutOfPlace te_BadWish_BadKind te_BadWish_OutOfPlace te_OutOfPlace_BadKind te_OutOfPlace_BadWish) (okx_need_wish C_BadWish))
  have G_need_run : FnG l.prog w K mg base (L2.CX l.prog w) 5 f_need_run _ ["deeds", "thing"] (spX ⟨K, w, l.prog⟩ (MM [PT_law_calls, PT_law_kinds_right]) 2 W_need_run (U_need_run C_OutOfPlace)) := (raw_need_run (P := l.prog) (w := w) (base := base) (F := F_need_run) (T := T) (g_is_run := PySem.W.mg_of X G a_is_run) (m_OutOfPlace := PySem.W.mg_of X G a_OutOfPlace) (G_is_run := G_is_run) (b_is_run := b_is_run) (k_is_run := k_is_run) (Z_OutOfPlace := ⟨O_OutOfPlace, a_OutOfPlace_init, tI_OutOfPlace⟩) (N_OutOfPlace := N_OutOfPlace) (B_OutOfPlace := B_OutOfPlace)).imp (spX_imp (by first | exact ok_need_run | exact ok_need_run _ | exact ok_need_run te_BadKind te_BadWish te_OutOfPlace te_BadKind_BadWish te_BadKind_OutOfPlace te_BadWish_BadKind te_BadWish_OutOfPlace te_OutOfPlace_BadKind te_OutOfPlace_BadWish) (okx_need_run C_OutOfPlace))
  have G_state_of : FnG l.prog w K mg base (L2.CX l.prog w) 6 f_state_of _ ["wish", "run"] (spX ⟨K, w, l.prog⟩ (MM [PT_law_calls, PT_law_kinds_right]) 2 W_state_of (U_state_of C_BadWish C_OutOfPlace)) := (raw_state_of (P := l.prog) (w := w) (base := base) (F := F_state_of) (T := T) (g_need_wish := PySem.W.mg_of X G a_need_wish) (g_need_run := PySem.W.mg_of X G a_need_run) (g_state_behind := PySem.W.mg_of X G a_state_behind) (G_need_wish := G_need_wish) (b_need_wish := b_need_wish) (k_need_wish := k_need_wish) (G_need_run := G_need_run) (b_need_run := b_need_run) (k_need_run := k_need_run) (G_state_behind := G_state_behind) (b_state_behind := b_state_behind) (k_state_behind := k_state_behind)).imp (spX_imp (by first | exact ok_state_of | exact ok_state_of _ | exact ok_state_of te_BadKind te_BadWish te_OutOfPlace te_BadKind_BadWish te_BadKind_OutOfPlace te_BadWish_BadKind te_BadWish_OutOfPlace te_OutOfPlace_BadKind te_OutOfPlace_BadWish) (okx_state_of C_BadWish C_OutOfPlace))
  have G_live_states : FnG l.prog w K mg base (L2.CX l.prog w) 6 f_live_states _ ["wish"] (spX ⟨K, w, l.prog⟩ (MM [PT_law_calls, PT_law_kinds_right]) 1 W_live_states (U_live_states C_BadWish)) := (raw_live_states (P := l.prog) (w := w) (base := base) (F := F_live_states) (T := T) (g_need_wish := PySem.W.mg_of X G a_need_wish) (g_with_those_ahead := PySem.W.mg_of X G a_with_those_ahead) (G_need_wish := G_need_wish) (b_need_wish := b_need_wish) (k_need_wish := k_need_wish) (G_with_those_ahead := G_with_those_ahead) (b_with_those_ahead := b_with_those_ahead) (k_with_those_ahead := k_with_those_ahead)).imp (spX_imp (by first | exact ok_live_states | exact ok_live_states _ | exact ok_live_states te_BadKind te_BadWish te_OutOfPlace te_BadKind_BadWish te_BadKind_OutOfPlace te_BadWish_BadKind te_BadWish_OutOfPlace te_OutOfPlace_BadKind te_OutOfPlace_BadWish) (okx_live_states C_BadWish))
  have G_need_kind : FnG l.prog w K mg base (L2.CX l.prog w) 6 f_need_kind _ ["wish", "thing"] (spX ⟨K, w, l.prog⟩ (MM [PT_law_calls, PT_law_kinds_right]) 2 W_need_kind (U_need_kind C_BadKind C_BadWish)) := (raw_need_kind (P := l.prog) (w := w) (base := base) (F := F_need_kind) (T := T) (g_is_integer := PySem.W.mg_of X G a_is_integer) (g_is_triple := PySem.W.mg_of X G a_is_triple) (g_are_ascending := PySem.W.mg_of X G a_are_ascending) (g_need_wish := PySem.W.mg_of X G a_need_wish) (m_BadKind := PySem.W.mg_of X G a_BadKind) (G_is_integer := G_is_integer) (b_is_integer := b_is_integer) (k_is_integer := k_is_integer) (G_is_triple := G_is_triple) (b_is_triple := b_is_triple) (k_is_triple := k_is_triple) (G_are_ascending := G_are_ascending) (b_are_ascending := b_are_ascending) (k_are_ascending := k_are_ascending) (G_need_wish := G_need_wish) (b_need_wish := b_need_wish) (k_need_wish := k_need_wish) (Z_BadKind := ⟨O_BadKind, a_BadKind_init, tI_BadKind⟩) (N_BadKind := N_BadKind) (B_BadKind := B_BadKind)).imp (spX_imp (by first | exact ok_need_kind | exact ok_need_kind _ | exact ok_need_kind te_BadKind te_BadWish te_OutOfPlace te_BadKind_BadWish te_BadKind_OutOfPlace te_BadWish_BadKind te_BadWish_OutOfPlace te_OutOfPlace_BadKind te_OutOfPlace_BadWish) (okx_need_kind C_BadKind C_BadWish))
  have G_is_good : FnG l.prog w K mg base (L2.CX l.prog w) 7 f_is_good _ ["wish", "run"] (spX ⟨K, w, l.prog⟩ (MM [PT_law_calls, PT_law_kinds_right]) 2 W_is_good (U_is_good C_BadWish C_OutOfPlace)) := (raw_is_good (P := l.prog) (w := w) (base := base) (F := F_is_good) (T := T) (g_state_of := PySem.W.mg_of X G a_state_of) (G_state_of := G_state_of) (b_state_of := b_state_of) (k_state_of := k_state_of)).imp (spX_imp (by first | exact ok_is_good | exact ok_is_good _ | exact ok_is_good te_BadKind te_BadWish te_OutOfPlace te_BadKind_BadWish te_BadKind_OutOfPlace te_BadWish_BadKind te_BadWish_OutOfPlace te_OutOfPlace_BadKind te_OutOfPlace_BadWish) (okx_is_good C_BadWish C_OutOfPlace))
  have G_is_live : FnG l.prog w K mg base (L2.CX l.prog w) 7 f_is_live _ ["wish", "run"] (spX ⟨K, w, l.prog⟩ (MM [PT_law_calls, PT_law_kinds_right]) 2 W_is_live (U_is_live C_BadWish C_OutOfPlace)) := (raw_is_live (P := l.prog) (w := w) (base := base) (F := F_is_live) (T := T) (g_state_of := PySem.W.mg_of X G a_state_of) (g_live_states := PySem.W.mg_of X G a_live_states) (G_state_of := G_state_of) (b_state_of := b_state_of) (k_state_of := k_state_of) (G_live_states := G_live_states) (b_live_states := b_live_states) (k_live_states := k_live_states)).imp (spX_imp (by first | exact ok_is_live | exact ok_is_live _ | exact ok_is_live te_BadKind te_BadWish te_OutOfPlace te_BadKind_BadWish te_BadKind_OutOfPlace te_BadWish_BadKind te_BadWish_OutOfPlace te_OutOfPlace_BadKind te_OutOfPlace_BadWish) (okx_is_live C_BadWish C_OutOfPlace))
  have G_law_calls : FnG l.prog w K mg base (L2.CX l.prog w) 8 f_law_calls _ ["want", "thing"] (spD ⟨K, w, l.prog⟩ (MM [PT_law_calls, PT_law_kinds_right]) 2 W_law_calls) := (raw_law_calls (P := l.prog) (w := w) (base := base) (F := F_law_calls) (T := T) (pP := pP) (tb := tb_law_calls) ).imp (spD_imp (by first | exact ok_law_calls | exact ok_law_calls _ | exact ok_law_calls te_BadKind te_BadWish te_OutOfPlace te_BadKind_BadWish te_BadKind_OutOfPlace te_BadWish_BadKind te_BadWish_OutOfPlace te_OutOfPlace_BadKind te_OutOfPlace_BadWish))
  have GL : LamsG l.prog w K mg base 8 (MM [PT_law_calls, PT_law_kinds_right]) (Reg C_BadKind C_BadWish C_OutOfPlace) := by
    exact List.forall_mem_cons.mpr ⟨⟨⟨mW_lam0, mU_lam0 C_BadWish⟩, ((raw_lam0 (P := l.prog) (w := w) (base := base) (pP := pP) (T := T) (g_need_wish := PySem.W.mg_of X G a_need_wish) (G_need_wish := G_need_wish) (b_need_wish := b_need_wish) (k_need_wish := k_need_wish)).mono (by decide)).imp (spX_imp ok_lam0 (okx_lam0 C_BadWish))⟩,
      List.forall_mem_cons.mpr ⟨⟨⟨mW_lam1, mU_lam1 C_BadWish⟩, ((raw_lam1 (P := l.prog) (w := w) (base := base) (pP := pP) (T := T) (g_live_states := PySem.W.mg_of X G a_live_states) (G_live_states := G_live_states) (b_live_states := b_live_states) (k_live_states := k_live_states)).mono (by decide)).imp (spX_imp ok_lam1 (okx_lam1 C_BadWish))⟩,
      List.forall_mem_cons.mpr ⟨⟨⟨mW_lam2, mU_lam2 C_BadKind C_BadWish⟩, ((raw_lam2 (P := l.prog) (w := w) (base := base) (pP := pP) (T := T) (g_need_kind := PySem.W.mg_of X G a_need_kind) (G_need_kind := G_need_kind) (b_need_kind := b_need_kind) (k_need_kind := k_need_kind)).mono (by decide)).imp (spX_imp ok_lam2 (okx_lam2 C_BadKind C_BadWish))⟩,
      List.forall_mem_cons.mpr ⟨⟨⟨mW_lam3, mU_lam3 C_BadWish C_OutOfPlace⟩, ((raw_lam3 (P := l.prog) (w := w) (base := base) (pP := pP) (T := T) (g_state_of := PySem.W.mg_of X G a_state_of) (G_state_of := G_state_of) (b_state_of := b_state_of) (k_state_of := k_state_of)).mono (by decide)).imp (spX_imp ok_lam3 (okx_lam3 C_BadWish C_OutOfPlace))⟩,
      List.forall_mem_cons.mpr ⟨⟨⟨mW_lam4, mU_lam4 C_BadWish C_OutOfPlace⟩, ((raw_lam4 (P := l.prog) (w := w) (base := base) (pP := pP) (T := T) (g_is_good := PySem.W.mg_of X G a_is_good) (G_is_good := G_is_good) (b_is_good := b_is_good) (k_is_good := k_is_good)).mono (by decide)).imp (spX_imp ok_lam4 (okx_lam4 C_BadWish C_OutOfPlace))⟩,
      List.forall_mem_cons.mpr ⟨⟨⟨mW_lam5, mU_lam5 C_BadWish C_OutOfPlace⟩, ((raw_lam5 (P := l.prog) (w := w) (base := base) (pP := pP) (T := T) (g_is_live := PySem.W.mg_of X G a_is_live) (G_is_live := G_is_live) (b_is_live := b_is_live) (k_is_live := k_is_live)).mono (by decide)).imp (spX_imp ok_lam5 (okx_lam5 C_BadWish C_OutOfPlace))⟩,
      List.forall_mem_cons.mpr ⟨⟨⟨mW_lam6, mU_lam6 C_BadKind C_BadWish⟩, ((raw_lam6 (P := l.prog) (w := w) (base := base) (pP := pP) (T := T) (g_need_kind := PySem.W.mg_of X G a_need_kind) (G_need_kind := G_need_kind) (b_need_kind := b_need_kind) (k_need_kind := k_need_kind)).mono (by decide)).imp (spX_imp ok_lam6 (okx_lam6 C_BadKind C_BadWish))⟩,
      fun _ h => nomatch h⟩⟩⟩⟩⟩⟩⟩
  have G_law_outcome : FnG l.prog w K mg base (L2.CX l.prog w) 9 f_law_outcome _ ["call"] (spD ⟨K, w, l.prog⟩ (MM [PT_law_calls, PT_law_kinds_right]) 1 (W_law_outcome C_BadKind C_BadWish C_OutOfPlace)) := (raw_law_outcome (P := l.prog) (w := w) (base := base) (F := F_law_outcome) (T := T) (m_BadKind := PySem.W.mg_of X G a_BadKind) (m_BadWish := PySem.W.mg_of X G a_BadWish) (m_OutOfPlace := PySem.W.mg_of X G a_OutOfPlace) (XT_BadKind := ⟨xg_BadKind, xh_BadKind, eC_BadKind, xd_BadKind⟩) (XA_BadKind_part := xa_BadKind_part) (XT_BadWish := ⟨xg_BadWish, xh_BadWish, eC_BadWish, xd_BadWish⟩) (XA_BadWish_part := xa_BadWish_part) (GL := GL)).imp (spD_imp (by first | exact ok_law_outcome | exact ok_law_outcome _ | exact ok_law_outcome te_BadKind te_BadWish te_OutOfPlace te_BadKind_BadWish te_BadKind_OutOfPlace te_BadWish_BadKind te_BadWish_OutOfPlace te_OutOfPlace_BadKind te_OutOfPlace_BadWish))
  have G_law_wishes_right : FnG l.prog w K mg base (L2.CX l.prog w) 10 f_law_wishes_right _ ["want"] (spD ⟨K, w, l.prog⟩ (MM [PT_law_calls, PT_law_kinds_right]) 1 (W_law_wishes_right C_BadKind C_BadWish C_OutOfPlace)) := (raw_law_wishes_right (P := l.prog) (w := w) (base := base) (F := F_law_wishes_right) (T := T) (g_law_outcome := PySem.W.mg_of X G a_law_outcome) (g_law_calls := PySem.W.mg_of X G a_law_calls) (G_law_outcome := G_law_outcome) (b_law_outcome := b_law_outcome) (k_law_outcome := k_law_outcome) (G_law_calls := G_law_calls) (b_law_calls := b_law_calls) (k_law_calls := k_law_calls)).imp (spD_imp (by first | exact ok_law_wishes_right | exact ok_law_wishes_right _ | exact ok_law_wishes_right te_BadKind te_BadWish te_OutOfPlace te_BadKind_BadWish te_BadKind_OutOfPlace te_BadWish_BadKind te_BadWish_OutOfPlace te_OutOfPlace_BadKind te_OutOfPlace_BadWish))
  have G_law_kinds_right : FnG l.prog w K mg base (L2.CX l.prog w) 10 f_law_kinds_right _ ["want"] (spD ⟨K, w, l.prog⟩ (MM [PT_law_calls, PT_law_kinds_right]) 1 (W_law_kinds_right C_BadKind C_BadWish C_OutOfPlace)) := (raw_law_kinds_right (P := l.prog) (w := w) (base := base) (F := F_law_kinds_right) (T := T) (pP := pP) (tb := tb_law_kinds_right) (g_need_kind := PySem.W.mg_of X G a_need_kind) (g_law_outcome := PySem.W.mg_of X G a_law_outcome) (G_need_kind := G_need_kind) (b_need_kind := b_need_kind) (k_need_kind := k_need_kind) (G_law_outcome := G_law_outcome) (b_law_outcome := b_law_outcome) (k_law_outcome := k_law_outcome)).imp (spD_imp (by first | exact ok_law_kinds_right | exact ok_law_kinds_right _ | exact ok_law_kinds_right te_BadKind te_BadWish te_OutOfPlace te_BadKind_BadWish te_BadKind_OutOfPlace te_BadWish_BadKind te_BadWish_OutOfPlace te_OutOfPlace_BadKind te_OutOfPlace_BadWish))
  have G_law_runs_right : FnG l.prog w K mg base (L2.CX l.prog w) 10 f_law_runs_right _ ["want"] (spD ⟨K, w, l.prog⟩ (MM [PT_law_calls, PT_law_kinds_right]) 1 (W_law_runs_right C_BadKind C_BadWish C_OutOfPlace)) := (raw_law_runs_right (P := l.prog) (w := w) (base := base) (F := F_law_runs_right) (T := T) (g_law_outcome := PySem.W.mg_of X G a_law_outcome) (g_law_calls := PySem.W.mg_of X G a_law_calls) (G_law_outcome := G_law_outcome) (b_law_outcome := b_law_outcome) (k_law_outcome := k_law_outcome) (G_law_calls := G_law_calls) (b_law_calls := b_law_calls) (k_law_calls := k_law_calls)).imp (spD_imp (by first | exact ok_law_runs_right | exact ok_law_runs_right _ | exact ok_law_runs_right te_BadKind te_BadWish te_OutOfPlace te_BadKind_BadWish te_BadKind_OutOfPlace te_BadWish_BadKind te_BadWish_OutOfPlace te_OutOfPlace_BadKind te_OutOfPlace_BadWish))
  have G_law : FnG l.prog w K mg base (L2.CX l.prog w) 11 fa _ ["script"] (spD ⟨K, w, l.prog⟩ (MM [PT_law_calls, PT_law_kinds_right]) 1 W_law) := (raw_law (P := l.prog) (w := w) (base := base) (F := F_law) (T := T) (g_need_wish := PySem.W.mg_of X G a_need_wish) (g_law_begun := PySem.W.mg_of X G a_law_begun) (g_law_want := PySem.W.mg_of X G a_law_want) (g_law_wishes_right := PySem.W.mg_of X G a_law_wishes_right) (g_law_kinds_right := PySem.W.mg_of X G a_law_kinds_right) (g_law_runs_right := PySem.W.mg_of X G a_law_runs_right) (G_need_wish := G_need_wish) (b_need_wish := b_need_wish) (k_need_wish := k_need_wish) (G_law_begun := G_law_begun) (b_law_begun := b_law_begun) (k_law_begun := k_law_begun) (G_law_want := G_law_want) (b_law_want := b_law_want) (k_law_want := k_law_want) (G_law_wishes_right := G_law_wishes_right) (b_law_wishes_right := b_law_wishes_right) (k_law_wishes_right := k_law_wishes_right) (G_law_kinds_right := G_law_kinds_right) (b_law_kinds_right := b_law_kinds_right) (k_law_kinds_right := k_law_kinds_right) (G_law_runs_right := G_law_runs_right) (b_law_runs_right := b_law_runs_right) (k_law_runs_right := k_law_runs_right)).imp (spD_imp (by first | exact ok_law | exact ok_law _ | exact ok_law te_BadKind te_BadWish te_OutOfPlace te_BadKind_BadWish te_BadKind_OutOfPlace te_BadWish_BadKind te_BadWish_OutOfPlace te_OutOfPlace_BadKind te_OutOfPlace_BadWish))
  exact G_law
theorem law_head (K : PySem.W.Frag) (w : World) (P : Program) (T : List Addr) (H : Hp) (a : Addr) (ns : List Int) (hl : ns.length ≤ 63) (hT : ∀ t ∈ T, H t = some (.tbl #[])) (hS : SqL K H a (ns.map V.int)) : spD ⟨K, w, P⟩ (MM T) 1 W_law [.ref a] H (fun v _ => v = .bl true) fun _ _ _ => False :=
  head_ofT (M := MM T) hT hS fun k q => ⟨ns, rfl, hl, q⟩
end
end K02
open PySem PySem.W PyProof.Rows
set_option maxRecDepth 100000 in
set_option maxHeartbeats 0 in
theorem PySem.Challenge.cw_guardkeeps_k02_wishes_kinds_and_runs_ref_holds : PySem.Challenge.rw_guardkeeps_k02_wishes_kinds_and_runs_ref.Holds := by
  w_on; o_law; k_head; (case hw => w_witness2)
  k_fill
  refine PD.walkGT (l := PySem.Challenge.rw_guardkeeps_k02_wishes_kinds_and_runs_ref) (n := 63) (k := 11) (x := "script") (sp := fun K w T => PD.spD ⟨K, w, PySem.Challenge.rw_guardkeeps_k02_wishes_kinds_and_runs_ref.prog⟩ (K02.MM T) 1 K02.W_law) ["_law_calls", "_law_kinds_right"] rfl (by decide) rfl ⟨rfl, by decide, by decide⟩ (by decide +kernel) (fun w h Y => by first | exact PySem.W.km_in_of Y | exact PySem.W.kIn_of Y) ?F fun K w T H a ns hl hT hS => K02.law_head K w _ T H a ns hl hT hS
  case F =>
    intro w mg fa h KX G hmg HT
    refine' K02.all_mk (l := PySem.Challenge.rw_guardkeeps_k02_wishes_kinds_and_runs_ref) KX G hmg rfl HT ?a_BadKind ?a_BadWish ?a_OutOfPlace ?eC_BadKind ?tC_BadKind ?iC_BadKind ?sC_BadKind ?sC_BadKind_BadWish ?sC_BadKind_OutOfPlace ?eC_BadWish ?tC_BadWish ?iC_BadWish ?sC_BadWish ?sC_BadWish_BadKind ?sC_BadWish_OutOfPlace ?eC_OutOfPlace ?tC_OutOfPlace ?iC_OutOfPlace ?sC_OutOfPlace ?sC_OutOfPlace_BadKind ?sC_OutOfPlace_BadWish ?xl_BadKind ?rv_BadKind ?sa_BadKind ?kC_BadKind ?a_BadKind_init ?tI_BadKind ?l_BadKind_init ?c_BadKind_init ?k_BadKind_init ?nx_BadKind ?xl_BadWish ?rv_BadWish ?sa_BadWish ?kC_BadWish ?a_BadWish_init ?tI_BadWish ?l_BadWish_init ?c_BadWish_init ?k_BadWish_init ?nx_BadWish ?xl_OutOfPlace ?rv_OutOfPlace ?sa_OutOfPlace ?kC_OutOfPlace ?a_OutOfPlace_init ?tI_OutOfPlace ?l_OutOfPlace_init ?c_OutOfPlace_init ?k_OutOfPlace_init ?vV_ValueError ?a_is_count ?l_is_count ?c_is_count ?k_is_count ?a_is_integer ?l_is_integer ?c_is_integer ?k_is_integer ?a_is_triple ?l_is_triple ?c_is_triple ?k_is_triple ?a_are_numbers ?l_are_numbers ?c_are_numbers ?k_are_numbers ?a_are_ascending ?l_are_ascending ?c_are_ascending ?k_are_ascending ?a_are_rising ?l_are_rising ?c_are_rising ?k_are_rising ?a_need_wish ?l_need_wish ?c_need_wish ?k_need_wish ?a_need_run ?l_need_run ?c_need_run ?k_need_run ?a_is_run ?l_is_run ?c_is_run ?k_is_run ?a_state_behind ?l_state_behind ?c_state_behind ?k_state_behind ?a_state_of ?l_state_of ?c_state_of ?k_state_of ?a_is_good ?l_is_good ?c_is_good ?k_is_good ?a_is_live ?l_is_live ?c_is_live ?k_is_live ?a_live_states ?l_live_states ?c_live_states ?k_live_states ?a_are_steps ?l_are_steps ?c_are_steps ?k_are_steps ?a_with_those_ahead ?l_with_those_ahead ?c_with_those_ahead ?k_with_those_ahead ?a_need_kind ?l_need_kind ?c_need_kind ?k_need_kind ?a_law_begun ?l_law_begun ?c_law_begun ?k_law_begun ?a_law_next ?l_law_next ?c_law_next ?k_law_next ?a_law_want ?l_law_want ?c_law_want ?k_law_want ?a_law_outcome ?l_law_outcome ?c_law_outcome ?k_law_outcome ?a_law_calls ?l_law_calls ?c_law_calls ?k_law_calls ?a_law_wishes_right ?l_law_wishes_right ?c_law_wishes_right ?k_law_wishes_right ?a_law_kinds_right ?l_law_kinds_right ?c_law_kinds_right ?k_law_kinds_right ?a_law_runs_right ?l_law_runs_right ?c_law_runs_right ?k_law_runs_right ?a_law ?l_law ?c_law ?k_law ?xg_BadKind ?xh_BadKind ?xd_BadKind ?xg_BadWish ?xh_BadWish ?xd_BadWish ?xa_BadKind_part ?xa_BadWish_part ?tk_law_calls ?tk_law_kinds_right ?z_ValueError ?z_all ?z_any ?z_bool ?z_LONGEST_RUN ?z_MOST_AHEAD ?z_MOST_DEEDS ?z_MOST_HELD ?z_MOST_STATES ?z_enumerate ?z_int ?z_isinstance ?z_len ?z_list ?z_min ?z_range ?z_set ?z_sorted ?z_tuple ?z_zip
    (case a_BadKind => k_is)
    (case a_BadWish => k_is)
    (case a_OutOfPlace => k_is)
    (case eC_BadKind => k_is)
    (case tC_BadKind => k_is)
    (case iC_BadKind => k_is)
    (case sC_BadKind => first | rfl | k_is)
    (case sC_BadKind_BadWish => first | rfl | k_is)
    (case sC_BadKind_OutOfPlace => first | rfl | k_is)
    (case eC_BadWish => k_is)
    (case tC_BadWish => k_is)
    (case iC_BadWish => k_is)
    (case sC_BadWish => first | rfl | k_is)
    (case sC_BadWish_BadKind => first | rfl | k_is)
    (case sC_BadWish_OutOfPlace => first | rfl | k_is)
    (case eC_OutOfPlace => k_is)
    (case tC_OutOfPlace => k_is)
    (case iC_OutOfPlace => k_is)
    (case sC_OutOfPlace => first | rfl | k_is)
    (case sC_OutOfPlace_BadKind => first | rfl | k_is)
    (case sC_OutOfPlace_BadWish => first | rfl | k_is)
    (case xl_BadKind => k_is)
    (case rv_BadKind => first | decide +kernel | k_is)
    (case sa_BadKind => k_is)
    (case kC_BadKind => k_is)
    (case a_BadKind_init => k_is)
    (case tI_BadKind => k_is)
    (case l_BadKind_init => k_is)
    (case c_BadKind_init => k_is)
    (case k_BadKind_init => k_is)
    (case nx_BadKind => k_is)
    (case xl_BadWish => k_is)
    (case rv_BadWish => first | decide +kernel | k_is)
    (case sa_BadWish => k_is)
    (case kC_BadWish => k_is)
    (case a_BadWish_init => k_is)
    (case tI_BadWish => k_is)
    (case l_BadWish_init => k_is)
    (case c_BadWish_init => k_is)
    (case k_BadWish_init => k_is)
    (case nx_BadWish => k_is)
    (case xl_OutOfPlace => k_is)
    (case rv_OutOfPlace => first | decide +kernel | k_is)
    (case sa_OutOfPlace => k_is)
    (case kC_OutOfPlace => k_is)
    (case a_OutOfPlace_init => k_is)
    (case tI_OutOfPlace => k_is)
    (case l_OutOfPlace_init => k_is)
    (case c_OutOfPlace_init => k_is)
    (case k_OutOfPlace_init => k_is)
    (case vV_ValueError => first | k_is | decide +kernel)
    (case a_is_count => k_is)
    (case l_is_count => k_is)
    (case c_is_count => k_is)
    (case k_is_count => k_is)
    (case a_is_integer => k_is)
    (case l_is_integer => k_is)
    (case c_is_integer => k_is)
    (case k_is_integer => k_is)
    (case a_is_triple => k_is)
    (case l_is_triple => k_is)
    (case c_is_triple => k_is)
    (case k_is_triple => k_is)
    (case a_are_numbers => k_is)
    (case l_are_numbers => k_is)
    (case c_are_numbers => k_is)
    (case k_are_numbers => k_is)
    (case a_are_ascending => k_is)
    (case l_are_ascending => k_is)
    (case c_are_ascending => k_is)
    (case k_are_ascending => k_is)
    (case a_are_rising => k_is)
    (case l_are_rising => k_is)
    (case c_are_rising => k_is)
    (case k_are_rising => k_is)
    (case a_need_wish => k_is)
    (case l_need_wish => k_is)
    (case c_need_wish => k_is)
    (case k_need_wish => k_is)
    (case a_need_run => k_is)
    (case l_need_run => k_is)
    (case c_need_run => k_is)
    (case k_need_run => k_is)
    (case a_is_run => k_is)
    (case l_is_run => k_is)
    (case c_is_run => k_is)
    (case k_is_run => k_is)
    (case a_state_behind => k_is)
    (case l_state_behind => k_is)
    (case c_state_behind => k_is)
    (case k_state_behind => k_is)
    (case a_state_of => k_is)
    (case l_state_of => k_is)
    (case c_state_of => k_is)
    (case k_state_of => k_is)
    (case a_is_good => k_is)
    (case l_is_good => k_is)
    (case c_is_good => k_is)
    (case k_is_good => k_is)
    (case a_is_live => k_is)
    (case l_is_live => k_is)
    (case c_is_live => k_is)
    (case k_is_live => k_is)
    (case a_live_states => k_is)
    (case l_live_states => k_is)
    (case c_live_states => k_is)
    (case k_live_states => k_is)
    (case a_are_steps => k_is)
    (case l_are_steps => k_is)
    (case c_are_steps => k_is)
    (case k_are_steps => k_is)
    (case a_with_those_ahead => k_is)
    (case l_with_those_ahead => k_is)
    (case c_with_those_ahead => k_is)
    (case k_with_those_ahead => k_is)
    (case a_need_kind => k_is)
    (case l_need_kind => k_is)
    (case c_need_kind => k_is)
    (case k_need_kind => k_is)
    (case a_law_begun => k_is)
    (case l_law_begun => k_is)
    (case c_law_begun => k_is)
    (case k_law_begun => k_is)
    (case a_law_next => k_is)
    (case l_law_next => k_is)
    (case c_law_next => k_is)
    (case k_law_next => k_is)
    (case a_law_want => k_is)
    (case l_law_want => k_is)
    (case c_law_want => k_is)
    (case k_law_want => k_is)
    (case a_law_outcome => k_is)
    (case l_law_outcome => k_is)
    (case c_law_outcome => k_is)
    (case k_law_outcome => k_is)
    (case a_law_calls => k_is)
    (case l_law_calls => k_is)
    (case c_law_calls => k_is)
    (case k_law_calls => k_is)
    (case a_law_wishes_right => k_is)
    (case l_law_wishes_right => k_is)
    (case c_law_wishes_right => k_is)
    (case k_law_wishes_right => k_is)
    (case a_law_kinds_right => k_is)
    (case l_law_kinds_right => k_is)
    (case c_law_kinds_right => k_is)
    (case k_law_kinds_right => k_is)
    (case a_law_runs_right => k_is)
    (case l_law_runs_right => k_is)
    (case c_law_runs_right => k_is)
    (case k_law_runs_right => k_is)
    (case a_law => k_is)
    (case l_law => k_is)
    (case c_law => k_is)
    (case k_law => k_is)
    (case xg_BadKind => k_is)
    (case xh_BadKind => k_is)
    (case xd_BadKind => k_is)
    (case xg_BadWish => k_is)
    (case xh_BadWish => k_is)
    (case xd_BadWish => k_is)
    (case xa_BadKind_part => k_is)
    (case xa_BadWish_part => k_is)
    (case tk_law_calls => first | k_is | rfl | decide +kernel)
    (case tk_law_kinds_right => first | k_is | rfl | decide +kernel)
    (case z_ValueError => k_is)
    (case z_all => k_is)
    (case z_any => k_is)
    (case z_bool => k_is)
    (case z_LONGEST_RUN => k_is)
    (case z_MOST_AHEAD => k_is)
    (case z_MOST_DEEDS => k_is)
    (case z_MOST_HELD => k_is)
    (case z_MOST_STATES => k_is)
    (case z_enumerate => k_is)
    (case z_int => k_is)
    (case z_isinstance => k_is)
    (case z_len => k_is)
    (case z_list => k_is)
    (case z_min => k_is)
    (case z_range => k_is)
    (case z_set => k_is)
    (case z_sorted => k_is)
    (case z_tuple => k_is)
    (case z_zip => k_is)
