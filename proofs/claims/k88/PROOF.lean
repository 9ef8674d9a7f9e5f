import PyProof.Rows.All
import Wide.All
import OpenK.AllK
import Wide.FinOn
import HandS.ForMost
import HandS.Evl
import HandS.Deep
import HandS.TupAny
import HandS.TupMul
import HandS.IsInst
import HandS.Zip
import HandS.SortInts
import HandS.Strs
import KE.KDictKeyed
import HandS.ForExc
import HandS.ExcInit
import HandS.ExcField
import HandS.TryMany
import HandS.Ends
import KE.GoesEnum
import HandS.SetFor
import HandS.Style
import KE.KEqSeq
import HandS.Codes
import PyProof.ReprLen
import HandS.FStr
import HandS.RaiseMore
import HandS.StrMore
import HandS.Star
import HandS.DictComp
import HandS.Conv
import HandS.Exc
import PySem.Challenge.RW_guardkeeps_k88_whole_texts_there_and_bac
set_option Elab.async false
set_option linter.all false
set_option maxRecDepth 100000
set_option maxHeartbeats 4000000
/-! # PD: plain data over the hand layer. What a def does is told over PyData alone; the heap is looked at here once. -/
namespace PD
open PySem L2
open Evl (Ex)
abbrev D := PyData
/-- the constant part, and the world (the hashes hang on it) -/
structure Kw where
  f : PySem.W.Frag
  w : World
abbrev Fr0 := Kw
@[reducible] def _root_.L2.Cx.k0 (X : Cx) : Kw := ⟨X.K, X.w⟩

/-! ### heaps -/
/-- the heap without the addresses of L -/
def hide (L : List Addr) (H : Hp) : Hp := fun a => if a ∈ L then none else H a
theorem hide_some {L : List Addr} {H : Hp} {a : Addr} {o : HO} : hide L H a = some o ↔ a ∉ L ∧ H a = some o := by
  unfold hide
  by_cases h : a ∈ L
  · simp [h]
  · simp [h]
theorem hide_ex {L : List Addr} {H H' : Hp} (e : Ex H H') : Ex (hide L H) (hide L H') := fun a o h => by
  obtain ⟨h1, h2⟩ := hide_some.mp h
  exact hide_some.mpr ⟨h1, e a o h2⟩
theorem hide_le (L : List Addr) (H : Hp) : Ex (hide L H) H := fun a o h => (hide_some.mp h).2
theorem hide_sub {L L' : List Addr} {H : Hp} (h : ∀ a ∈ L, a ∈ L') : Ex (hide L' H) (hide L H) := fun a o e => by
  obtain ⟨h1, h2⟩ := hide_some.mp e
  exact hide_some.mpr ⟨fun z => h1 (h a z), h2⟩
theorem ex_free {H H' : Hp} (e : Ex H H') {p : Addr} (h : H' p = none) : H p = none := Evl.fresh_back e h

mutual
/-- a key of a dict whose keys are tuples -/
def keyN : D → Option NestedKey
  | .none => some .none
  | .bool b => some (.num (if b = true then 1 else 0))
  | .int i => some (.num i)
  | .str x => some (.text x)
  | .tuple ds => (keyNs ds).map .tup
  | .list _ => none
  | .dict _ => none
def keyNs : List D → Option (List NestedKey)
  | [] => some []
  | d :: ds => match keyN d, keyNs ds with
    | some k, some ks => some (k :: ks)
    | _, _ => none
end
/-- the object of a dict whose keys are tuples -/
def NdF (w : World) (d : Addr) (o : Obj) (xs : List (NestedKey × Addr × V)) : Prop := (d == sysModules) = false ∧ o.ExactDict ∧ xs.length ≤ sizeLine ∧ (xs.map (·.1)).Nodup ∧ ∃ (es : Array DictEntry) (ep : Nat) (us : List Value), o.data = .dict es ep ∧
  Vals (xs.map fun x => x.2.2) us ∧ es.toList = (xs.zip us).map (fun p => (⟨p.1.1.hash w, .ref p.1.2.1, p.2⟩ : DictEntry))
/-- .. whose keys are ints and texts -/
def KdF (w : World) (d : Addr) (o : Obj) (kvs : List (Key × V)) : Prop := (d == sysModules) = false ∧ o.ExactDict ∧ kvs.length ≤ sizeLine ∧ ∃ (es : Array DictEntry) (ep : Nat) (vs : List (Key × Value)), o.data = .dict es ep ∧
  (∀ e ∈ es, ∃ k, keyIs k e.key = true ∧ e.hash = keyH w k) ∧ Paired (fun (e : DictEntry) (kv : Key × Value) => keyIs kv.1 e.key = true ∧ e.val = kv.2) es.toList vs ∧ (vs.map (·.1)).Nodup ∧ KV kvs vs
/-- at d: just this object -/
def NdO (w : World) (d : Addr) (o : Obj) (xs : List (NestedKey × Addr × V)) : HO := .ext fun h => h.get? d = some o ∧ NdF w d o xs
def KdO (w : World) (d : Addr) (o : Obj) (kvs : List (Key × V)) : HO := .ext fun h => h.get? d = some o ∧ KdF w d o kvs
mutual
/-- what lies at a value, as data; an instance of a class is told as a dict that no dict can be -/
inductive Rp (K : Fr0) (H : Hp) : V → D → Prop
  | non : Rp K H .non .none
  | bl (b : Bool) : Rp K H (.bl b) (.bool b)
  | int (i : Int) : Rp K H (.int i) (.int i)
  | str (x : Str) : Rp K H (.str x) (.str x)
  | lst {a : Addr} {xs : List V} {ds : List D} : SqL K.f H a xs → RpAll K H xs ds → Rp K H (.ref a) (.list ds)
  | tup {a : Addr} {xs : List V} {ds : List D} : SqT K.f H a xs → RpAll K H xs ds → Rp K H (.ref a) (.tuple ds)
  | dct {a : Addr} {o : Obj} {kvs : List (Key × V)} {ps : List (D × D)} : H a = some (KdO K.w a o kvs) → RpKv K H kvs ps → Rp K H (.ref a) (.dict ps)
  | dctN {a : Addr} {o : Obj} {xs : List (NestedKey × Addr × V)} {ps : List (D × D)} : H a = some (NdO K.w a o xs) → RpN K H xs ps → Rp K H (.ref a) (.dict ps)
  | obj {a C dx : Addr} {fs : List (Str × V)} {ps : List (D × D)} : H a = some (.ins C dx fs) → RpF K H fs ps → Rp K H (.ref a) (.dict ((.list [], .int (C : Nat)) :: ps))
inductive RpAll (K : Fr0) (H : Hp) : List V → List D → Prop
  | nil : RpAll K H [] []
  | cons {v : V} {vs : List V} {d : D} {ds : List D} : Rp K H v d → RpAll K H vs ds → RpAll K H (v :: vs) (d :: ds)
inductive RpKv (K : Fr0) (H : Hp) : List (Key × V) → List (D × D) → Prop
  | nil : RpKv K H [] []
  | cons {k : Key} {v : V} {kvs : List (Key × V)} {d e : D} {ps : List (D × D)} : Rp K H (kV k) d → Rp K H v e → RpKv K H kvs ps → RpKv K H ((k, v) :: kvs) ((d, e) :: ps)
inductive RpN (K : Fr0) (H : Hp) : List (NestedKey × Addr × V) → List (D × D) → Prop
  | nil : RpN K H [] []
  | cons {k : NestedKey} {b : Addr} {v : V} {xs : List (NestedKey × Addr × V)} {d e : D} {ps : List (D × D)} : keyN d = some k → k.depth ≤ 8 → Rp K H (.ref b) d → Rp K H v e → RpN K H xs ps → RpN K H ((k, b, v) :: xs) ((d, e) :: ps)
inductive RpF (K : Fr0) (H : Hp) : List (Str × V) → List (D × D) → Prop
  | nil : RpF K H [] []
  | cons {n : Str} {v : V} {fs : List (Str × V)} {e : D} {ps : List (D × D)} : Rp K H v e → RpF K H fs ps → RpF K H ((n, v) :: fs) ((.str n, e) :: ps)
end

theorem rd_ext {H H' : Hp} {a : Addr} {u : HO} (e : Ex H H') (h : Rd H a u) : Rd H' a u := Evl.ex_rd e h
mutual
theorem rp_up {K : Fr0} {H H' : Hp} (e : Ex H H') : ∀ {v : V} {d : D}, Rp K H v d → Rp K H' v d
  | _, _, .non => .non
  | _, _, .bl b => .bl b
  | _, _, .int i => .int i
  | _, _, .str x => .str x
  | _, _, .lst hs ha => .lst (Evl.ex_l e hs) (rpa_up e ha)
  | _, _, .tup hs ha => .tup (Evl.ex_t e hs) (rpa_up e ha)
  | _, _, .dct hs ha => .dct (e _ _ hs) (rpk_up e ha)
  | _, _, .dctN hs ha => .dctN (e _ _ hs) (rpn_up e ha)
  | _, _, .obj hs ha => .obj (e _ _ hs) (rpf_up e ha)
theorem rpa_up {K : Fr0} {H H' : Hp} (e : Ex H H') : ∀ {vs : List V} {ds : List D}, RpAll K H vs ds → RpAll K H' vs ds
  | _, _, .nil => .nil
  | _, _, .cons h1 h2 => .cons (rp_up e h1) (rpa_up e h2)
theorem rpk_up {K : Fr0} {H H' : Hp} (e : Ex H H') : ∀ {vs : List (Key × V)} {ds : List (D × D)}, RpKv K H vs ds → RpKv K H' vs ds
  | _, _, .nil => .nil
  | _, _, .cons h1 h2 h3 => .cons (rp_up e h1) (rp_up e h2) (rpk_up e h3)
theorem rpn_up {K : Fr0} {H H' : Hp} (e : Ex H H') : ∀ {vs : List (NestedKey × Addr × V)} {ds : List (D × D)}, RpN K H vs ds → RpN K H' vs ds
  | _, _, .nil => .nil
  | _, _, .cons h0 hd h1 h2 h3 => .cons h0 hd (rp_up e h1) (rp_up e h2) (rpn_up e h3)
theorem rpf_up {K : Fr0} {H H' : Hp} (e : Ex H H') : ∀ {vs : List (Str × V)} {ds : List (D × D)}, RpF K H vs ds → RpF K H' vs ds
  | _, _, .nil => .nil
  | _, _, .cons h1 h2 => .cons (rp_up e h1) (rpf_up e h2)
end
theorem dp_ex {K : Fr0} {H H' : Hp} (e : Ex H H') (d : D) (v : V) (h : Rp K H v d) : Rp K H' v d := rp_up e h
theorem dpa_ex {K : Fr0} {H H' : Hp} (e : Ex H H') (ds : List D) (vs : List V) (h : RpAll K H vs ds) : RpAll K H' vs ds := rpa_up e h
theorem dpk_ex {K : Fr0} {H H' : Hp} (e : Ex H H') (ds : List (D × D)) (vs : List (Key × V)) (h : RpKv K H vs ds) : RpKv K H' vs ds := rpk_up e h
mutual
/-- without dicts it is what == looks at -/
theorem rp_dp {K : Fr0} {H : Hp} : ∀ (d : D) (v : V), d.canLay0 = true → Rp K H v d → Dp K.f H v d
  | .none, _, _, h => by cases h; exact .non
  | .bool b, _, _, h => by cases h; exact .bl b
  | .int i, _, _, h => by cases h; exact .int i
  | .str x, _, _, h => by cases h; exact .str x
  | .list ds, _, c, h => by
    cases h with
    | lst hs ha => exact .lst hs (rpa_dp ds _ (by simpa [PyData.canLay0] using c) ha)
  | .tuple ds, _, c, h => by
    cases h with
    | tup hs ha => exact .tup hs (rpa_dp ds _ (by simpa [PyData.canLay0] using c) ha)
  | .dict _, _, c, h => by simp [PyData.canLay0] at c
theorem rpa_dp {K : Fr0} {H : Hp} : ∀ (ds : List D) (vs : List V), PyData.canLayAll0 ds = true → RpAll K H vs ds → DpAll K.f H vs ds
  | [], _, _, h => by cases h; exact .nil
  | d :: ds, _, c, h => by
    have c' : d.canLay0 = true ∧ PyData.canLayAll0 ds = true := by simpa [PyData.canLayAll0] using c
    cases h with
    | cons h1 h2 => exact .cons (rp_dp d _ c'.1 h1) (rpa_dp ds _ c'.2 h2)
end
theorem dpa_len {K : Fr0} {H : Hp} : ∀ {vs : List V} {ds : List D}, RpAll K H vs ds → vs.length = ds.length
  | _, [], h => by cases h; rfl
  | _, _ :: _, h => by
    cases h with
    | cons _ h2 => simp [dpa_len h2]
theorem dpa_get {K : Fr0} {H : Hp} : ∀ {vs : List V} {ds : List D} {i : Nat} {v : V}, RpAll K H vs ds → vs[i]? = some v → ∃ d, ds[i]? = some d ∧ Rp K H v d
  | _, [], i, v, h, e => by cases h; simp at e
  | _, d :: ds, 0, v, h, e => by
    cases h with
    | cons h1 h2 =>
      simp at e
      subst e
      exact ⟨d, rfl, h1⟩
  | _, d :: ds, i + 1, v, h, e => by
    cases h with
    | cons h1 h2 =>
      obtain ⟨d', h3, h4⟩ := dpa_get (i := i) h2 (by simpa using e)
      exact ⟨d', by simpa using h3, h4⟩
theorem dpa_get' {K : Fr0} {H : Hp} {vs : List V} {ds : List D} {i : Nat} {d : D} (h : RpAll K H vs ds) (e : ds[i]? = some d) : ∃ v, vs[i]? = some v ∧ Rp K H v d := by
  have hl := dpa_len h
  obtain ⟨hi, _⟩ := List.getElem?_eq_some_iff.mp e
  have e2 : vs[i]? = some vs[i] := List.getElem?_eq_getElem (by omega)
  obtain ⟨d', h3, h4⟩ := dpa_get h e2
  rw [e] at h3
  cases h3
  exact ⟨_, e2, h4⟩
theorem dpa_app {K : Fr0} {H : Hp} : ∀ {vs ws : List V} {ds es : List D}, RpAll K H vs ds → RpAll K H ws es → RpAll K H (vs ++ ws) (ds ++ es)
  | _, _, [], _, h, g => by cases h; exact g
  | _, _, _ :: _, _, h, g => by
    cases h with
    | cons h1 h2 => exact .cons h1 (dpa_app h2 g)
theorem dpa_drop {K : Fr0} {H : Hp} : ∀ (n : Nat) {vs : List V} {ds : List D}, RpAll K H vs ds → RpAll K H (vs.drop n) (ds.drop n)
  | 0, _, _, h => h
  | n + 1, _, [], h => by cases h; exact .nil
  | n + 1, _, _ :: _, h => by
    cases h with
    | cons _ h2 => exact dpa_drop n h2
theorem dpa_take {K : Fr0} {H : Hp} : ∀ (n : Nat) {vs : List V} {ds : List D}, RpAll K H vs ds → RpAll K H (vs.take n) (ds.take n)
  | 0, _, _, h => .nil
  | n + 1, _, [], h => by cases h; exact .nil
  | n + 1, _, _ :: _, h => by
    cases h with
    | cons h1 h2 => exact .cons h1 (dpa_take n h2)
theorem dpa_set {K : Fr0} {H : Hp} {v : V} {d : D} (hv : Rp K H v d) : ∀ (j : Nat) {vs : List V} {ds : List D}, RpAll K H vs ds → RpAll K H (vs.set j v) (ds.set j d)
  | _, _, [], h => by cases h; exact .nil
  | 0, _, _ :: _, h => by
    cases h with
    | cons h1 h2 => exact .cons hv h2
  | n + 1, _, _ :: _, h => by
    cases h with
    | cons h1 h2 => exact .cons h1 (dpa_set hv n h2)
theorem dpa_ints {K : Fr0} {H : Hp} : ∀ (ns : List Int), RpAll K H (ns.map V.int) (ns.map PyData.int)
  | [] => .nil
  | n :: ns => .cons (.int n) (dpa_ints ns)
/-- flat data is itself anywhere -/
theorem dpa_ints_eq {K : Fr0} {H : Hp} : ∀ {vs : List V} {ns : List Int}, RpAll K H vs (ns.map PyData.int) → vs = ns.map V.int
  | _, [], h => by cases h; rfl
  | _, n :: ns, h => by
    cases h with
    | cons h1 h2 =>
      cases h1
      rw [dpa_ints_eq h2]
      rfl
theorem dpa_bools_eq {K : Fr0} {H : Hp} : ∀ {vs : List V} {ns : List Bool}, RpAll K H vs (ns.map PyData.bool) → vs = ns.map V.bl
  | _, [], h => by cases h; rfl
  | _, n :: ns, h => by
    cases h with
    | cons h1 h2 =>
      cases h1
      rw [dpa_bools_eq h2]
      rfl

/-! ### what a slot holds, in the eyes of data -/
/-- what is the def's own, and still filled: a list; a dict (its keys tuples, or not); an object of the class at C -/
inductive Ow where
  | l (xs : List D)
  | d (kd : Bool) (ps : List (D × D))
  | o (p C : Addr) (ps : List (D × D))
instance : Coe (List D) Ow := ⟨.l⟩
def OwAt (K : Fr0) (H : Hp) (a : Addr) (u : HO) : Ow → Prop
  | .l xs => ∃ vs, u = .lst vs ∧ RpAll K H vs xs
  | .d true ps => ∃ o xs, u = NdO K.w a o xs ∧ RpN K H xs ps
  | .d false ps => ∃ o kvs, u = KdO K.w a o kvs ∧ RpKv K H kvs ps
  | .o p C ps => a = p ∧ ∃ dx fs, u = .ins C dx fs ∧ RpF K H fs ps
theorem OwAt.up {K : Fr0} {H H' : Hp} {a : Addr} {u : HO} (e : Ex H H') : ∀ {c : Ow}, OwAt K H a u c → OwAt K H' a u c
  | .l _, ⟨vs, h1, h2⟩ => ⟨vs, h1, rpa_up e h2⟩
  | .d true _, ⟨o, xs, h1, h2⟩ => ⟨o, xs, h1, rpn_up e h2⟩
  | .d false _, ⟨o, xs, h1, h2⟩ => ⟨o, xs, h1, rpk_up e h2⟩
  | .o _ _ _, ⟨h0, dx, fs, h1, h2⟩ => ⟨h0, dx, fs, h1, rpf_up e h2⟩
inductive Sl where
  | no
  /-- data, for good -/
  | d (x : D)
  /-- of the def's own, still filled -/
  | own (c : Ow)
  /-- the object of the draws -/
  | st
  /-- just this value -/
  | raw (v : V)
  /-- a caught exception: where it is, its dict, its attributes -/
  | exc (a : Addr) (d : Option Addr) (fl : List (D × D))
structure Rho where
  sl : List Sl
  /-- a bound of the draws that were made -/
  n : Nat
@[reducible] def Rho.set (ρ : Rho) (i : Nat) (s : Sl) : Rho := ⟨ρ.sl.set i s, ρ.n⟩
/-- the object of the draws: at p, by so many draws, over the addresses A -/
structure Mk0 where
  holds : Fr0 → Addr → Nat → List Addr → Hp → Prop
  loc : ∀ {K p n A H H'}, (∀ a ∈ A, ∀ o, H a = some o → H' a = some o) → holds K p n A H → holds K p n A H'
  le : ∀ {K p n m A H}, n ≤ m → holds K p n A H → holds K p m A H

/-- an exception's attributes -/
def XAt (K : Fr0) (H : Hp) (d : Option Addr) (fl : List (D × D)) : Prop := (fl = [] ∧ d = none) ∨ ∃ dd fs, d = some dd ∧ H dd = some (.xd fs) ∧ RpF K H fs fl
theorem XAt.up {K : Fr0} {H H' : Hp} {d : Option Addr} {fl : List (D × D)} (e : Ex H H') (h : XAt K H d fl) : XAt K H' d fl := by
  rcases h with h | ⟨dd, fs, h1, h2, h3⟩
  · exact .inl h
  · exact .inr ⟨dd, fs, h1, e _ _ h2, rpf_up e h3⟩
/-- one slot -/
def SlOk (K : Fr0) (P : Option Addr) (L : List Addr) (H : Hp) : Sl → Option V → Prop
  | .no, _ => True
  | .d x, o => ∃ v, o = some v ∧ Rp K (hide L H) v x
  | .own c, o => ∃ l u, o = some (.ref l) ∧ l ∈ L ∧ H l = some u ∧ OwAt K (hide L H) l u c
  | .st, o => ∃ p, P = some p ∧ o = some (.ref p)
  | .raw v, o => o = some v
  | .exc a d fl, o => o = some (.ref a) ∧ XAt K (hide L H) d fl

structure R (K : Fr0) (M : Mk0) (P : Option Addr) (F : Hp) (L : List Addr) (ρ : Rho) (σ : L2.St) (H : Hp) : Prop where
  len : σ.length = ρ.sl.length
  sl : ∀ (i : Nat) (s : Sl) (o : Option V), ρ.sl[i]? = some s → σ[i]? = some o → SlOk K P L H s o
  fr : ∀ a o, F a = some o → H a = some o ∧ a ∈ L
  tr : ∀ a ∈ L, ∃ o, H a = some o
  apart : ∀ (i j : Nat) (xs ys : Ow) (l : Addr), i ≠ j → ρ.sl[i]? = some (.own xs) → ρ.sl[j]? = some (.own ys) → σ[i]? = some (some (.ref l)) → σ[j]? = some (some (.ref l)) → False
  ownF : ∀ (i : Nat) (xs : Ow) (l : Addr), ρ.sl[i]? = some (.own xs) → σ[i]? = some (some (.ref l)) → F l = none
  m : ∀ p, P = some p → ∃ A, M.holds K p ρ.n A H ∧ (∀ a ∈ A, a ∈ L ∧ F a = none) ∧ ∀ (i : Nat) (xs : Ow) (l : Addr), ρ.sl[i]? = some (.own xs) → σ[i]? = some (some (.ref l)) → l ∉ A

section
variable {K : Fr0} {M : Mk0} {P : Option Addr} {F : Hp} {L L' : List Addr} {ρ : Rho} {σ : L2.St} {H H' : Hp}
theorem SlOk.ex {s : Sl} {o : Option V} (e : Ex H H') (h : SlOk K P L H s o) : SlOk K P L H' s o := by
  cases s with
  | no => trivial
  | d x =>
    obtain ⟨v, h1, h2⟩ := h
    exact ⟨v, h1, dp_ex (hide_ex e) _ _ h2⟩
  | own xs =>
    obtain ⟨l, vs, h1, h2, h3, h4⟩ := h
    exact ⟨l, vs, h1, h2, e _ _ h3, h4.up (hide_ex e)⟩
  | st => exact h
  | raw v => exact h
  | exc a d fl => exact ⟨h.1, h.2.up (hide_ex e)⟩
/-- everything that was tracked is as it was -/
theorem R.ex (r : R K M P F L ρ σ H) (e : Ex H H') : R K M P F L ρ σ H' where
  len := r.len
  sl := fun i s o h1 h2 => (r.sl i s o h1 h2).ex e
  fr := fun a o h => ⟨e _ _ (r.fr a o h).1, (r.fr a o h).2⟩
  tr := fun a h => let ⟨o, q⟩ := r.tr a h; ⟨o, e _ _ q⟩
  apart := r.apart
  ownF := r.ownF
  m := fun p h => by
    obtain ⟨A, h1, h2, h3⟩ := r.m p h
    exact ⟨A, M.loc (fun a _ o q => e _ _ q) h1, h2, h3⟩
theorem R.get (r : R K M P F L ρ σ H) {i : Nat} {x : D} (h : ρ.sl[i]? = some (.d x)) : ∃ v, σ[i]? = some (some v) ∧ Rp K (hide L H) v x := by
  have hi : i < σ.length := by rw [r.len]; exact (List.getElem?_eq_some_iff.mp h).1
  obtain ⟨v, h1, h2⟩ := r.sl i _ _ h (List.getElem?_eq_getElem hi)
  exact ⟨v, by rw [List.getElem?_eq_getElem hi, h1], h2⟩
theorem R.getOwn (r : R K M P F L ρ σ H) {i : Nat} {xs : Ow} (h : ρ.sl[i]? = some (.own xs)) : ∃ l u, σ[i]? = some (some (.ref l)) ∧ l ∈ L ∧ H l = some u ∧ OwAt K (hide L H) l u xs := by
  have hi : i < σ.length := by rw [r.len]; exact (List.getElem?_eq_some_iff.mp h).1
  obtain ⟨l, vs, h1, h2⟩ := r.sl i _ _ h (List.getElem?_eq_getElem hi)
  exact ⟨l, vs, by rw [List.getElem?_eq_getElem hi, h1], h2⟩
theorem R.getSt (r : R K M P F L ρ σ H) {i : Nat} (h : ρ.sl[i]? = some .st) : ∃ p, P = some p ∧ σ[i]? = some (some (.ref p)) := by
  have hi : i < σ.length := by rw [r.len]; exact (List.getElem?_eq_some_iff.mp h).1
  obtain ⟨p, h1, h2⟩ := r.sl i _ _ h (List.getElem?_eq_getElem hi)
  exact ⟨p, h1, by rw [List.getElem?_eq_getElem hi, h2]⟩
/-- a slot gets data (or is forgotten) -/
theorem R.setD (r : R K M P F L ρ σ H) (i : Nat) (s : Sl) (o : Option V) (hs : SlOk K P L H s o) (ho : ∀ xs, s ≠ .own xs) : R K M P F L (ρ.set i s) (σ.set i o) H where
  len := by simp [r.len]
  sl := fun j t u h1 h2 => by
    by_cases e : j = i
    · subst e
      have hj : j < ρ.sl.length := by
        have := (List.getElem?_eq_some_iff.mp h1).1
        simpa using this
      rw [show (ρ.set j s).sl = ρ.sl.set j s from rfl, List.getElem?_set_self hj] at h1
      rw [List.getElem?_set_self (by rw [r.len]; exact hj)] at h2
      cases h1
      cases h2
      exact hs
    · rw [show (ρ.set i s).sl = ρ.sl.set i s from rfl, List.getElem?_set_ne (fun q => e q.symm)] at h1
      rw [List.getElem?_set_ne (fun q => e q.symm)] at h2
      exact r.sl j t u h1 h2
  fr := r.fr
  tr := r.tr
  apart := fun a b xs ys l hab h1 h2 h3 h4 => by
    have go : ∀ {c : Nat} {zs : Ow}, (ρ.set i s).sl[c]? = some (.own zs) → c ≠ i := fun {c zs} h q => by
      subst q
      have hc : c < ρ.sl.length := by
        have := (List.getElem?_eq_some_iff.mp h).1
        simpa using this
      rw [show (ρ.set c s).sl = ρ.sl.set c s from rfl, List.getElem?_set_self hc] at h
      cases h
      exact ho zs rfl
    have ha := go h1
    have hb := go h2
    rw [show (ρ.set i s).sl = ρ.sl.set i s from rfl, List.getElem?_set_ne (fun q => ha q.symm)] at h1
    rw [show (ρ.set i s).sl = ρ.sl.set i s from rfl, List.getElem?_set_ne (fun q => hb q.symm)] at h2
    rw [List.getElem?_set_ne (fun q => ha q.symm)] at h3
    rw [List.getElem?_set_ne (fun q => hb q.symm)] at h4
    exact r.apart a b xs ys l hab h1 h2 h3 h4
  ownF := fun c zs l h h3 => by
    have hc : c ≠ i := fun q => by
      subst q
      have hc : c < ρ.sl.length := by
        have := (List.getElem?_eq_some_iff.mp h).1
        simpa using this
      rw [show (ρ.set c s).sl = ρ.sl.set c s from rfl, List.getElem?_set_self hc] at h
      cases h
      exact ho zs rfl
    rw [show (ρ.set i s).sl = ρ.sl.set i s from rfl, List.getElem?_set_ne (fun q => hc q.symm)] at h
    rw [List.getElem?_set_ne (fun q => hc q.symm)] at h3
    exact r.ownF c zs l h h3
  m := fun p hp => by
    obtain ⟨A, h1, h2, h3⟩ := r.m p hp
    refine ⟨A, h1, h2, fun c zs l h h4 => ?_⟩
    have hc : c ≠ i := fun q => by
      subst q
      have hc : c < ρ.sl.length := by
        have := (List.getElem?_eq_some_iff.mp h).1
        simpa using this
      rw [show (ρ.set c s).sl = ρ.sl.set c s from rfl, List.getElem?_set_self hc] at h
      cases h
      exact ho zs rfl
    rw [show (ρ.set i s).sl = ρ.sl.set i s from rfl, List.getElem?_set_ne (fun q => hc q.symm)] at h
    rw [List.getElem?_set_ne (fun q => hc q.symm)] at h4
    exact h3 c zs l h h4
end
end PD

namespace PD
open PySem L2
open Evl (Ex)
section
variable {K : Fr0} {M : Mk0} {P : Option Addr} {F : Hp} {L L' : List Addr} {ρ : Rho} {σ : L2.St} {H H' : Hp}

def Own (ρ : Rho) (σ : L2.St) (a : Addr) : Prop := ∃ (i : Nat) (xs : Ow), ρ.sl[i]? = some (Sl.own xs) ∧ σ[i]? = some (some (V.ref a))
open Classical in
/-- what a callee must leave as it is, besides what is told by Ex -/
noncomputable def keepF (ρ : Rho) (σ : L2.St) (F H : Hp) : Hp := fun a => if Own ρ σ a then H a else F a
theorem keepF_own {a : Addr} (h : Own ρ σ a) : keepF ρ σ F H a = H a := by unfold keepF; rw [if_pos h]
theorem keepF_not {a : Addr} (h : ¬ Own ρ σ a) : keepF ρ σ F H a = F a := by unfold keepF; rw [if_neg h]
/-- slots without lists of one's own -/
def Bare (ρ : Rho) : Prop := ∀ (i : Nat) (xs : Ow), ρ.sl[i]? ≠ some (.own xs)
theorem R.frame (r : R K M P F L ρ σ H) {ρc : Rho} {σc : L2.St} (hb : Bare ρc) (hn : ρc.n = ρ.n) (hl : σc.length = ρc.sl.length)
    (hs : ∀ (i : Nat) (s : Sl) (o : Option V), ρc.sl[i]? = some s → σc[i]? = some o → SlOk K P L H s o) : R K M P (keepF ρ σ F H) L ρc σc H where
  len := hl
  sl := hs
  fr := fun a o h => by
    by_cases ho : Own ρ σ a
    · rw [keepF_own ho] at h
      obtain ⟨i, xs, h1, h2⟩ := ho
      obtain ⟨l, vs, h3, h4, _⟩ := r.getOwn h1
      rw [h2] at h3
      cases h3
      exact ⟨h, h4⟩
    · rw [keepF_not ho] at h
      exact r.fr a o h
  tr := r.tr
  apart := fun i j xs ys l _ h => absurd h (hb i xs)
  ownF := fun i xs l h => absurd h (hb i xs)
  m := fun p hp => by
    obtain ⟨A, h1, h2, h3⟩ := r.m p hp
    refine ⟨A, by rw [hn]; exact h1, fun a ha => ⟨(h2 a ha).1, ?_⟩, fun i xs l h => absurd h (hb i xs)⟩
    have hno : ¬ Own ρ σ a := fun ⟨i, xs, h4, h5⟩ => h3 i xs a h4 h5 ha
    rw [keepF_not hno]
    exact (h2 a ha).2
theorem R.back (r : R K M P F L ρ σ H) {ρc : Rho} {σc : L2.St} (r' : R K M P (keepF ρ σ F H) L' ρc σc H') (e : Ex (hide L H) (hide L' H')) : R K M P F L' ⟨ρ.sl, ρc.n⟩ σ H' where
  len := r.len
  sl := fun i s o h1 h2 => by
    have q := r.sl i s o h1 h2
    cases s with
    | no => trivial
    | d x =>
      obtain ⟨v, h3, h4⟩ := q
      exact ⟨v, h3, dp_ex e _ _ h4⟩
    | own xs =>
      obtain ⟨l, vs, h3, h4, h5, h6⟩ := q
      have ho : Own ρ σ l := ⟨i, xs, h1, by rw [h2, h3]⟩
      have hf := r'.fr l vs (by rw [keepF_own ho]; exact h5)
      exact ⟨l, vs, h3, hf.2, hf.1, h6.up e⟩
    | st => exact q
    | raw v => exact q
    | exc a d fl => exact ⟨q.1, q.2.up e⟩
  fr := fun a o h => by
    have hno : ¬ Own ρ σ a := fun ⟨i, xs, h4, h5⟩ => by
      have := r.ownF i xs a h4 h5
      rw [h] at this
      cases this
    exact r'.fr a o (by rw [keepF_not hno]; exact h)
  tr := r'.tr
  apart := r.apart
  ownF := r.ownF
  m := fun p hp => by
    obtain ⟨A, h1, h2, h3⟩ := r'.m p hp
    have hA : ∀ a ∈ A, ¬ Own ρ σ a := fun a ha ho => by
      have q := (h2 a ha).2
      rw [keepF_own ho] at q
      obtain ⟨i, xs, h4, h5⟩ := ho
      obtain ⟨l, vs, h6, _, h8, _⟩ := r.getOwn h4
      rw [h5] at h6
      cases h6
      rw [h8] at q
      cases q
    refine ⟨A, h1, fun a ha => ⟨(h2 a ha).1, ?_⟩, fun i xs l h4 h5 hl => hA l hl ⟨i, xs, h4, h5⟩⟩
    have q := (h2 a ha).2
    rw [keepF_not (hA a ha)] at q
    exact q
/-- a new object is laid -/
theorem R.laid (r : R K M P F L ρ σ H) {p : Addr} {o : HO} (hp : H p = none) : R K M P F L ρ σ (upd H p o) := r.ex (Ex.new hp)
theorem R.notL (r : R K M P F L ρ σ H) {p : Addr} (hp : H p = none) : p ∉ L := fun z => by
  obtain ⟨o, q⟩ := r.tr p z
  rw [hp] at q
  cases q
/-- an address is hidden that nobody speaks of -/
theorem R.hideMore (r : R K M P F L ρ σ H) {p : Addr} (hp : H p = none) {o : HO} : R K M P F (p :: L) ρ σ (upd H p o) where
  len := r.len
  sl := fun i s u h1 h2 => by
    have q := r.sl i s u h1 h2
    have hne : Ex (hide L H) (hide (p :: L) (upd H p o)) := fun a b hb => by
      obtain ⟨h3, h4⟩ := hide_some.mp hb
      have n : a ≠ p := ne_of_none h4 hp
      exact hide_some.mpr ⟨fun z => by
        rcases List.mem_cons.mp z with z | z
        · exact n z
        · exact h3 z, by rw [upd_ne n]; exact h4⟩
    cases s with
    | no => trivial
    | d x =>
      obtain ⟨v, h3, h4⟩ := q
      exact ⟨v, h3, dp_ex hne _ _ h4⟩
    | own xs =>
      obtain ⟨l, vs, h3, h4, h5, h6⟩ := q
      exact ⟨l, vs, h3, List.mem_cons_of_mem _ h4, by rw [upd_ne (ne_of_none h5 hp)]; exact h5, h6.up hne⟩
    | st => exact q
    | raw v => exact q
    | exc a d fl => exact ⟨q.1, q.2.up hne⟩
  fr := fun a b h => by
    have q := r.fr a b h
    exact ⟨by rw [upd_ne (ne_of_none q.1 hp)]; exact q.1, List.mem_cons_of_mem _ q.2⟩
  tr := fun a h => by
    rcases List.mem_cons.mp h with z | z
    · subst z
      exact ⟨o, upd_same⟩
    · obtain ⟨b, q⟩ := r.tr a z
      exact ⟨b, by rw [upd_ne (ne_of_none q hp)]; exact q⟩
  apart := r.apart
  ownF := r.ownF
  m := fun q hq => by
    obtain ⟨A, h1, h2, h3⟩ := r.m q hq
    exact ⟨A, M.loc (fun a ha b hb => by rw [upd_ne (ne_of_none hb hp)]; exact hb) h1, fun a ha => ⟨List.mem_cons_of_mem _ (h2 a ha).1, (h2 a ha).2⟩, h3⟩
/-- fewer addresses are hidden: one that nobody owns -/
theorem R.show (r : R K M P F L ρ σ H) {p : Addr} (h1 : ¬ Own ρ σ p) (h2 : F p = none) (h3 : ∀ q A, P = some q → M.holds K q ρ.n A H → (∀ a ∈ A, a ∈ L ∧ F a = none) → p ∉ A) :
    R K M P F (L.filter fun a => decide (a ≠ p)) ρ σ H := by
  have sub : ∀ a ∈ (L.filter fun a => decide (a ≠ p)), a ∈ L := fun a ha => (List.mem_filter.mp ha).1
  have inn : ∀ a ∈ L, a ≠ p → a ∈ (L.filter fun a => decide (a ≠ p)) := fun a ha n => List.mem_filter.mpr ⟨ha, decide_eq_true n⟩
  have ex : Ex (hide L H) (hide (L.filter fun a => decide (a ≠ p)) H) := hide_sub sub
  refine ⟨r.len, fun i s u e1 e2 => ?_, fun a o h => ?_, fun a h => r.tr a (sub a h), r.apart, r.ownF, fun q hq => ?_⟩
  · have q := r.sl i s u e1 e2
    cases s with
    | no => trivial
    | d x =>
      obtain ⟨v, h3, h4⟩ := q
      exact ⟨v, h3, dp_ex ex _ _ h4⟩
    | own xs =>
      obtain ⟨l, vs, g3, g4, g5, g6⟩ := q
      exact ⟨l, vs, g3, inn l g4 (fun z => h1 (z ▸ (⟨i, xs, e1, by rw [e2, g3]⟩ : Own ρ σ l))), g5, g6.up ex⟩
    | st => exact q
    | raw v => exact q
    | exc a d fl => exact ⟨q.1, q.2.up ex⟩
  · have q := r.fr a o h
    exact ⟨q.1, inn a q.2 fun z => by rw [z, h2] at h; cases h⟩
  · obtain ⟨A, a1, a2, a3⟩ := r.m q hq
    exact ⟨A, a1, fun a ha => ⟨inn a (a2 a ha).1 (fun (z : a = p) => h3 q A hq a1 a2 (z ▸ ha)), (a2 a ha).2⟩, a3⟩
end

/-! ### judgements -/
abbrev KD := D → Rho → Prop
abbrev FE := Rho → KD → Prop
abbrev FT := Rho → (Bool → Rho → Prop) → Prop
abbrev FA := Rho → (List Sl → Rho → Prop) → Prop
def KV' (K : Fr0) (M : Mk0) (P : Option Addr) (F : Hp) (L : List Addr) (σ : L2.St) (H : Hp) (Q : VK) : KD := fun d ρ' => ∀ v L' H', Ex (hide L H) (hide L' H') → R K M P F L' ρ' σ H' → Rp K (hide L' H') v d → Q v H'
def DE (K : Fr0) (M : Mk0) (f : FE) : TE := fun σ H Q => ∃ P F L ρ, R K M P F L ρ σ H ∧ f ρ (KV' K M P F L σ H Q)
def DT (K : Fr0) (M : Mk0) (f : FT) : TT := fun σ H Q => ∃ P F L ρ, R K M P F L ρ σ H ∧ f ρ fun b ρ' => ∀ L' H', Ex (hide L H) (hide L' H') → R K M P F L' ρ' σ H' → Q b H'
def DA (K : Fr0) (M : Mk0) (f : FA) : TA := fun σ H Q => ∃ P F L ρ, R K M P F L ρ σ H ∧ f ρ fun ss ρ' => ∀ vs L' H', Ex (hide L H) (hide L' H') → R K M P F L' ρ' σ H' → vs.length = ss.length →
  (∀ (i : Nat) (s : Sl) (v : V), ss[i]? = some s → vs[i]? = some v → SlOk K P L' H' s (some v)) → (∀ (i : Nat) (xs : Ow), ss[i]? ≠ some (.own xs)) → Q vs H'
/-- a new list, hidden as yet -/
abbrev FN := Rho → (List D → Rho → Prop) → Prop
def DN (K : Fr0) (M : Mk0) (f : FN) : TE := fun σ H Q => ∃ P F L ρ, R K M P F L ρ σ H ∧ f ρ fun ds ρ' => ∀ p vs L' H', Ex (hide L H) (hide (p :: L') H') → H p = none → R K M P F L' ρ' σ H' → p ∉ L' → ¬ Own ρ' σ p → F p = none → R K M P F (p :: L') ρ' σ H' → H' p = some (.lst vs) → RpAll K (hide (p :: L') H') vs ds → Q (.ref p) H'
structure Post where
  nx : Rho → Prop
  rt : D → Rho → Prop
  bk : Rho → Prop := fun _ => False
  ct : Rho → Prop := fun _ => False
structure Post.Le (p q : Post) : Prop where
  nx : ∀ ρ, p.nx ρ → q.nx ρ
  rt : ∀ d ρ, p.rt d ρ → q.rt d ρ
  bk : ∀ ρ, p.bk ρ → q.bk ρ
  ct : ∀ ρ, p.ct ρ → q.ct ρ
abbrev FS := Rho → Post → Prop
def postOf (K : Fr0) (M : Mk0) (P : Option Addr) (F : Hp) (L : List Addr) (H : Hp) (D : Ends) : Post where
  nx := fun ρ' => ∀ σ' L' H', Ex (hide L H) (hide L' H') → R K M P F L' ρ' σ' H' → D.nx σ' H'
  rt := fun d ρ' => ∀ v σ' L' H', Ex (hide L H) (hide L' H') → R K M P F L' ρ' σ' H' → Rp K (hide L' H') v d → D.rt v H'
  bk := fun ρ' => ∀ σ' L' H', Ex (hide L H) (hide L' H') → R K M P F L' ρ' σ' H' → D.bk σ' H'
  ct := fun ρ' => ∀ σ' L' H', Ex (hide L H) (hide L' H') → R K M P F L' ρ' σ' H' → D.ct σ' H'
def DS (K : Fr0) (M : Mk0) (f : FS) : TS := fun D σ H => ∃ P F L ρ, R K M P F L ρ σ H ∧ f ρ (postOf K M P F L H D)
/-- assignment to a target, of data -/
abbrev FG := D → Rho → (Rho → Prop) → Prop
def DG (K : Fr0) (M : Mk0) (f : FG) : TG := fun v σ H Q => ∃ P F L ρ d, R K M P F L ρ σ H ∧ Rp K (hide L H) v d ∧ f d ρ fun ρ' => ∀ σ' L' H', Ex (hide L H) (hide L' H') → R K M P F L' ρ' σ' H' → Q σ' H'

structure PD (X : Cx) (M : Mk0) (e : Expr) (f : FE) : Prop where
  pe : PE X e (DE X.k0 M f)
  mono : ∀ ρ k k', (∀ d ρ', k d ρ' → k' d ρ') → f ρ k → f ρ k'
structure PDT (X : Cx) (M : Mk0) (e : Expr) (f : FT) : Prop where
  pt : PT X e (DT X.k0 M f)
  mono : ∀ ρ k k', (∀ d ρ', k d ρ' → k' d ρ') → f ρ k → f ρ k'
structure PDA (X : Cx) (M : Mk0) (es : List Expr) (f : FA) : Prop where
  pa : PA X es (DA X.k0 M f)
  mono : ∀ ρ k k', (∀ d ρ', k d ρ' → k' d ρ') → f ρ k → f ρ k'
structure PDN (X : Cx) (M : Mk0) (e : Expr) (f : FN) : Prop where
  pe : PE X e (DN X.k0 M f)
  mono : ∀ ρ k k', (∀ d ρ', k d ρ' → k' d ρ') → f ρ k → f ρ k'
structure PDS (X : Cx) (M : Mk0) (st : Stmt) (f : FS) : Prop where
  ps : PS X st (DS X.k0 M f)
  mono : ∀ ρ k k', Post.Le k k' → f ρ k → f ρ k'
structure PDs (X : Cx) (M : Mk0) (st : List Stmt) (f : FS) : Prop where
  ps : PSs X st (DS X.k0 M f)
  mono : ∀ ρ k k', Post.Le k k' → f ρ k → f ρ k'
structure PDG (X : Cx) (M : Mk0) (tg : Expr) (f : FG) : Prop where
  pg : PG X tg (DG X.k0 M f)
  mono : ∀ d ρ k k', (∀ ρ', k ρ' → k' ρ') → f d ρ k → f d ρ k'

section
variable {X : Cx} {M : Mk0} {a b c e : Expr} {es : List Expr} {fa fb fc : FE} {pos : Pos}
theorem PE.wk {t t' : TE} (h : PE X e t) (w : ∀ σ H Q, t' σ H Q → t σ H Q) : PE X e t' := ⟨fun pins s σ H Q I q => h.run pins s σ H Q I (w σ H Q q)⟩
theorem PT.wk {t t' : TT} (h : PT X e t) (w : ∀ σ H Q, t' σ H Q → t σ H Q) : PT X e t' := ⟨fun pins s σ H Q I q => h.run pins s σ H Q I (w σ H Q q)⟩
theorem PA.wk {t t' : TA} (h : PA X es t) (w : ∀ σ H Q, t' σ H Q → t σ H Q) : PA X es t' := ⟨fun pos pins s σ H Q I q => h.run pos pins s σ H Q I (w σ H Q q)⟩
theorem PS.wk {st : Stmt} {t t' : TS} (h : PS X st t) (w : ∀ D σ H, t' D σ H → t D σ H) : PS X st t' := ⟨fun pins s σ H D I q => h.run pins s σ H D I (w D σ H q)⟩
theorem PSs.wk {st : List Stmt} {t t' : TS} (h : PSs X st t) (w : ∀ D σ H, t' D σ H → t D σ H) : PSs X st t' := ⟨fun pins s σ H D I q => h.run pins s σ H D I (w D σ H q)⟩
theorem PG.wk {t t' : TG} (h : PG X e t) (w : ∀ v σ H Q, t' v σ H Q → t v σ H Q) : PG X e t' := ⟨fun pins s σ H v u Q I r q => h.run pins s σ H v u Q I r (w v σ H Q q)⟩

/-! ### leaves -/
def fVar (i : Nat) : FE := fun ρ k => ∃ x, ρ.sl[i]? = some (.d x) ∧ k x ρ
theorem pd_var {i : Nat} {x : Str} (h : PE X (.Name x pos) (tVar i)) : PD X M (.Name x pos) (fVar i) := by
  refine ⟨PE.wk h fun σ H Q ⟨P, F, L, ρ, r, x, hx, k⟩ => ?_, fun ρ k k' h ⟨x, h1, h2⟩ => ⟨x, h1, h _ _ h2⟩⟩
  obtain ⟨v, h1, h2⟩ := r.get hx
  exact ⟨v, h1, k v L H (Ex.refl _) r h2⟩
def fC (d : D) : FE := fun ρ k => k d ρ
theorem pd_const {v : V} {d : D} (h : PE X e (tC v)) (hd : ∀ H, Rp X.k0 H v d) : PD X M e (fC d) := by
  refine ⟨PE.wk h fun σ H Q ⟨P, F, L, ρ, r, k⟩ => ?_, fun ρ k k' h h2 => h _ _ h2⟩
  exact k v L H (Ex.refl _) r (hd _)
theorem pd_int {i : Int} {j : Nat} : PD X M (.Constant (.int i) j pos) (fC (.int i)) := pd_const pe_int fun _ => .int i
theorem pd_bl {b : Bool} {j : Nat} : PD X M (.Constant (.bool b) j pos) (fC (.bool b)) := pd_const pe_bl fun _ => .bl b
theorem pd_non {j : Nat} : PD X M (.Constant .none j pos) (fC .none) := pd_const pe_non fun _ => .non
theorem pd_str {x : Str} {j : Nat} : PD X M (.Constant (.str x) j pos) (fC (.str x)) := pd_const pe_str fun _ => .str x
/-- a module's constant, an int -/
theorem pd_gint {x : Str} {i : Int} (hg : Gl X x) (hm : ∃ t, X.mg x = some (.int i t)) (hd : (x == ("__debug__" : Str)) = false := by decide) : PD X M (.Name x pos) (fC (.int i)) := by
  obtain ⟨t, hm⟩ := hm
  exact pd_const (v := V.int i) (pe_glob hg hm ⟨t, rfl⟩ hd) fun _ => .int i

/-! ### operations on values -/
/-- a two-place operation, by data -/
def R2D (K : Fr0) (r : R2) (g : D → D → Option D) : Prop := ∀ (L : List Addr) (H : Hp) (x y : V) (dx dy d : D) (Q : VK), (∀ a ∈ L, ∃ o, H a = some o) → Rp K (hide L H) x dx → Rp K (hide L H) y dy → g dx dy = some d →
  (∀ v H', Ex H H' → Rp K (hide L H') v d → Q v H') → r x y H Q
def fOp (g : D → D → Option D) (fa fb : FE) : FE := fun ρ k => fa ρ fun x ρ1 => fb ρ1 fun y ρ2 => ∃ d, g x y = some d ∧ k d ρ2
theorem dOp {r : R2} {g : D → D → Option D} (hg : R2D X.k0 r g) (ma : ∀ ρ k k', (∀ d ρ', k d ρ' → k' d ρ') → fa ρ k → fa ρ k') (mb : ∀ ρ k k', (∀ d ρ', k d ρ' → k' d ρ') → fb ρ k → fb ρ k')
    (σ : L2.St) (H : Hp) (Q : VK) (h : DE X.k0 M (fOp g fa fb) σ H Q) : tOp r (DE X.k0 M fa) (DE X.k0 M fb) σ H Q := by
  obtain ⟨P, F, L, ρ, r0, k⟩ := h
  refine ⟨P, F, L, ρ, r0, ma _ _ _ (fun x ρ1 q v L1 H1 e1 r1 d1 => ?_) k⟩
  refine ⟨P, F, L1, ρ1, r1, mb _ _ _ (fun y ρ2 ⟨d, hd, q2⟩ u L2 H2 e2 r2 d2 => ?_) q⟩
  exact hg L2 H2 v u x y d Q r2.tr (dp_ex e2 _ _ d1) d2 hd fun w H3 e3 d3 => q2 w L2 H3 ((e1.trans e2).trans (hide_ex e3)) (r2.ex e3) d3
theorem fOp_mono {g : D → D → Option D} (ma : ∀ ρ k k', (∀ d ρ', k d ρ' → k' d ρ') → fa ρ k → fa ρ k') (mb : ∀ ρ k k', (∀ d ρ', k d ρ' → k' d ρ') → fb ρ k → fb ρ k') (ρ : Rho) (k k' : KD)
    (h : ∀ d ρ', k d ρ' → k' d ρ') (q : fOp g fa fb ρ k) : fOp g fa fb ρ k' := ma _ _ _ (fun x ρ1 q => mb _ _ _ (fun y ρ2 ⟨d, h1, h2⟩ => ⟨d, h1, h _ _ h2⟩) q) q
theorem pd_op {op : Operator} {r : R2} {g : D → D → Option D} (ho : OpR X (binaryOp op) r) (hg : R2D X.k0 r g) (ha : PD X M a fa) (hb : PD X M b fb) : PD X M (.BinOp a op b pos) (fOp g fa fb) :=
  ⟨PE.wk (pe_op ho ha.pe hb.pe) (dOp hg ha.mono hb.mono), fOp_mono ha.mono hb.mono⟩
theorem pd_cmp {op : CmpOp} {r : R2} {g : D → D → Option D} (ho : OpR X (compareOp op) r) (hg : R2D X.k0 r g) (ha : PD X M a fa) (hb : PD X M b fb) (hm : behindInMarks op b = false) : PD X M (.Compare a [op] [b] pos) (fOp g fa fb) :=
  ⟨PE.wk (pe_cmpR ho ha.pe hb.pe hm) (dOp hg ha.mono hb.mono), fOp_mono ha.mono hb.mono⟩
theorem pd_ix {r : R2} {g : D → D → Option D} (ho : IxR X r) (hg : R2D X.k0 r g) (ha : PD X M a fa) (hb : PD X M b fb) (hs : PlainIx b) : PD X M (.Subscript a b pos) (fOp g fa fb) :=
  ⟨PE.wk (pe_ix ho ha.pe hb.pe hs) (dOp hg ha.mono hb.mono), fOp_mono ha.mono hb.mono⟩
def R1D (K : Fr0) (r : V → Hp → VK → Prop) (g : D → Option D) : Prop := ∀ (L : List Addr) (H : Hp) (x : V) (dx d : D) (Q : VK), (∀ a ∈ L, ∃ o, H a = some o) → Rp K (hide L H) x dx → g dx = some d →
  (∀ v H', Ex H H' → Rp K (hide L H') v d → Q v H') → r x H Q
def fUn (g : D → Option D) (fa : FE) : FE := fun ρ k => fa ρ fun x ρ1 => ∃ d, g x = some d ∧ k d ρ1
theorem fUn_mono {g : D → Option D} (ma : ∀ ρ k k', (∀ d ρ', k d ρ' → k' d ρ') → fa ρ k → fa ρ k') (ρ : Rho) (k k' : KD) (h : ∀ d ρ', k d ρ' → k' d ρ') (q : fUn g fa ρ k) : fUn g fa ρ k' :=
  ma _ _ _ (fun x ρ1 ⟨d, h1, h2⟩ => ⟨d, h1, h _ _ h2⟩) q
theorem dUn {r : V → Hp → VK → Prop} {g : D → Option D} (hg : R1D X.k0 r g) (ma : ∀ ρ k k', (∀ d ρ', k d ρ' → k' d ρ') → fa ρ k → fa ρ k')
    (σ : L2.St) (H : Hp) (Q : VK) (h : DE X.k0 M (fUn g fa) σ H Q) : DE X.k0 M fa σ H fun x H1 => r x H1 Q := by
  obtain ⟨P, F, L, ρ, r0, k⟩ := h
  refine ⟨P, F, L, ρ, r0, ma _ _ _ (fun x ρ1 ⟨d, hd, q2⟩ v L1 H1 e1 r1 d1 => ?_) k⟩
  exact hg L1 H1 v x d Q r1.tr d1 hd fun w H3 e3 d3 => q2 w L1 H3 (e1.trans (hide_ex e3)) (r1.ex e3) d3
theorem pd_un {op : UnaryOp} {r : V → Hp → VK → Prop} {g : D → Option D} (ho : UnR X (unaryOp op) r) (hg : R1D X.k0 r g) (ha : PD X M a fa) : PD X M (.UnaryOp op a pos) (fUn g fa) :=
  ⟨PE.wk (pe_un ho ha.pe) (dUn hg ha.mono), fUn_mono ha.mono⟩
/-- a built-in of one argument -/
theorem pd_b1 {x : Str} {p : Pos} {id : String} {r : List V → Hp → VK → Prop} {g : D → Option D} (hc : CallR X (.builtin id) r) (hg' : R1D X.k0 (fun x => r [x]) g) (hg : Gl X x) (hm : X.mg x = none) (hv : bootBuiltins x = some (.builtin id)) (ha : PD X M a fa)
    (hn : x ≠ "__name__" := by decide) (hdb : (x == ("__debug__" : Str)) = false := by decide) (hs : starEach [a] X.env = (false, eval a X.env) :: starEach [] X.env := by rfl) :
    PD X M (.Call (.Name x p) [a] [] pos) (fUn g fa) := by
  refine ⟨PE.wk (pe_callB hc hg hm hv (pa_cons ha.pe pa_nil hs) hn hdb hs) fun σ H Q h => ?_, fUn_mono ha.mono⟩
  exact dUn (r := fun x => r [x]) hg' ha.mono σ H Q h
theorem pd_t1 {x : Str} {p : Pos} {id : String} {r : List V → Hp → VK → Prop} {g : D → Option D} (hc : CallR X (.type id) r) (hg' : R1D X.k0 (fun x => r [x]) g) (hg : Gl X x) (hm : X.mg x = none) (hv : bootBuiltins x = some (.type id)) (ha : PD X M a fa)
    (hn : x ≠ "__name__" := by decide) (hdb : (x == ("__debug__" : Str)) = false := by decide) (hs : starEach [a] X.env = (false, eval a X.env) :: starEach [] X.env := by rfl) :
    PD X M (.Call (.Name x p) [a] [] pos) (fUn g fa) := by
  refine ⟨PE.wk (pe_callTy hc hg hm hv (pa_cons ha.pe pa_nil hs) hn hdb hs) fun σ H Q h => ?_, fUn_mono ha.mono⟩
  exact dUn (r := fun x => r [x]) hg' ha.mono σ H Q h
/-- a built-in of two arguments -/
theorem pd_b2 {x : Str} {p : Pos} {id : String} {r : List V → Hp → VK → Prop} {g : D → D → Option D} (hc : CallR X (.builtin id) r) (hg' : R2D X.k0 (fun x y => r [x, y]) g) (hg : Gl X x) (hm : X.mg x = none) (hv : bootBuiltins x = some (.builtin id)) (ha : PD X M a fa) (hb : PD X M b fb)
    (hn : x ≠ "__name__" := by decide) (hdb : (x == ("__debug__" : Str)) = false := by decide) (hs : starEach [a, b] X.env = (false, eval a X.env) :: starEach [b] X.env := by rfl) (hs2 : starEach [b] X.env = (false, eval b X.env) :: starEach [] X.env := by rfl)
    (hpl : (backTo pos (starEach [b] X.env)).any (·.1) = false := by rfl) :
    PD X M (.Call (.Name x p) [a, b] [] pos) (fOp g fa fb) := by
  refine ⟨PE.wk (pe_callB hc hg hm hv (pa_cons ha.pe (pa_cons hb.pe pa_nil hs2) hs) hn hdb hs hpl) fun σ H Q h => ?_, fOp_mono ha.mono hb.mono⟩
  exact dOp (r := fun x y => r [x, y]) hg' ha.mono hb.mono σ H Q h
end
end PD

namespace PD
open PySem L2
open Evl (Ex)
mutual
theorem dpm {K : Fr0} {H H' : Hp} (e : Ex H H') : ∀ (d : D) (v : V), Dp K.f H v d → Dp K.f H' v d
  | .none, _, h => by cases h; exact .non
  | .bool b, _, h => by cases h; exact .bl b
  | .int i, _, h => by cases h; exact .int i
  | .str x, _, h => by cases h; exact .str x
  | .list ds, _, h => by
    cases h with
    | lst hs ha => exact .lst (Evl.ex_l e hs) (dpma e ds _ ha)
  | .tuple ds, _, h => by
    cases h with
    | tup hs ha => exact .tup (Evl.ex_t e hs) (dpma e ds _ ha)
  | .dict _, _, h => by cases h
theorem dpma {K : Fr0} {H H' : Hp} (e : Ex H H') : ∀ (ds : List D) (vs : List V), DpAll K.f H vs ds → DpAll K.f H' vs ds
  | [], _, h => by cases h; exact .nil
  | d :: ds, _, h => by
    cases h with
    | cons h1 h2 => exact .cons (dpm e d _ h1) (dpma e ds _ h2)
end
section
variable {K : Fr0} {L : List Addr} {H : Hp} {p : Addr} {vs : List V} {ds : List D}
theorem hide_new {o : HO} (tr : ∀ a ∈ L, ∃ o, H a = some o) (hp : H p = none) : hide L (upd H p o) p = some o := by
  refine hide_some.mpr ⟨fun z => ?_, upd_same⟩
  obtain ⟨o, q⟩ := tr p z
  rw [hp] at q
  cases q
theorem new_lst (tr : ∀ a ∈ L, ∃ o, H a = some o) (hp : H p = none) (h : RpAll K (hide L H) vs ds) : Rp K (hide L (upd H p (.lst vs))) (.ref p) (.list ds) :=
  .lst (.inl (.inl (hide_new tr hp))) (dpa_ex (hide_ex (Ex.new hp)) _ _ h)
theorem new_tup (tr : ∀ a ∈ L, ∃ o, H a = some o) (hp : H p = none) (h : RpAll K (hide L H) vs ds) : Rp K (hide L (upd H p (.tup vs))) (.ref p) (.tuple ds) :=
  .tup (.inl (.inl (hide_new tr hp))) (dpa_ex (hide_ex (Ex.new hp)) _ _ h)
theorem rd_le (h : Rd (hide L H) p (.lst vs)) : Rd H p (.lst vs) := Evl.ex_rd (hide_le L H) h
theorem sqt_le (h : SqT K.f (hide L H) p vs) : SqT K.f H p vs := Evl.ex_t (hide_le L H) h
theorem sql_le (h : SqL K.f (hide L H) p vs) : SqL K.f H p vs := Evl.ex_l (hide_le L H) h
theorem rp_list {v : V} (h : Rp K (hide L H) v (.list ds)) : ∃ a xs, v = .ref a ∧ SqL K.f H a xs ∧ RpAll K (hide L H) xs ds := by
  cases h with
  | lst h1 h2 => exact ⟨_, _, rfl, sql_le h1, h2⟩
theorem rp_tuple {v : V} (h : Rp K (hide L H) v (.tuple ds)) : ∃ a xs, v = .ref a ∧ SqT K.f H a xs ∧ RpAll K (hide L H) xs ds := by
  cases h with
  | tup h1 h2 => exact ⟨_, _, rfl, sqt_le h1, h2⟩
theorem rp_int {v : V} {i : Int} (h : Rp K H v (.int i)) : v = .int i := by cases h; rfl
theorem rp_bool {v : V} {i : Bool} (h : Rp K H v (.bool i)) : v = .bl i := by cases h; rfl
theorem rp_str {v : V} {i : Str} (h : Rp K H v (.str i)) : v = .str i := by cases h; rfl
theorem rp_none {v : V} (h : Rp K H v .none) : v = .non := by cases h; rfl
end

theorem dp_le {K : Fr0} {L : List Addr} {H : Hp} {v : V} {d : D} (h : Dp K.f (hide L H) v d) : Dp K.f H v d := by
  exact dpm (hide_le L H) d v h
/-! ### the operations, by data -/
def gAdd : D → D → Option D
  | .int i, .int j => some (.int (i + j))
  | .str x, .str y => if x.length + y.length ≤ sizeLine then some (.str (x ++ y)) else none
  | .tuple xs, .tuple ys => if xs.length + ys.length ≤ sizeLine then some (.tuple (xs ++ ys)) else none
  | .list xs, .list ys => if xs.length + ys.length ≤ sizeLine then some (.list (xs ++ ys)) else none
  | _, _ => none
def gSub : D → D → Option D
  | .int i, .int j => some (.int (i - j))
  | _, _ => none
/-- one of the factors is small -/
def gMul : D → D → Option D
  | .int i, .int j => if (-(2 ^ 64) < i ∧ i < 2 ^ 64) ∨ (-(2 ^ 64) < j ∧ j < 2 ^ 64) then some (.int (i * j)) else none
  | .tuple xs, .int k => if xs ≠ [] ∧ 2 ≤ k ∧ k ≤ 1000 ∧ xs.length ≤ 1000 then some (.tuple (List.replicate k.toNat xs).flatten) else none
  | _, _ => none
def gFdiv : D → D → Option D
  | .int i, .int j => if 0 < j ∧ j < 1073741824 then some (.int (i / j)) else none
  | _, _ => none
def gMod : D → D → Option D
  | .int i, .int j => if 0 < j then some (.int (i % j)) else none
  | _, _ => none
def gPow : D → D → Option D
  | .int i, .int j => if 0 ≤ j ∧ j ≤ 1000000 ∧ i.natAbs < 2 ^ 64 then some (.int (i ^ j.toNat)) else none
  | _, _ => none
def gCmp (p : Int → Int → Bool) : D → D → Option D
  | .int i, .int j => some (.bool (p i j))
  | _, _ => none
abbrev gLt := gCmp fun i j => decide (i < j)
abbrev gLe := gCmp fun i j => decide (i ≤ j)
abbrev gGt := gCmp fun i j => decide (j < i)
abbrev gGe := gCmp fun i j => decide (j ≤ i)
def gEq (x y : D) : Option D := if SeqAt.shaped x = true ∧ SeqAt.shaped y = true then some (.bool (PyData.eqv x y)) else none
def gNe (x y : D) : Option D := if SeqAt.shaped x = true ∧ SeqAt.shaped y = true then some (.bool (!PyData.eqv x y)) else none
def gIsN : D → D → Option D
  | x, .none => some (.bool (match x with | .none => true | _ => false))
  | _, _ => none
def gNotN : D → D → Option D
  | x, .none => some (.bool (match x with | .none => false | _ => true))
  | _, _ => none
def flatD : D → Bool
  | .none | .bool _ | .int _ | .str _ => true
  | _ => false
def gIn : D → D → Option D
  | x, .list ys => if flatD x = true ∧ ys.all flatD = true then some (.bool (ys.any fun y => PyData.eqv y x)) else none
  | x, .tuple ys => if flatD x = true ∧ ys.all flatD = true then some (.bool (ys.any fun y => PyData.eqv y x)) else none
  | _, _ => none
def gNotIn : D → D → Option D
  | x, .list ys => if flatD x = true ∧ ys.all flatD = true then some (.bool (!ys.any fun y => PyData.eqv y x)) else none
  | x, .tuple ys => if flatD x = true ∧ ys.all flatD = true then some (.bool (!ys.any fun y => PyData.eqv y x)) else none
  | _, _ => none
def gIx : D → D → Option D
  | .list xs, .int i => atI xs i
  | .tuple xs, .int i => atI xs i
  | _, _ => none
def gLen : D → Option D
  | .list xs => some (.int xs.length)
  | .tuple xs => some (.int xs.length)
  | .str x => if x.length ≤ sizeLine then some (.int x.length) else none
  | _ => none
def gTuple : D → Option D
  | .list xs => some (.tuple xs)
  | .tuple xs => some (.tuple xs)
  | _ => none
def gList : D → Option D
  | .list xs => some (.list xs)
  | .tuple xs => some (.list xs)
  | _ => none
def gInt : D → Option D
  | .int i => some (.int i)
  | .bool b => some (.int (if b then 1 else 0))
  | _ => none
def gMin2 : D → D → Option D
  | .int i, .int j => some (.int (if j < i then j else i))
  | _, _ => none
def gMax2 : D → D → Option D
  | .int i, .int j => some (.int (if j > i then j else i))
  | _, _ => none
def boolsD : List D → Option (List Bool)
  | [] => some []
  | .bool b :: r => (boolsD r).map (b :: ·)
  | _ :: _ => none
def intsD : List D → Option (List Int)
  | [] => some []
  | .int b :: r => (intsD r).map (b :: ·)
  | _ :: _ => none
theorem boolsD_eq : ∀ {ds : List D} {bs : List Bool}, boolsD ds = some bs → ds = bs.map PyData.bool
  | [], _, h => by cases h; rfl
  | .bool b :: r, bs, h => by
    unfold boolsD at h
    cases e : boolsD r with
    | none => rw [e] at h; cases h
    | some cs =>
      rw [e] at h
      cases h
      rw [boolsD_eq e]
      rfl
  | .none :: _, _, h => by cases h
  | .int _ :: _, _, h => by cases h
  | .str _ :: _, _, h => by cases h
  | .list _ :: _, _, h => by cases h
  | .tuple _ :: _, _, h => by cases h
  | .dict _ :: _, _, h => by cases h
theorem intsD_eq : ∀ {ds : List D} {bs : List Int}, intsD ds = some bs → ds = bs.map PyData.int
  | [], _, h => by cases h; rfl
  | .int b :: r, bs, h => by
    unfold intsD at h
    cases e : intsD r with
    | none => rw [e] at h; cases h
    | some cs =>
      rw [e] at h
      cases h
      rw [intsD_eq e]
      rfl
  | .none :: _, _, h => by cases h
  | .bool _ :: _, _, h => by cases h
  | .str _ :: _, _, h => by cases h
  | .list _ :: _, _, h => by cases h
  | .tuple _ :: _, _, h => by cases h
  | .dict _ :: _, _, h => by cases h
theorem intsD_map : ∀ (ns : List Int), intsD (ns.map PyData.int) = some ns
  | [] => rfl
  | n :: ns => by
    show (intsD (ns.map PyData.int)).map (n :: ·) = _
    rw [intsD_map ns]
    rfl
theorem boolsD_map : ∀ (ns : List Bool), boolsD (ns.map PyData.bool) = some ns
  | [] => rfl
  | n :: ns => by
    show (boolsD (ns.map PyData.bool)).map (n :: ·) = _
    rw [boolsD_map ns]
    rfl
def gAll : D → Option D
  | .list xs => (boolsD xs).map fun bs => .bool (bs.all id)
  | _ => none
def gAny : D → Option D
  | .list xs => (boolsD xs).map fun bs => .bool (bs.any id)
  | _ => none
def isort (ns : List Int) : List Int := ns.mergeSort (fun a b => decide (a ≤ b))
def gSorted : D → Option D
  | .list xs => (intsD xs).map fun ns => .list ((isort ns).map PyData.int)
  | _ => none
theorem isort_of {ns ns' : List Int} (hp : ns'.Perm ns) (hs : ns'.Pairwise (· ≤ ·)) : ns' = isort ns := by
  have h1 : (isort ns).Perm ns := List.mergeSort_perm _ _
  have h2 : (isort ns).Pairwise (fun a b => decide (a ≤ b) = true) := List.pairwise_mergeSort (fun a b c h1 h2 => by simp at *; omega) (fun a b => by simp; omega) ns
  have h3 : (isort ns).Pairwise (· ≤ ·) := h2.imp fun h => by simpa using h
  exact List.Perm.eq_of_pairwise (fun a b _ _ h1 h2 => Int.le_antisymm h1 h2) hs h3 (hp.trans h1.symm)
def opOr (r r' : R2) : R2 := fun x y H Q => r x y H Q ∨ r' x y H Q

section
variable {K : Fr0} {X : Cx}
theorem or_op {f : Value → Value → Sem Value} {r r' : R2} (h : OpR X f r) (h' : OpR X f r') : OpR X f (opOr r r') := by
  intro pins s σ H x y v u Q I rx ry q
  rcases q with q | q
  · exact h pins s σ H x y v u Q I rx ry q
  · exact h' pins s σ H x y v u Q I rx ry q
def rCatR (K : PySem.W.Frag) : R2 := fun x y H Q => ∃ l b xs zs, x = V.ref l ∧ y = V.ref b ∧ SqL K H l xs ∧ SqL K H b zs ∧ xs.length + zs.length ≤ sizeLine ∧ ∀ p, H p = none → Q (.ref p) (upd H p (.lst (xs ++ zs)))
theorem op_catR : OpR X (binaryOp .Add) (rCatR X.K) := by
  intro pins s σ H x y v u Q I rx ry q0
  obtain ⟨la, lb, as, bs, ex, ey, sa, sb, hsum, kq⟩ := q0
  subst ex ey
  cases rx
  cases ry
  obtain ⟨its, ra, ⟨⟨c1, d1, w1, s1⟩, n1, g1, e1, e2, e3⟩, _⟩ := I.list sa
  obtain ⟨its2, rb, ⟨⟨c2, d2, w2, s2⟩, n2, g2, f1, f2, f3⟩, _⟩ := I.list sb
  simp only at e1 e2 e3 f1 f2 f3
  subst e1 e2 e3 f1 f2 f3
  have len1 := ra.length
  have len2 := rb.length
  have both : its.toArray ++ its2.toArray = (its ++ its2).toArray := by simp
  refine concat_meets ⟨_, g1, rfl⟩ ⟨_, g2, rfl⟩ noFill_list_add seq_list_add PySem.F.slot_list_add PySem.F.entry_list_add (PySem.F.args_list_add_2 _ _) (PyProof.Rows.list_addW la lb its.toArray its2.toArray n1 n2 none none s1 s2 (by rw [List.size_toArray, List.size_toArray]; omega)) ⟨g1, g2, ?_⟩
  rw [both]
  exact ⟨.ref _, _, I.lnew (t' := s.toks) (ra.append rb) (by rw [List.length_append]; omega), rfl, kq _ I.fresh⟩
def rAdd (K : PySem.W.Frag) : R2 := opOr (rI0 fun i j => .int (i + j)) (opOr (rCatR K) (opOr (rCatA K) fun x y H Q => ∃ i j, x = V.str i ∧ y = V.str j ∧ i.length + j.length ≤ sizeLine ∧ Q (.str (i ++ j)) H))
theorem op_addA : OpR X (binaryOp .Add) (rAdd X.K) := or_op op_add (or_op op_catR (or_op op_catA op_add_str))
theorem rd_add : R2D K (rAdd K.f) gAdd := by
  intro L H x y dx dy d Q tr hx hy hg k
  unfold gAdd at hg
  split at hg
  · cases hg
    exact .inl ⟨_, _, rp_int hx, rp_int hy, k _ _ (Ex.refl _) (.int _)⟩
  · split at hg
    · cases hg
      rename_i hz
      exact .inr (.inr (.inr ⟨_, _, rp_str hx, rp_str hy, hz, k _ _ (Ex.refl _) (.str _)⟩))
    · cases hg
  · split at hg
    · cases hg
      rename_i xs ys hz
      obtain ⟨a, vs, rfl, h1, h2⟩ := rp_tuple hx
      obtain ⟨b, us, rfl, h3, h4⟩ := rp_tuple hy
      have e1 := dpa_len h2
      have e2 := dpa_len h4
      refine .inr (.inr (.inl ⟨a, b, vs, us, rfl, rfl, h1, h3, by omega, fun z => ?_, fun z1 z2 => ?_, fun _ _ p hp => k _ _ (Ex.new hp) (new_tup tr hp (dpa_app h2 h4))⟩))
      · subst z
        have : xs = [] := List.eq_nil_of_length_eq_zero (by simpa using e1.symm)
        subst this
        exact k _ _ (Ex.refl _) hy
      · subst z2
        have : ys = [] := List.eq_nil_of_length_eq_zero (by simpa using e2.symm)
        subst this
        rw [List.append_nil] at k
        exact k _ _ (Ex.refl _) hx
    · cases hg
  · split at hg
    · cases hg
      rename_i xs ys hz
      obtain ⟨a, vs, rfl, h1, h2⟩ := rp_list hx
      obtain ⟨b, us, rfl, h3, h4⟩ := rp_list hy
      have e1 := dpa_len h2
      have e2 := dpa_len h4
      exact .inr (.inl ⟨a, b, vs, us, rfl, rfl, h1, h3, by omega, fun p hp => k _ _ (Ex.new hp) (new_lst tr hp (dpa_app h2 h4))⟩)
    · cases hg
  · cases hg
theorem rd_I0 {g : Int → Int → Int} {gd : D → D → Option D} (h : ∀ x y d, gd x y = some d → ∃ i j, x = .int i ∧ y = .int j ∧ d = .int (g i j)) : R2D K (rI0 fun i j => .int (g i j)) gd := by
  intro L H x y dx dy d Q tr hx hy hg k
  obtain ⟨i, j, rfl, rfl, rfl⟩ := h _ _ _ hg
  exact ⟨i, j, rp_int hx, rp_int hy, k _ _ (Ex.refl _) (.int _)⟩
theorem rd_I {C : Int → Int → Prop} {g : Int → Int → Int} {gd : D → D → Option D} (h : ∀ x y d, gd x y = some d → ∃ i j, x = .int i ∧ y = .int j ∧ C i j ∧ d = .int (g i j)) : R2D K (rI C fun i j => .int (g i j)) gd := by
  intro L H x y dx dy d Q tr hx hy hg k
  obtain ⟨i, j, rfl, rfl, hc, rfl⟩ := h _ _ _ hg
  exact ⟨i, j, rp_int hx, rp_int hy, hc, k _ _ (Ex.refl _) (.int _)⟩
theorem rd_sub : R2D K (rI0 fun i j => .int (i - j)) gSub := rd_I0 fun x y d h => by
  unfold gSub at h
  split at h
  · cases h; exact ⟨_, _, rfl, rfl, rfl⟩
  · cases h
theorem rd_fdiv : R2D K (rI CDiv fun i j => .int (i / j)) gFdiv := rd_I fun x y d h => by
  unfold gFdiv at h
  split at h
  · split at h
    · cases h; exact ⟨_, _, rfl, rfl, by assumption, rfl⟩
    · cases h
  · cases h
theorem rd_mod : R2D K (rI (fun _ j => 0 < j) fun i j => .int (i % j)) gMod := rd_I fun x y d h => by
  unfold gMod at h
  split at h
  · split at h
    · cases h; exact ⟨_, _, rfl, rfl, by assumption, rfl⟩
    · cases h
  · cases h
theorem rd_pow : R2D K (rI CPow fun i j => .int (i ^ j.toNat)) gPow := rd_I fun x y d h => by
  unfold gPow at h
  split at h
  · split at h
    · cases h; exact ⟨_, _, rfl, rfl, by assumption, rfl⟩
    · cases h
  · cases h
theorem rd_cmp {p : Int → Int → Bool} : R2D K (rI0 fun i j => .bl (p i j)) (gCmp p) := by
  intro L H x y dx dy d Q tr hx hy hg k
  unfold gCmp at hg
  split at hg
  · cases hg
    exact ⟨_, _, rp_int hx, rp_int hy, k _ _ (Ex.refl _) (.bl _)⟩
  · cases hg
theorem rp_rep {H : Hp} {vs : List V} {ds : List D} (h : RpAll K H vs ds) : ∀ n : Nat, RpAll K H (List.replicate n vs).flatten (List.replicate n ds).flatten
  | 0 => .nil
  | n + 1 => by
    rw [List.replicate_succ, List.replicate_succ, List.flatten_cons, List.flatten_cons]
    exact dpa_app h (rp_rep h n)
def rMulA (K : PySem.W.Frag) : R2 := opOr (rI CMul fun i j => .int (i * j)) (rRepT K)
theorem op_mulA : OpR X (binaryOp .Mult) (rMulA X.K) := or_op op_mul op_repT
theorem rd_mul : R2D K (rMulA K.f) gMul := by
  intro L H x y dx dy d Q tr hx hy hg k
  unfold gMul at hg
  split at hg
  · split at hg
    · cases hg
      exact .inl ⟨_, _, rp_int hx, rp_int hy, by assumption, k _ _ (Ex.refl _) (.int _)⟩
    · cases hg
  · split at hg
    · cases hg
      rename_i xs kk hz
      obtain ⟨a, vs, rfl, h1, h2⟩ := rp_tuple hx
      have e1 := dpa_len h2
      refine .inr ⟨a, kk, vs, rfl, rp_int hy, h1, fun z => hz.1 ?_, hz.2.1, hz.2.2.1, by omega, fun p hp => k _ _ (Ex.new hp) (new_tup tr hp (rp_rep h2 _))⟩
      subst z
      exact List.eq_nil_of_length_eq_zero (by simpa using e1.symm)
    · cases hg
  · cases hg
theorem rd_eq : R2D K (rEqD K.f) gEq := by
  intro L H x y dx dy d Q tr hx hy hg k
  unfold gEq at hg
  split at hg
  · cases hg
    rename_i hz
    have c1 : dx.canLay0 = true := by
      have := hz.1
      unfold SeqAt.shaped at this
      simp at this
      exact this.1
    have c2 : dy.canLay0 = true := by
      have := hz.2
      unfold SeqAt.shaped at this
      simp at this
      exact this.1
    exact ⟨dx, dy, dp_le (rp_dp _ _ c1 hx), dp_le (rp_dp _ _ c2 hy), hz.1, hz.2, k _ _ (Ex.refl _) (.bl _)⟩
  · cases hg
theorem rd_ne : R2D K (rNeD K.f) gNe := by
  intro L H x y dx dy d Q tr hx hy hg k
  unfold gNe at hg
  split at hg
  · cases hg
    rename_i hz
    have c1 : dx.canLay0 = true := by
      have := hz.1
      unfold SeqAt.shaped at this
      simp at this
      exact this.1
    have c2 : dy.canLay0 = true := by
      have := hz.2
      unfold SeqAt.shaped at this
      simp at this
      exact this.1
    exact ⟨dx, dy, dp_le (rp_dp _ _ c1 hx), dp_le (rp_dp _ _ c2 hy), hz.1, hz.2, k _ _ (Ex.refl _) (.bl _)⟩
  · cases hg
/-- flat data, and the value at it -/
theorem flat_val {H : Hp} {v : V} {d : D} (h : Rp K H v d) (f : flatD d = true) : flatV v = true := by
  cases h <;> first | rfl | cases f
theorem flat_eqv {H : Hp} {v u : V} {d e : D} (h : Rp K H v d) (g : Rp K H u e) (f : flatD d = true) (f2 : flatD e = true) : eqV v u = PyData.eqv d e := by
  cases h <;> cases g <;> first | rfl | cases f | cases f2 | skip
theorem flat_all {H : Hp} : ∀ {vs : List V} {ds : List D}, RpAll K H vs ds → ds.all flatD = true → vs.all flatV = true
  | _, [], h, _ => by cases h; rfl
  | _, d :: ds, h, f => by
    rw [List.all_cons, Bool.and_eq_true] at f
    cases h with
    | cons h1 h2 =>
      rw [List.all_cons, Bool.and_eq_true]
      exact ⟨flat_val h1 f.1, flat_all h2 f.2⟩
theorem flat_in {H : Hp} {x : V} {dx : D} (hx : Rp K H x dx) (f : flatD dx = true) : ∀ {vs : List V} {ds : List D}, RpAll K H vs ds → ds.all flatD = true → inV x vs = ds.any fun y => PyData.eqv y dx
  | _, [], h, _ => by cases h; rfl
  | _, d :: ds, h, g => by
    rw [List.all_cons, Bool.and_eq_true] at g
    cases h with
    | cons h1 h2 =>
      show (eqV _ x || inV x _) = _
      rw [flat_eqv h1 hx g.1 f, flat_in hx f h2 g.2]
      rfl
theorem rd_in : R2D K (rIn K.f false) gIn := by
  intro L H x y dx dy d Q tr hx hy hg k
  unfold gIn at hg
  split at hg
  · split at hg
    · cases hg
      rename_i ys hz
      obtain ⟨a, vs, rfl, h1, h2⟩ := rp_list hy
      refine ⟨a, vs, rfl, .inl h1, flat_val hx hz.1, flat_all h2 hz.2, ?_⟩
      rw [flat_in hx hz.1 h2 hz.2]
      exact k _ _ (Ex.refl _) (.bl _)
    · cases hg
  · split at hg
    · cases hg
      rename_i ys hz
      obtain ⟨a, vs, rfl, h1, h2⟩ := rp_tuple hy
      refine ⟨a, vs, rfl, .inr h1, flat_val hx hz.1, flat_all h2 hz.2, ?_⟩
      rw [flat_in hx hz.1 h2 hz.2]
      exact k _ _ (Ex.refl _) (.bl _)
    · cases hg
  · cases hg
theorem rd_notIn : R2D K (rIn K.f true) gNotIn := by
  intro L H x y dx dy d Q tr hx hy hg k
  unfold gNotIn at hg
  split at hg
  · split at hg
    · cases hg
      rename_i ys hz
      obtain ⟨a, vs, rfl, h1, h2⟩ := rp_list hy
      refine ⟨a, vs, rfl, .inl h1, flat_val hx hz.1, flat_all h2 hz.2, ?_⟩
      rw [flat_in hx hz.1 h2 hz.2]
      exact k _ _ (Ex.refl _) (.bl _)
    · cases hg
  · split at hg
    · cases hg
      rename_i ys hz
      obtain ⟨a, vs, rfl, h1, h2⟩ := rp_tuple hy
      refine ⟨a, vs, rfl, .inr h1, flat_val hx hz.1, flat_all h2 hz.2, ?_⟩
      rw [flat_in hx hz.1 h2 hz.2]
      exact k _ _ (Ex.refl _) (.bl _)
    · cases hg
  · cases hg
theorem atI_len {α β : Type} {xs : List α} {ys : List β} {i : Int} {y : β} (h : xs.length = ys.length) (e : atI ys i = some y) : ∃ j : Nat, ys[j]? = some y ∧ ∀ x, xs[j]? = some x → atI xs i = some x := by
  unfold atI at e
  cases q : ixN ys.length i with
  | none => rw [q] at e; cases e
  | some j =>
    rw [q] at e
    refine ⟨j, e, fun x hx => ?_⟩
    unfold atI
    rw [h, q]
    exact hx
def rIxA (K : PySem.W.Frag) : R2 := opOr (rIxL K) (rIxT K)
theorem ix_any : IxR X (rIxA X.K) := IxR.or ix_list ix_tup
theorem rd_ix : R2D K (rIxA K.f) gIx := by
  intro L H x y dx dy d Q tr hx hy hg k
  unfold gIx at hg
  split at hg
  · rename_i xs i
    obtain ⟨a, vs, rfl, h1, h2⟩ := rp_list hx
    obtain ⟨j, e1, e2⟩ := atI_len (dpa_len h2) hg
    obtain ⟨v, e3, e4⟩ := dpa_get' h2 e1
    exact .inl ⟨a, vs, i, v, rfl, rp_int hy, h1, e2 v e3, k _ _ (Ex.refl _) e4⟩
  · rename_i xs i
    obtain ⟨a, vs, rfl, h1, h2⟩ := rp_tuple hx
    obtain ⟨j, e1, e2⟩ := atI_len (dpa_len h2) hg
    obtain ⟨v, e3, e4⟩ := dpa_get' h2 e1
    exact .inr ⟨a, vs, i, v, rfl, rp_int hy, h1, e2 v e3, k _ _ (Ex.refl _) e4⟩
  · cases hg
theorem rd_min2 : R2D K (fun x y H Q => ∃ i j, [x, y] = [V.int i, V.int j] ∧ Q (.int (if j < i then j else i)) H) gMin2 := by
  intro L H x y dx dy d Q tr hx hy hg k
  unfold gMin2 at hg
  split at hg
  · cases hg
    exact ⟨_, _, by rw [rp_int hx, rp_int hy], k _ _ (Ex.refl _) (.int _)⟩
  · cases hg
theorem rd_max2 : R2D K (fun x y H Q => ∃ i j, [x, y] = [V.int i, V.int j] ∧ Q (.int (if j > i then j else i)) H) gMax2 := by
  intro L H x y dx dy d Q tr hx hy hg k
  unfold gMax2 at hg
  split at hg
  · cases hg
    exact ⟨_, _, by rw [rp_int hx, rp_int hy], k _ _ (Ex.refl _) (.int _)⟩
  · cases hg
def rLenA (K : PySem.W.Frag) : List V → Hp → VK → Prop := fun xs H Q => (∃ p ys, xs = [V.ref p] ∧ (SqL K H p ys ∨ SqT K H p ys) ∧ Q (.int ys.length) H) ∨ ∃ z, xs = [V.str z] ∧ z.length ≤ sizeLine ∧ Q (.int z.length) H
theorem call_lenA : CallR X (.builtin "len") (rLenA X.K) := by
  intro pins s σ H xs us Q I r h
  rcases h with h | h
  · exact call_len_seq pins s σ H xs us Q I r h
  · exact call_len_str pins s σ H xs us Q I r h
theorem r1_len : R1D K (fun x => rLenA K.f [x]) gLen := by
  intro L H x dx d Q tr hx hg k
  unfold gLen at hg
  split at hg
  · cases hg
    obtain ⟨a, vs, rfl, h1, h2⟩ := rp_list hx
    refine .inl ⟨a, vs, rfl, .inl h1, ?_⟩
    rw [dpa_len h2]
    exact k _ _ (Ex.refl _) (.int _)
  · cases hg
    obtain ⟨a, vs, rfl, h1, h2⟩ := rp_tuple hx
    refine .inl ⟨a, vs, rfl, .inr h1, ?_⟩
    rw [dpa_len h2]
    exact k _ _ (Ex.refl _) (.int _)
  · split at hg
    · cases hg
      exact .inr ⟨_, by rw [rp_str hx], by assumption, k _ _ (Ex.refl _) (.int _)⟩
    · cases hg
  · cases hg
theorem r1_tuple : R1D K (fun x H Q => ∃ p ys, [x] = [V.ref p] ∧ ((SqL K.f H p ys ∧ ∀ l, H l = none → Q (.ref l) (upd H l (.tup ys))) ∨ (SqT K.f H p ys ∧ Q (.ref p) H))) gTuple := by
  intro L H x dx d Q tr hx hg k
  unfold gTuple at hg
  split at hg
  · cases hg
    obtain ⟨a, vs, rfl, h1, h2⟩ := rp_list hx
    exact ⟨a, vs, rfl, .inl ⟨h1, fun l hl => k _ _ (Ex.new hl) (new_tup tr hl h2)⟩⟩
  · cases hg
    obtain ⟨a, vs, rfl, h1, h2⟩ := rp_tuple hx
    exact ⟨a, vs, rfl, .inr ⟨h1, k _ _ (Ex.refl _) hx⟩⟩
  · cases hg
theorem r1_list : R1D K (fun x H Q => ∃ p ys, [x] = [V.ref p] ∧ (SqL K.f H p ys ∨ SqT K.f H p ys) ∧ ∀ l, H l = none → Q (.ref l) (upd H l (.lst ys))) gList := by
  intro L H x dx d Q tr hx hg k
  unfold gList at hg
  split at hg
  · cases hg
    obtain ⟨a, vs, rfl, h1, h2⟩ := rp_list hx
    exact ⟨a, vs, rfl, .inl h1, fun l hl => k _ _ (Ex.new hl) (new_lst tr hl h2)⟩
  · cases hg
    obtain ⟨a, vs, rfl, h1, h2⟩ := rp_tuple hx
    exact ⟨a, vs, rfl, .inr h1, fun l hl => k _ _ (Ex.new hl) (new_lst tr hl h2)⟩
  · cases hg
theorem r1_int : R1D K (fun x H Q => (∃ i, [x] = [V.int i] ∧ Q (.int i) H) ∨ ∃ k, [x] = [V.bl k] ∧ Q (.int (if k then 1 else 0)) H) gInt := by
  intro L H x dx d Q tr hx hg k
  unfold gInt at hg
  split at hg
  · cases hg
    exact .inl ⟨_, by rw [rp_int hx], k _ _ (Ex.refl _) (.int _)⟩
  · cases hg
    exact .inr ⟨_, by rw [rp_bool hx], k _ _ (Ex.refl _) (.int _)⟩
  · cases hg
theorem r1_all : R1D K (fun x => rAll K.f [x]) gAll := by
  intro L H x dx d Q tr hx hg k
  unfold gAll at hg
  split at hg
  · rename_i xs
    cases e : boolsD xs with
    | none => rw [e] at hg; cases hg
    | some bs =>
      rw [e] at hg
      cases hg
      obtain ⟨a, vs, rfl, h1, h2⟩ := rp_list hx
      rw [boolsD_eq e] at h2
      rw [dpa_bools_eq h2] at h1
      exact ⟨a, bs, rfl, h1, k _ _ (Ex.refl _) (.bl _)⟩
  · cases hg
theorem r1_any : R1D K (fun x => rAny K.f [x]) gAny := by
  intro L H x dx d Q tr hx hg k
  unfold gAny at hg
  split at hg
  · rename_i xs
    cases e : boolsD xs with
    | none => rw [e] at hg; cases hg
    | some bs =>
      rw [e] at hg
      cases hg
      obtain ⟨a, vs, rfl, h1, h2⟩ := rp_list hx
      rw [boolsD_eq e] at h2
      rw [dpa_bools_eq h2] at h1
      exact ⟨a, bs, rfl, h1, k _ _ (Ex.refl _) (.bl _)⟩
  · cases hg
theorem r1_sorted : R1D K (fun x => rSortedI K.f [x]) gSorted := by
  intro L H x dx d Q tr hx hg k
  unfold gSorted at hg
  split at hg
  · rename_i xs
    cases e : intsD xs with
    | none => rw [e] at hg; cases hg
    | some ns =>
      rw [e] at hg
      cases hg
      obtain ⟨a, vs, rfl, h1, h2⟩ := rp_list hx
      rw [intsD_eq e] at h2
      rw [dpa_ints_eq h2] at h1
      refine ⟨a, ns, rfl, h1, fun ns' p hp hs hn => ?_⟩
      rw [isort_of hp hs]
      exact k _ _ (Ex.new hn) (new_lst tr hn (dpa_ints _))
  · cases hg
end
end PD

namespace PD
open PySem L2
open Evl (Ex)
abbrev FL := Rho → (List D → Rho → Prop) → Prop
def DL (K : Fr0) (M : Mk0) (f : FL) : TA := fun σ H Q => ∃ P F L ρ, R K M P F L ρ σ H ∧ f ρ fun ds ρ' => ∀ vs L' H', Ex (hide L H) (hide L' H') → R K M P F L' ρ' σ H' → RpAll K (hide L' H') vs ds → Q vs H'
structure PDL (X : Cx) (M : Mk0) (es : List Expr) (f : FL) : Prop where
  pa : PA X es (DL X.k0 M f)
  mono : ∀ ρ k k', (∀ d ρ', k d ρ' → k' d ρ') → f ρ k → f ρ k'
structure PDW (X : Cx) (M : Mk0) (e : Expr) (f : FT) : Prop where
  pw : PW X e (DT X.k0 M f)
  mono : ∀ ρ k k', (∀ d ρ', k d ρ' → k' d ρ') → f ρ k → f ρ k'
theorem PW.wk {X : Cx} {e : Expr} {t t' : TT} (h : PW X e t) (w : ∀ σ H Q, t' σ H Q → t σ H Q) : PW X e t' := ⟨fun wh pins s σ H Q I q => h.run wh pins s σ H Q I (w σ H Q q)⟩
theorem PI.wk {X : Cx} {tg it : Expr} {t t' : TI} (h : PI X tg it t) (w : ∀ σ H Q, t' σ H Q → t σ H Q) : PI X tg it t' := ⟨fun pins s σ H Q I q => h.run pins s σ H Q I (w σ H Q q)⟩
theorem PTs.wk {X : Cx} {es : List Expr} {t t' : TT} (h : PTs X es t) (w : ∀ σ H Q, t' σ H Q → t σ H Q) : PTs X es t' := ⟨fun pins s σ H Q I q => h.run pins s σ H Q I (w σ H Q q)⟩

section
variable {X : Cx} {M : Mk0} {a b c e o : Expr} {es rest : List Expr} {fa fb fc : FE} {fl : FL} {ft fu : FT} {pos : Pos}

/-! ### lists of arguments, displays -/
def flNil : FL := fun ρ k => k [] ρ
def flCons (fa : FE) (fl : FL) : FL := fun ρ k => fa ρ fun d ρ1 => fl ρ1 fun ds ρ2 => k (d :: ds) ρ2
theorem pdl_nil : PDL X M [] flNil := by
  refine ⟨PA.wk pa_nil fun σ H Q ⟨P, F, L, ρ, r, k⟩ => ?_, fun ρ k k' h q => h _ _ q⟩
  exact k [] L H (Ex.refl _) r .nil
theorem pdl_cons (ha : PD X M a fa) (hl : PDL X M es fl) (hs : starEach (a :: es) X.env = (false, eval a X.env) :: starEach es X.env := by rfl) : PDL X M (a :: es) (flCons fa fl) := by
  refine ⟨PA.wk (pa_cons ha.pe hl.pa hs) fun σ H Q ⟨P, F, L, ρ, r, k⟩ => ?_, fun ρ k k' h q => ha.mono _ _ _ (fun d ρ1 q => hl.mono _ _ _ (fun ds ρ2 q => h _ _ q) q) q⟩
  refine ⟨P, F, L, ρ, r, ha.mono _ _ _ (fun d ρ1 q v L1 H1 e1 r1 d1 => ?_) k⟩
  exact ⟨P, F, L1, ρ1, r1, hl.mono _ _ _ (fun ds ρ2 q vs L2 H2 e2 r2 d2 => q (v :: vs) L2 H2 (e1.trans e2) r2 (.cons (dp_ex e2 _ _ d1) d2)) q⟩
def fTup (fl : FL) : FE := fun ρ k => fl ρ fun ds ρ1 => ds.length ≤ 100000 ∧ k (.tuple ds) ρ1
def fLst (fl : FL) : FE := fun ρ k => fl ρ fun ds ρ1 => ds.length ≤ 100000 ∧ k (.list ds) ρ1
theorem pd_tup {x1} (h : PDL X M es fl) : PD X M (.Tuple es x1 pos) (fTup fl) := by
  refine ⟨PE.wk (pe_tup h.pa) fun σ H Q ⟨P, F, L, ρ, r, k⟩ => ?_, fun ρ k k' g q => h.mono _ _ _ (fun ds ρ1 q => ⟨q.1, g _ _ q.2⟩) q⟩
  refine ⟨P, F, L, ρ, r, h.mono _ _ _ (fun ds ρ1 q vs L1 H1 e1 r1 d1 => ⟨Evl.sz_of (by rw [dpa_len d1]; exact q.1), fun p hp => ?_⟩) k⟩
  exact q.2 (.ref p) L1 _ (e1.trans (hide_ex (Ex.new hp))) (r1.laid hp) (new_tup r1.tr hp d1)
theorem pd_lst (h : PDL X M es fl) : PD X M (.List es pos) (fLst fl) := by
  refine ⟨PE.wk (pe_lst h.pa) fun σ H Q ⟨P, F, L, ρ, r, k⟩ => ?_, fun ρ k k' g q => h.mono _ _ _ (fun ds ρ1 q => ⟨q.1, g _ _ q.2⟩) q⟩
  refine ⟨P, F, L, ρ, r, h.mono _ _ _ (fun ds ρ1 q vs L1 H1 e1 r1 d1 => ⟨Evl.sz_of (by rw [dpa_len d1]; exact q.1), fun p hp => ?_⟩) k⟩
  exact q.2 (.ref p) L1 _ (e1.trans (hide_ex (Ex.new hp))) (r1.laid hp) (new_lst r1.tr hp d1)

/-! ### tests -/
/-- a value that is a bool, as a test -/
def ftB (fa : FE) : FT := fun ρ k => fa ρ fun d ρ1 => ∃ b, d = .bool b ∧ k b ρ1
theorem ftB_mono (ma : ∀ ρ k k', (∀ d ρ', k d ρ' → k' d ρ') → fa ρ k → fa ρ k') (ρ : Rho) (k k' : Bool → Rho → Prop) (h : ∀ d ρ', k d ρ' → k' d ρ') (q : ftB fa ρ k) : ftB fa ρ k' :=
  ma _ _ _ (fun d ρ1 ⟨b, h1, h2⟩ => ⟨b, h1, h _ _ h2⟩) q
theorem dtB (ma : ∀ ρ k k', (∀ d ρ', k d ρ' → k' d ρ') → fa ρ k → fa ρ k') (σ : L2.St) (H : Hp) (Q : Bool → Hp → Prop) (h : DT X.k0 M (ftB fa) σ H Q) : DE X.k0 M fa σ H fun x H1 => ∃ c, x = .bl c ∧ Q c H1 := by
  obtain ⟨P, F, L, ρ, r, k⟩ := h
  refine ⟨P, F, L, ρ, r, ma _ _ _ (fun d ρ1 ⟨b, h1, h2⟩ v L1 H1 e1 r1 d1 => ?_) k⟩
  subst h1
  exact ⟨b, rp_bool d1, h2 L1 H1 e1 r1⟩
theorem pdt_val (ha : PD X M e fa) (he : ∀ whole, isTrue e X.env whole = (do let v ← whole; standAt e.pos; holding [v] (truthy v)) := by intro _; rfl) : PDT X M e (ftB fa) :=
  ⟨PT.wk (pt_val ha.pe he) fun σ H Q h => dtB ha.mono σ H Q h, ftB_mono ha.mono⟩
/-- a comparison as a test -/
theorem pdt_cmp {op : CmpOp} {r : R2} {g : D → D → Option D} (ho : OpR X (compareOp op) r) (hg : R2D X.k0 r g) (ha : PD X M a fa) (hb : PD X M b fb) (hm : behindInMarks op b = false) : PDT X M (.Compare a [op] [b] pos) (ftB (fOp g fa fb)) := by
  refine ⟨PT.wk (pt_cmpR ho ha.pe hb.pe hm) fun σ H Q h => ?_, ftB_mono (fOp_mono ha.mono hb.mono)⟩
  obtain ⟨P, F, L, ρ, r0, k⟩ := h
  refine dOp (M := M) hg ha.mono hb.mono σ H _ ⟨P, F, L, ρ, r0, fOp_mono ha.mono hb.mono _ _ _ (fun d ρ1 ⟨b, h1, h2⟩ v L1 H1 e1 r1 d1 => ?_) k⟩
  subst h1
  exact ⟨b, rp_bool d1, h2 L1 H1 e1 r1⟩
def fChain (g g' : D → D → Option D) (fa fb fc : FE) : FE := fun ρ k => fa ρ fun x ρ1 => fb ρ1 fun y ρ2 => ∃ t, g x y = some (.bool t) ∧ if t = true then fc ρ2 fun z ρ3 => ∃ d, g' y z = some d ∧ k d ρ3 else k (.bool false) ρ2
theorem fChain_mono {g g' : D → D → Option D} (ma : ∀ ρ k k', (∀ d ρ', k d ρ' → k' d ρ') → fa ρ k → fa ρ k') (mb : ∀ ρ k k', (∀ d ρ', k d ρ' → k' d ρ') → fb ρ k → fb ρ k') (mc : ∀ ρ k k', (∀ d ρ', k d ρ' → k' d ρ') → fc ρ k → fc ρ k')
    (ρ : Rho) (k k' : KD) (h : ∀ d ρ', k d ρ' → k' d ρ') (q : fChain g g' fa fb fc ρ k) : fChain g g' fa fb fc ρ k' :=
  ma _ _ _ (fun x ρ1 q => mb _ _ _ (fun y ρ2 ⟨t, h1, h2⟩ => ⟨t, h1, by
    cases t with
    | true => exact mc _ _ _ (fun z ρ3 ⟨d, h3, h4⟩ => ⟨d, h3, h _ _ h4⟩) h2
    | false => exact h _ _ h2⟩) q) q
theorem dChain {r r' : R2} {g g' : D → D → Option D} (hg : R2D X.k0 r g) (hg' : R2D X.k0 r' g') (ma : ∀ ρ k k', (∀ d ρ', k d ρ' → k' d ρ') → fa ρ k → fa ρ k') (mb : ∀ ρ k k', (∀ d ρ', k d ρ' → k' d ρ') → fb ρ k → fb ρ k') (mc : ∀ ρ k k', (∀ d ρ', k d ρ' → k' d ρ') → fc ρ k → fc ρ k')
    (σ : L2.St) (H : Hp) (Q : VK) (h : DE X.k0 M (fChain g g' fa fb fc) σ H Q) : tChain r r' (DE X.k0 M fa) (DE X.k0 M fb) (DE X.k0 M fc) σ H Q := by
  obtain ⟨P, F, L, ρ, r0, k⟩ := h
  refine ⟨P, F, L, ρ, r0, ma _ _ _ (fun x ρ1 q v L1 H1 e1 r1 d1 => ?_) k⟩
  refine ⟨P, F, L1, ρ1, r1, mb _ _ _ (fun y ρ2 ⟨t, ht, q2⟩ u L2 H2 e2 r2 d2 => ?_) q⟩
  refine hg L2 H2 v u x y (.bool t) _ r2.tr (dp_ex e2 _ _ d1) d2 ht fun w H3 e3 d3 => ⟨t, rp_bool d3, ?_⟩
  cases t with
  | true =>
    show DE X.k0 M fc σ H3 _
    refine ⟨P, F, L2, ρ2, r2.ex e3, mc _ _ _ (fun z ρ3 ⟨d, hd, q3⟩ w' L4 H4 e4 r4 d4 => ?_) q2⟩
    refine hg' L4 H4 u w' y z d Q r4.tr (dp_ex e4 _ _ (dp_ex (hide_ex e3) _ _ d2)) d4 hd fun w5 H5 e5 d5 => q3 w5 L4 H5 (((e1.trans e2).trans (hide_ex e3)).trans (e4.trans (hide_ex e5))) (r4.ex e5) d5
  | false =>
    show Q (.bl false) H3
    exact q2 (.bl false) L2 H3 ((e1.trans e2).trans (hide_ex e3)) (r2.ex e3) (.bl false)
theorem pd_chain {op op' : CmpOp} {r r' : R2} {g g' : D → D → Option D} (ho : OpR X (compareOp op) r) (ho' : OpR X (compareOp op') r') (hg : R2D X.k0 r g) (hg' : R2D X.k0 r' g') (ha : PD X M a fa) (hb : PD X M b fb) (hc : PD X M c fc)
    (hm : lastMarks [op, op'] [b, c] = false := by with_unfolding_all rfl) : PD X M (.Compare a [op, op'] [b, c] pos) (fChain g g' fa fb fc) :=
  ⟨PE.wk (pe_chain ho ho' ha.pe hb.pe hc.pe hm) (dChain hg hg' ha.mono hb.mono hc.mono), fChain_mono ha.mono hb.mono hc.mono⟩
theorem pdt_chain {op op' : CmpOp} {r r' : R2} {g g' : D → D → Option D} (ho : OpR X (compareOp op) r) (ho' : OpR X (compareOp op') r') (hg : R2D X.k0 r g) (hg' : R2D X.k0 r' g') (ha : PD X M a fa) (hb : PD X M b fb) (hc : PD X M c fc)
    (hm : lastMarks [op, op'] [b, c] = false := by with_unfolding_all rfl) : PDT X M (.Compare a [op, op'] [b, c] pos) (ftB (fChain g g' fa fb fc)) := by
  refine ⟨PT.wk (pt_chain ho ho' ha.pe hb.pe hc.pe hm) fun σ H Q h => ?_, ftB_mono (fChain_mono ha.mono hb.mono hc.mono)⟩
  obtain ⟨P, F, L, ρ, r0, k⟩ := h
  refine dChain (M := M) hg hg' ha.mono hb.mono hc.mono σ H _ ⟨P, F, L, ρ, r0, fChain_mono ha.mono hb.mono hc.mono _ _ _ (fun d ρ1 ⟨b, h1, h2⟩ v L1 H1 e1 r1 d1 => ?_) k⟩
  subst h1
  exact ⟨b, rp_bool d1, h2 L1 H1 e1 r1⟩
/-- truth of any value -/
def truD : D → Option Bool
  | .none => some false
  | .bool b => some b
  | .int i => some (i != 0)
  | .str x => if x.length ≤ sizeLine then some ((x.length : Int) != 0) else none
  | .list xs => some (!xs.isEmpty)
  | .tuple xs => some (!xs.isEmpty)
  | .dict ps => none
def ftT (fa : FE) : FT := fun ρ k => fa ρ fun d ρ1 => ∃ b, truD d = some b ∧ k b ρ1
theorem pdt_truth (ha : PD X M e fa) (he : ∀ whole, isTrue e X.env whole = (do let v ← whole; standAt e.pos; holding [v] (truthy v)) := by intro _; rfl) : PDT X M e (ftT fa) := by
  refine ⟨PT.wk (pt_truth ha.pe he) fun σ H Q ⟨P, F, L, ρ, r, k⟩ => ?_, fun ρ k k' h q => ha.mono _ _ _ (fun d ρ1 ⟨b, h1, h2⟩ => ⟨b, h1, h _ _ h2⟩) q⟩
  refine ⟨P, F, L, ρ, r, ha.mono _ _ _ (fun d ρ1 ⟨b, h1, h2⟩ v L1 H1 e1 r1 d1 => ⟨b, ?_, h2 L1 H1 e1 r1⟩) k⟩
  cases d with
  | none => cases h1; rw [rp_none d1]; rfl
  | bool x => cases h1; rw [rp_bool d1]; rfl
  | int x => cases h1; rw [rp_int d1]; rfl
  | str x =>
    have h1' : (if x.length ≤ sizeLine then some ((x.length : Int) != 0) else none) = some b := h1
    by_cases hz : x.length ≤ sizeLine
    · rw [if_pos hz] at h1'
      cases h1'
      rw [rp_str d1]
      exact ⟨hz, rfl⟩
    · rw [if_neg hz] at h1'
      cases h1'
  | list xs =>
    cases h1
    obtain ⟨a, vs, rfl, g1, g2⟩ := rp_list d1
    refine .inl ⟨vs, g1, ?_⟩
    cases g2 <;> rfl
  | tuple xs =>
    cases h1
    obtain ⟨a, vs, rfl, g1, g2⟩ := rp_tuple d1
    refine .inr (.inl ⟨vs, g1, ?_⟩)
    cases g2 <;> rfl
  | dict ps => cases h1
def ftAnd (ft fu : FT) : FT := fun ρ k => ft ρ fun c ρ1 => if c = true then fu ρ1 k else k false ρ1
def ftOr (ft fu : FT) : FT := fun ρ k => ft ρ fun c ρ1 => if c = true then k true ρ1 else fu ρ1 k
def ftNot (ft : FT) : FT := fun ρ k => ft ρ fun c ρ1 => k (!c) ρ1
theorem pdw_and1 (h : PDT X M a ft) : PDW X M (.BoolOp .And [a] pos) ft := ⟨pw_and1 h.pt, h.mono⟩
theorem pdw_or1 (h : PDT X M a ft) : PDW X M (.BoolOp .Or [a] pos) ft := ⟨pw_or1 h.pt, h.mono⟩
theorem ftAnd_mono (ma : ∀ ρ k k', (∀ d ρ', k d ρ' → k' d ρ') → ft ρ k → ft ρ k') (mb : ∀ ρ k k', (∀ d ρ', k d ρ' → k' d ρ') → fu ρ k → fu ρ k') (ρ : Rho) (k k' : Bool → Rho → Prop) (h : ∀ d ρ', k d ρ' → k' d ρ') (q : ftAnd ft fu ρ k) : ftAnd ft fu ρ k' :=
  ma _ _ _ (fun c ρ1 q => by
    cases c with
    | true => exact mb _ _ _ h q
    | false => exact h _ _ q) q
theorem ftOr_mono (ma : ∀ ρ k k', (∀ d ρ', k d ρ' → k' d ρ') → ft ρ k → ft ρ k') (mb : ∀ ρ k k', (∀ d ρ', k d ρ' → k' d ρ') → fu ρ k → fu ρ k') (ρ : Rho) (k k' : Bool → Rho → Prop) (h : ∀ d ρ', k d ρ' → k' d ρ') (q : ftOr ft fu ρ k) : ftOr ft fu ρ k' :=
  ma _ _ _ (fun c ρ1 q => by
    cases c with
    | true => exact h _ _ q
    | false => exact mb _ _ _ h q) q
theorem pdw_and (ha : PDT X M a ft) (hb : PDW X M (.BoolOp .And (b :: rest) pos) fu) : PDW X M (.BoolOp .And (a :: b :: rest) pos) (ftAnd ft fu) := by
  refine ⟨PW.wk (pw_and ha.pt hb.pw) fun σ H Q ⟨P, F, L, ρ, r, k⟩ => ?_, ftAnd_mono ha.mono hb.mono⟩
  refine ⟨P, F, L, ρ, r, ha.mono _ _ _ (fun c ρ1 q L1 H1 e1 r1 => ?_) k⟩
  cases c with
  | true => exact ⟨P, F, L1, ρ1, r1, hb.mono _ _ _ (fun d ρ2 q L2 H2 e2 r2 => q L2 H2 (e1.trans e2) r2) q⟩
  | false => exact q L1 H1 e1 r1
theorem pdw_or (ha : PDT X M a ft) (hb : PDW X M (.BoolOp .Or (b :: rest) pos) fu) : PDW X M (.BoolOp .Or (a :: b :: rest) pos) (ftOr ft fu) := by
  refine ⟨PW.wk (pw_or ha.pt hb.pw) fun σ H Q ⟨P, F, L, ρ, r, k⟩ => ?_, ftOr_mono ha.mono hb.mono⟩
  refine ⟨P, F, L, ρ, r, ha.mono _ _ _ (fun c ρ1 q L1 H1 e1 r1 => ?_) k⟩
  cases c with
  | true => exact q L1 H1 e1 r1
  | false => exact ⟨P, F, L1, ρ1, r1, hb.mono _ _ _ (fun d ρ2 q L2 H2 e2 r2 => q L2 H2 (e1.trans e2) r2) q⟩
theorem PDW.pt (h : PDW X M e ft) : PDT X M e ft := ⟨PW.pt h.pw, h.mono⟩
theorem pdt_not (ha : PDT X M a ft) : PDT X M (.UnaryOp .Not a pos) (ftNot ft) := by
  refine ⟨PT.wk (pt_not ha.pt) fun σ H Q ⟨P, F, L, ρ, r, k⟩ => ?_, fun ρ k k' h q => ha.mono _ _ _ (fun c ρ1 q => h _ _ q) q⟩
  exact ⟨P, F, L, ρ, r, ha.mono _ _ _ (fun c ρ1 q L1 H1 e1 r1 => q L1 H1 e1 r1) k⟩

/-! ### and, or, not, if as values -/
def fAnd (fa fb : FE) : FE := fun ρ k => fa ρ fun d ρ1 => ∃ b, d = .bool b ∧ if b = true then fb ρ1 k else k (.bool false) ρ1
def fOr (fa fb : FE) : FE := fun ρ k => fa ρ fun d ρ1 => ∃ b, d = .bool b ∧ if b = true then k (.bool true) ρ1 else fb ρ1 k
def fNot (fa : FE) : FE := fun ρ k => fa ρ fun d ρ1 => ∃ b, d = .bool b ∧ k (.bool (!b)) ρ1
def fIf (ft : FT) (fa fb : FE) : FE := fun ρ k => ft ρ fun c ρ1 => if c = true then fa ρ1 k else fb ρ1 k
theorem pd_one {op} (h : PD X M a fa) : PD X M (.BoolOp op [a] pos) fa := ⟨pe_one h.pe, h.mono⟩
theorem pd_and (ha : PD X M a fa) (hb : PD X M (.BoolOp .And (b :: rest) pos) fb) : PD X M (.BoolOp .And (a :: b :: rest) pos) (fAnd fa fb) := by
  refine ⟨PE.wk (pe_and ha.pe hb.pe) fun σ H Q ⟨P, F, L, ρ, r, k⟩ => ?_, fun ρ k k' h q => ha.mono _ _ _ (fun d ρ1 ⟨t, h1, h2⟩ => ⟨t, h1, by
    cases t with
    | true => exact hb.mono _ _ _ h h2
    | false => exact h _ _ h2⟩) q⟩
  refine ⟨P, F, L, ρ, r, ha.mono _ _ _ (fun d ρ1 ⟨t, h1, h2⟩ v L1 H1 e1 r1 d1 => ?_) k⟩
  subst h1
  refine ⟨t, rp_bool d1, ?_⟩
  cases t with
  | true => exact ⟨P, F, L1, ρ1, r1, hb.mono _ _ _ (fun d ρ2 q w L2 H2 e2 r2 d2 => q w L2 H2 (e1.trans e2) r2 d2) h2⟩
  | false => exact h2 _ L1 H1 e1 r1 (.bl false)
theorem pd_or (ha : PD X M a fa) (hb : PD X M (.BoolOp .Or (b :: rest) pos) fb) : PD X M (.BoolOp .Or (a :: b :: rest) pos) (fOr fa fb) := by
  refine ⟨PE.wk (pe_or ha.pe hb.pe) fun σ H Q ⟨P, F, L, ρ, r, k⟩ => ?_, fun ρ k k' h q => ha.mono _ _ _ (fun d ρ1 ⟨t, h1, h2⟩ => ⟨t, h1, by
    cases t with
    | true => exact h _ _ h2
    | false => exact hb.mono _ _ _ h h2⟩) q⟩
  refine ⟨P, F, L, ρ, r, ha.mono _ _ _ (fun d ρ1 ⟨t, h1, h2⟩ v L1 H1 e1 r1 d1 => ?_) k⟩
  subst h1
  refine ⟨t, rp_bool d1, ?_⟩
  cases t with
  | true => exact h2 _ L1 H1 e1 r1 (.bl true)
  | false => exact ⟨P, F, L1, ρ1, r1, hb.mono _ _ _ (fun d ρ2 q w L2 H2 e2 r2 d2 => q w L2 H2 (e1.trans e2) r2 d2) h2⟩
theorem pd_not (ha : PD X M a fa) : PD X M (.UnaryOp .Not a pos) (fNot fa) := by
  refine ⟨PE.wk (pe_not ha.pe) fun σ H Q ⟨P, F, L, ρ, r, k⟩ => ?_, fun ρ k k' h q => ha.mono _ _ _ (fun d ρ1 ⟨t, h1, h2⟩ => ⟨t, h1, h _ _ h2⟩) q⟩
  refine ⟨P, F, L, ρ, r, ha.mono _ _ _ (fun d ρ1 ⟨t, h1, h2⟩ v L1 H1 e1 r1 d1 => ?_) k⟩
  subst h1
  exact ⟨t, rp_bool d1, h2 _ L1 H1 e1 r1 (.bl _)⟩
theorem pd_if (ht : PDT X M c ft) (ha : PD X M a fa) (hb : PD X M b fb) : PD X M (.IfExp c a b pos) (fIf ft fa fb) := by
  refine ⟨PE.wk (pe_ifExp ht.pt ha.pe hb.pe) fun σ H Q ⟨P, F, L, ρ, r, k⟩ => ?_, fun ρ k k' h q => ht.mono _ _ _ (fun t ρ1 q => by
    cases t with
    | true => exact ha.mono _ _ _ h q
    | false => exact hb.mono _ _ _ h q) q⟩
  refine ⟨P, F, L, ρ, r, ht.mono _ _ _ (fun t ρ1 q L1 H1 e1 r1 => ?_) k⟩
  cases t with
  | true => exact ⟨P, F, L1, ρ1, r1, ha.mono _ _ _ (fun d ρ2 q w L2 H2 e2 r2 d2 => q w L2 H2 (e1.trans e2) r2 d2) q⟩
  | false => exact ⟨P, F, L1, ρ1, r1, hb.mono _ _ _ (fun d ρ2 q w L2 H2 e2 r2 d2 => q w L2 H2 (e1.trans e2) r2 d2) q⟩

/-! ### slices -/
def fSl (g : D → Option Int → Option Int → Option D) (fa : FE) (fl fh : Rho → (Option Int → Rho → Prop) → Prop) : FE := fun ρ k => fa ρ fun x ρ1 => fl ρ1 fun l ρ2 => fh ρ2 fun h ρ3 => ∃ d, g x l h = some d ∧ k d ρ3
abbrev FO := Rho → (Option Int → Rho → Prop) → Prop
def DO (K : Fr0) (M : Mk0) (f : FO) : TO := fun σ H Q => ∃ P F L ρ, R K M P F L ρ σ H ∧ f ρ fun b ρ' => ∀ L' H', Ex (hide L H) (hide L' H') → R K M P F L' ρ' σ H' → Q b H'
structure PDO (X : Cx) (M : Mk0) (e : Option Expr) (f : FO) : Prop where
  po : PO X e (DO X.k0 M f)
  mono : ∀ ρ k k', (∀ d ρ', k d ρ' → k' d ρ') → f ρ k → f ρ k'
def foNone : FO := fun ρ k => k none ρ
def foSome (fa : FE) : FO := fun ρ k => fa ρ fun d ρ1 => ∃ i, d = .int i ∧ k (some i) ρ1
theorem PO.wk {e : Option Expr} {t t' : TO} (h : PO X e t) (w : ∀ σ H Q, t' σ H Q → t σ H Q) : PO X e t' := ⟨fun pins s σ H Q I q => h.run pins s σ H Q I (w σ H Q q)⟩
theorem pdo_none : PDO X M none foNone := ⟨PO.wk po_none fun σ H Q ⟨P, F, L, ρ, r, k⟩ => k L H (Ex.refl _) r, fun ρ k k' h q => h _ _ q⟩
theorem pdo_some (ha : PD X M a fa) : PDO X M (some a) (foSome fa) := by
  refine ⟨PO.wk (po_some ha.pe) fun σ H Q ⟨P, F, L, ρ, r, k⟩ => ?_, fun ρ k k' h q => ha.mono _ _ _ (fun d ρ1 ⟨i, h1, h2⟩ => ⟨i, h1, h _ _ h2⟩) q⟩
  refine ⟨P, F, L, ρ, r, ha.mono _ _ _ (fun d ρ1 ⟨i, h1, h2⟩ v L1 H1 e1 r1 d1 => ?_) k⟩
  subst h1
  exact ⟨i, rp_int d1, h2 L1 H1 e1 r1⟩
def cutD (xs : List D) (lo hi : Option Int) : List D := (xs.drop (HT.sIx xs.length 0 lo)).take (HT.sIx xs.length xs.length hi - HT.sIx xs.length 0 lo)
def gSl : D → Option Int → Option Int → Option D
  | .list xs, lo, hi => some (.list (cutD xs lo hi))
  | .tuple xs, lo, hi => some (.tuple (cutD xs lo hi))
  | _, _, _ => none
def rSlAny (K : PySem.W.Frag) : V → Option Int → Option Int → Hp → VK → Prop := fun x lo hi H Q => rSlL K x lo hi H Q ∨ rSlA K x lo hi H Q
theorem sl_any : SlR X (rSlAny X.K) := SlR.or sl_list sl_tupA
theorem dpa_cut {K : Fr0} {H : Hp} {vs : List V} {ds : List D} (h : RpAll K H vs ds) (lo hi : Option Int) : RpAll K H (cutV vs lo hi) (cutD ds lo hi) := by
  unfold cutV cutD
  rw [dpa_len h]
  exact dpa_take _ (dpa_drop _ h)
theorem pd_slice {p2 : Pos} {lo hi : Option Expr} {fl fh : FO} (ha : PD X M a fa) (hl : PDO X M lo fl) (hh : PDO X M hi fh) : PD X M (.Subscript a (.Slice lo hi none p2) pos) (fSl gSl fa fl fh) := by
  refine ⟨PE.wk (pe_slice sl_any ha.pe hl.po hh.po) fun σ H Q ⟨P, F, L, ρ, r, k⟩ => ?_, fun ρ k k' h q => ha.mono _ _ _ (fun d ρ1 q => hl.mono _ _ _ (fun l ρ2 q => hh.mono _ _ _ (fun u ρ3 ⟨d, h1, h2⟩ => ⟨d, h1, h _ _ h2⟩) q) q) q⟩
  refine ⟨P, F, L, ρ, r, ha.mono _ _ _ (fun x ρ1 q v L1 H1 e1 r1 d1 => ?_) k⟩
  refine ⟨P, F, L1, ρ1, r1, hl.mono _ _ _ (fun l ρ2 q L2 H2 e2 r2 => ?_) q⟩
  refine ⟨P, F, L2, ρ2, r2, hh.mono _ _ _ (fun u ρ3 ⟨d, hd, q⟩ L3 H3 e3 r3 => ?_) q⟩
  have d3 := dp_ex e3 _ _ (dp_ex e2 _ _ d1)
  have ex := (e1.trans e2).trans e3
  cases x with
  | list xs =>
    cases hd
    obtain ⟨a, vs, rfl, g1, g2⟩ := rp_list d3
    exact .inl ⟨a, vs, rfl, g1, fun p hp => q (.ref p) L3 _ (ex.trans (hide_ex (Ex.new hp))) (r3.laid hp) (new_lst r3.tr hp (dpa_cut g2 _ _))⟩
  | tuple xs =>
    cases hd
    obtain ⟨a, vs, rfl, g1, g2⟩ := rp_tuple d3
    refine .inr ⟨a, vs, rfl, g1, fun z => ?_, fun _ p hp => q (.ref p) L3 _ (ex.trans (hide_ex (Ex.new hp))) (r3.laid hp) (new_tup r3.tr hp (dpa_cut g2 _ _))⟩
    refine q (.ref a) L3 H3 ex r3 ?_
    have hc : cutD xs l u = xs := by
      unfold cutD
      rw [← dpa_len g2, z.1, z.2, dpa_len g2, List.drop_zero, Nat.sub_zero, List.take_length]
    rw [hc]
    exact d3
  | none => cases hd
  | bool _ => cases hd
  | int _ => cases hd
  | str _ => cases hd
  | dict _ => cases hd
end
end PD

namespace PD
open PySem L2
open Evl (Ex)
section
variable {K : Fr0} {M : Mk0} {P : Option Addr} {F : Hp} {L L' : List Addr} {ρ : Rho} {σ : L2.St} {H H' : Hp} {p : Addr} {o : HO}
/-! ### an address that is held by hand -/
theorem R.pinNew (r : R K M P F L ρ σ H) (hp : H p = none) : R K M P (upd F p o) (p :: L) ρ σ (upd H p o) := by
  have r1 := r.hideMore (o := o) hp
  have pL : p ∉ L := r.notL hp
  refine ⟨r1.len, r1.sl, fun a u h => ?_, r1.tr, r1.apart, fun i xs l h1 h2 => ?_, fun q hq => ?_⟩
  · by_cases e : a = p
    · subst e
      rw [upd_same] at h
      cases h
      exact ⟨upd_same, List.mem_cons_self⟩
    · rw [upd_ne e] at h
      exact r1.fr a u h
  · obtain ⟨l', vs, h3, h4, _⟩ := r.getOwn h1
    rw [h2] at h3
    cases h3
    rw [upd_ne (show l ≠ p from fun e => pL (by rw [← e]; exact h4))]
    exact r.ownF i xs l h1 h2
  · obtain ⟨A, a1, a2, a3⟩ := r.m q hq
    refine ⟨A, M.loc (fun a ha b hb => by rw [upd_ne (ne_of_none hb hp)]; exact hb) a1, fun a ha => ⟨List.mem_cons_of_mem _ (a2 a ha).1, ?_⟩, a3⟩
    rw [upd_ne (show a ≠ p from fun e => pL (by rw [← e]; exact (a2 a ha).1))]
    exact (a2 a ha).2
theorem R.pinned (r : R K M P (upd F p o) L ρ σ H) : H p = some o ∧ p ∈ L := r.fr p o upd_same
theorem R.pinOwn (r : R K M P (upd F p o) L ρ σ H) : ¬ Own ρ σ p := fun ⟨i, xs, h1, h2⟩ => by
  have := r.ownF i xs p h1 h2
  rw [upd_same] at this
  cases this
theorem R.unpin (r : R K M P (upd F p o) L ρ σ H) (hF : F p = none) : R K M P F L ρ σ H := by
  have up : ∀ {a}, upd F p o a = none → F a = none := fun {a} h => by
    by_cases e : a = p
    · rw [e]; exact hF
    · rw [upd_ne e] at h; exact h
  refine ⟨r.len, r.sl, fun a u h => ?_, r.tr, r.apart, fun i xs l h1 h2 => up (r.ownF i xs l h1 h2), fun q hq => ?_⟩
  · refine r.fr a u ?_
    rw [upd_ne (fun e => by rw [e, hF] at h; cases h)]
    exact h
  · obtain ⟨A, a1, a2, a3⟩ := r.m q hq
    exact ⟨A, a1, fun a ha => ⟨(a2 a ha).1, up (a2 a ha).2⟩, a3⟩
/-- the held list becomes data -/
theorem R.reveal (r : R K M P (upd F p o) L ρ σ H) (hF : F p = none) : R K M P F (L.filter fun a => decide (a ≠ p)) ρ σ H := by
  have sub : ∀ a ∈ (L.filter fun a => decide (a ≠ p)), a ∈ L := fun a ha => (List.mem_filter.mp ha).1
  have inn : ∀ a ∈ L, a ≠ p → a ∈ (L.filter fun a => decide (a ≠ p)) := fun a ha n => List.mem_filter.mpr ⟨ha, decide_eq_true n⟩
  have ex : Ex (hide L H) (hide (L.filter fun a => decide (a ≠ p)) H) := hide_sub sub
  have up : ∀ {a}, upd F p o a = none → F a = none ∧ a ≠ p := fun {a} h => by
    have e : a ≠ p := fun e => by rw [e, upd_same] at h; cases h
    rw [upd_ne e] at h
    exact ⟨h, e⟩
  refine ⟨r.len, fun i s u e1 e2 => ?_, fun a u h => ?_, fun a h => r.tr a (sub a h), r.apart, fun i xs l h1 h2 => (up (r.ownF i xs l h1 h2)).1, fun q hq => ?_⟩
  · have q := r.sl i s u e1 e2
    cases s with
    | no => trivial
    | d x =>
      obtain ⟨v, g3, g4⟩ := q
      exact ⟨v, g3, dp_ex ex _ _ g4⟩
    | own xs =>
      obtain ⟨l, vs, g3, g4, g5, g6⟩ := q
      exact ⟨l, vs, g3, inn l g4 (up (r.ownF i xs l e1 (by rw [e2, g3]))).2, g5, g6.up ex⟩
    | st => exact q
    | raw v => exact q
    | exc a d fl => exact ⟨q.1, q.2.up ex⟩
  · have e : a ≠ p := fun e => by rw [e, hF] at h; cases h
    have q := r.fr a u (by rw [upd_ne e]; exact h)
    exact ⟨q.1, inn a q.2 e⟩
  · obtain ⟨A, a1, a2, a3⟩ := r.m q hq
    exact ⟨A, a1, fun a ha => ⟨inn a (a2 a ha).1 (up (a2 a ha).2).2, (up (a2 a ha).2).1⟩, a3⟩
/-- what is held changes -/
theorem R.repin {o' : HO} (r : R K M P (upd F p o) L ρ σ H) : R K M P (upd F p o') L ρ σ (upd H p o') := by
  have hL := r.pinned.2
  have hh : hide L (upd H p o') = hide L H := by
    funext a
    unfold hide
    by_cases ha : a ∈ L
    · rw [if_pos ha, if_pos ha]
    · rw [if_neg ha, if_neg ha, upd_ne (show a ≠ p from fun e => ha (by rw [e]; exact hL))]
  have up : ∀ {a}, upd F p o a = none → upd F p o' a = none ∧ a ≠ p := fun {a} h => by
    have e : a ≠ p := fun e => by rw [e, upd_same] at h; cases h
    rw [upd_ne e] at h
    rw [upd_ne e]
    exact ⟨h, e⟩
  refine ⟨r.len, fun i s u e1 e2 => ?_, fun a u h => ?_, fun a h => ?_, r.apart, fun i xs l h1 h2 => (up (r.ownF i xs l h1 h2)).1, fun q hq => ?_⟩
  · have q := r.sl i s u e1 e2
    cases s with
    | no => trivial
    | d x =>
      obtain ⟨v, g3, g4⟩ := q
      exact ⟨v, g3, by rw [hh]; exact g4⟩
    | own xs =>
      obtain ⟨l, vs, g3, g4, g5, g6⟩ := q
      exact ⟨l, vs, g3, g4, by rw [upd_ne (up (r.ownF i xs l e1 (by rw [e2, g3]))).2]; exact g5, by rw [hh]; exact g6⟩
    | st => exact q
    | raw v => exact q
    | exc a d fl => exact ⟨q.1, by rw [hh]; exact q.2⟩
  · by_cases e : a = p
    · subst e
      rw [upd_same] at h
      cases h
      exact ⟨upd_same, hL⟩
    · rw [upd_ne e] at h
      have q := r.fr a u (by rw [upd_ne e]; exact h)
      exact ⟨by rw [upd_ne e]; exact q.1, q.2⟩
  · by_cases e : a = p
    · subst e
      exact ⟨o', upd_same⟩
    · obtain ⟨u, q⟩ := r.tr a h
      exact ⟨u, by rw [upd_ne e]; exact q⟩
  · obtain ⟨A, a1, a2, a3⟩ := r.m q hq
    exact ⟨A, M.loc (fun a ha b hb => by rw [upd_ne (up (a2 a ha).2).2]; exact hb) a1, fun a ha => ⟨(a2 a ha).1, (up (a2 a ha).2).1⟩, a3⟩
theorem hide_repin {o' : HO} (hL : p ∈ L) : hide L (upd H p o') = hide L H := by
  funext a
  unfold hide
  by_cases ha : a ∈ L
  · rw [if_pos ha, if_pos ha]
  · rw [if_neg ha, if_neg ha, upd_ne (show a ≠ p from fun e => ha (by rw [e]; exact hL))]
/-- the held list goes to a slot, as its own -/
theorem R.toOwnC {o : HO} {ds : Ow} (r : R K M P (upd F p o) L ρ σ H) (hF : F p = none) (hd : OwAt K (hide L H) p o ds) (i : Nat) : R K M P F L (ρ.set i (.own ds)) (σ.set i (some (.ref p))) H := by
  have hno := r.pinOwn
  have r0 := r.unpin hF
  have pin := r.pinned
  refine ⟨by simp [r0.len], fun j t u h1 h2 => ?_, r0.fr, r0.tr, fun a b xs ys l hab h1 h2 h3 h4 => ?_, fun c zs l h h3 => ?_, fun q hq => ?_⟩
  · by_cases e : j = i
    · subst e
      have hj : j < ρ.sl.length := by simpa using (List.getElem?_eq_some_iff.mp h1).1
      rw [show (ρ.set j (.own ds)).sl = ρ.sl.set j (.own ds) from rfl, List.getElem?_set_self hj] at h1
      rw [List.getElem?_set_self (by rw [r0.len]; exact hj)] at h2
      cases h1
      cases h2
      exact ⟨p, o, rfl, pin.2, pin.1, hd⟩
    · rw [show (ρ.set i (.own ds)).sl = ρ.sl.set i (.own ds) from rfl, List.getElem?_set_ne (fun q => e q.symm)] at h1
      rw [List.getElem?_set_ne (fun q => e q.symm)] at h2
      exact r0.sl j t u h1 h2
  · -- apart
    have look : ∀ {c : Nat} {zs : Ow}, c ≠ i → (ρ.set i (.own ds)).sl[c]? = some (.own zs) → (σ.set i (some (.ref p)))[c]? = some (some (.ref l)) → ρ.sl[c]? = some (.own zs) ∧ σ[c]? = some (some (.ref l)) := fun {c zs} hc g1 g2 => by
      rw [show (ρ.set i (.own ds)).sl = ρ.sl.set i (.own ds) from rfl, List.getElem?_set_ne (fun q => hc q.symm)] at g1
      rw [List.getElem?_set_ne (fun q => hc q.symm)] at g2
      exact ⟨g1, g2⟩
    have atp : ∀ {c : Nat}, c = i → (σ.set i (some (.ref p)))[c]? = some (some (V.ref l)) → l = p := fun {c} hc g => by
      subst hc
      have hlt : c < σ.length := by simpa using (List.getElem?_eq_some_iff.mp g).1
      rw [List.getElem?_set_self hlt] at g
      cases g
      rfl
    by_cases ha : a = i
    · have e := atp ha h3
      subst e
      have hb : b ≠ i := fun z => hab (ha.trans z.symm)
      obtain ⟨g1, g2⟩ := look hb h2 h4
      exact hno ⟨b, ys, g1, g2⟩
    · obtain ⟨g1, g2⟩ := look ha h1 h3
      by_cases hb : b = i
      · have e := atp hb h4
        subst e
        exact hno ⟨a, xs, g1, g2⟩
      · obtain ⟨g3, g4⟩ := look hb h2 h4
        exact r0.apart a b xs ys l hab g1 g3 g2 g4
  · by_cases hc : c = i
    · subst hc
      have hlt : c < σ.length := by simpa using (List.getElem?_eq_some_iff.mp h3).1
      rw [List.getElem?_set_self hlt] at h3
      cases h3
      exact hF
    · rw [show (ρ.set i (.own ds)).sl = ρ.sl.set i (.own ds) from rfl, List.getElem?_set_ne (fun q => hc q.symm)] at h
      rw [List.getElem?_set_ne (fun q => hc q.symm)] at h3
      exact r0.ownF c zs l h h3
  · obtain ⟨A, a1, a2, a3⟩ := r.m q hq
    refine ⟨A, a1, fun a ha => ⟨(a2 a ha).1, ?_⟩, fun c zs l h h3 hl => ?_⟩
    · have q := (a2 a ha).2
      rw [upd_ne (fun e => by rw [e, upd_same] at q; cases q)] at q
      exact q
    · by_cases hc : c = i
      · subst hc
        have hlt : c < σ.length := by simpa using (List.getElem?_eq_some_iff.mp h3).1
        rw [List.getElem?_set_self hlt] at h3
        cases h3
        have q := (a2 p hl).2
        rw [upd_same] at q
        cases q
      · rw [show (ρ.set i (.own ds)).sl = ρ.sl.set i (.own ds) from rfl, List.getElem?_set_ne (fun q => hc q.symm)] at h
        rw [List.getElem?_set_ne (fun q => hc q.symm)] at h3
        exact a3 c zs l h h3 hl
theorem R.toOwn {vs : List V} {ds : List D} (r : R K M P (upd F p (.lst vs)) L ρ σ H) (hF : F p = none) (hd : RpAll K (hide L H) vs ds) (i : Nat) : R K M P F L (ρ.set i (.own ds)) (σ.set i (some (.ref p))) H :=
  r.toOwnC (ds := .l ds) hF ⟨vs, rfl, hd⟩ i
/-- what is a slot's own is taken into the hand -/
theorem R.ofOwnC {ds : Ow} {i : Nat} (r : R K M P F L ρ σ H) (h : ρ.sl[i]? = some (.own ds)) : ∃ p u, σ[i]? = some (some (.ref p)) ∧ H p = some u ∧ F p = none ∧ p ∈ L ∧ OwAt K (hide L H) p u ds ∧ R K M P (upd F p u) L (ρ.set i .no) σ H := by
  obtain ⟨p, vs, h1, h2, h3, h4⟩ := r.getOwn h
  have hF := r.ownF i ds p h h1
  have look : ∀ {c : Nat} {zs : Ow}, (ρ.set i .no).sl[c]? = some (.own zs) → c ≠ i ∧ ρ.sl[c]? = some (.own zs) := fun {c zs} g => by
    by_cases hc : c = i
    · subst hc
      have hj : c < ρ.sl.length := by simpa using (List.getElem?_eq_some_iff.mp g).1
      rw [show (ρ.set c .no).sl = ρ.sl.set c .no from rfl, List.getElem?_set_self hj] at g
      cases g
    · rw [show (ρ.set i .no).sl = ρ.sl.set i .no from rfl, List.getElem?_set_ne (fun q => hc q.symm)] at g
      exact ⟨hc, g⟩
  refine ⟨p, vs, h1, h3, hF, h2, h4, by simp [r.len], fun j t u e1 e2 => ?_, fun a u e => ?_, r.tr, fun a b xs ys l hab e1 e2 e3 e4 => r.apart a b xs ys l hab (look e1).2 (look e2).2 e3 e4, fun c zs l e1 e2 => ?_, fun q hq => ?_⟩
  · by_cases e : j = i
    · subst e
      have hj : j < ρ.sl.length := by simpa using (List.getElem?_eq_some_iff.mp e1).1
      rw [show (ρ.set j .no).sl = ρ.sl.set j .no from rfl, List.getElem?_set_self hj] at e1
      cases e1
      trivial
    · rw [show (ρ.set i .no).sl = ρ.sl.set i .no from rfl, List.getElem?_set_ne (fun q => e q.symm)] at e1
      exact r.sl j t u e1 e2
  · by_cases e3 : a = p
    · subst e3
      rw [upd_same] at e
      cases e
      exact ⟨h3, h2⟩
    · rw [upd_ne e3] at e
      exact r.fr a u e
  · obtain ⟨g1, g2⟩ := look e1
    have : l ≠ p := fun z => r.apart c i zs ds p g1 g2 h (by rw [← z]; exact e2) h1
    rw [upd_ne this]
    exact r.ownF c zs l g2 e2
  · obtain ⟨A, a1, a2, a3⟩ := r.m q hq
    refine ⟨A, a1, fun a ha => ⟨(a2 a ha).1, ?_⟩, fun c zs l e1 e2 => a3 c zs l (look e1).2 e2⟩
    rw [upd_ne (fun z => a3 i ds p h h1 (by rw [← z]; exact ha))]
    exact (a2 a ha).2
theorem R.ofOwn {ds : List D} {i : Nat} (r : R K M P F L ρ σ H) (h : ρ.sl[i]? = some (.own ds)) : ∃ p vs, σ[i]? = some (some (.ref p)) ∧ H p = some (.lst vs) ∧ F p = none ∧ p ∈ L ∧ RpAll K (hide L H) vs ds ∧ R K M P (upd F p (.lst vs)) L (ρ.set i .no) σ H := by
  obtain ⟨p, u, h1, h2, h3, h4, ⟨vs, h5, h6⟩, h7⟩ := r.ofOwnC h
  subst h5
  exact ⟨p, vs, h1, h2, h3, h4, h6, h7⟩
end
end PD

namespace PD
open PySem L2
open Evl (Ex)
/-- a new list, held by hand -/
def DNw (K : Fr0) (M : Mk0) (f : FN) : TE := fun σ H Q => ∃ P F L ρ, R K M P F L ρ σ H ∧ f ρ fun ds ρ' => ∀ p vs L' H', Ex (hide L H) (hide L' H') → F p = none → R K M P (upd F p (.lst vs)) L' ρ' σ H' → RpAll K (hide L' H') vs ds → Q (.ref p) H'
structure PN (X : Cx) (M : Mk0) (e : Expr) (f : FN) : Prop where
  pe : PE X e (DNw X.k0 M f)
  mono : ∀ ρ k k', (∀ d ρ', k d ρ' → k' d ρ') → f ρ k → f ρ k'
theorem filter_ne {L : List Addr} {p : Addr} : p ∉ (L.filter fun a => decide (a ≠ p)) := fun h => of_decide_eq_true (List.mem_filter.mp h).2 rfl
/-- what was the def's own, as data -/
def ow : Ow → D
  | .l xs => .list xs
  | .d _ ps => .dict ps
  | .o _ C ps => .dict ((.list [], .int (C : Nat)) :: ps)
theorem OwAt.rp {K : Fr0} {H : Hp} {p : Addr} {u : HO} (hp : H p = some u) : ∀ {c : Ow}, OwAt K H p u c → Rp K H (.ref p) (ow c)
  | .l _, ⟨vs, h1, h2⟩ => .lst (.inl (.inl (by rw [hp, h1]))) h2
  | .d true _, ⟨o, xs, h1, h2⟩ => .dctN (by rw [hp, h1]) h2
  | .d false _, ⟨o, xs, h1, h2⟩ => .dct (by rw [hp, h1]) h2
  | .o _ _ _, ⟨_, dx, fs, h1, h2⟩ => .obj (by rw [hp, h1]) h2
theorem reveal_own {K : Fr0} {M : Mk0} {P : Option Addr} {F : Hp} {L L' : List Addr} {ρ : Rho} {σ : L2.St} {H H' : Hp} {p : Addr} {u : HO} {c : Ow} (e : Ex (hide L H) (hide L' H')) (hF : F p = none)
    (r : R K M P (upd F p u) L' ρ σ H') (hd : OwAt K (hide L' H') p u c) :
    ∃ L2, Ex (hide L H) (hide L2 H') ∧ R K M P F L2 ρ σ H' ∧ Rp K (hide L2 H') (.ref p) (ow c) ∧ hide L2 H' p = some u := by
  have ex : Ex (hide L' H') (hide (L'.filter fun a => decide (a ≠ p)) H') := hide_sub fun a ha => (List.mem_filter.mp ha).1
  have see : hide (L'.filter fun a => decide (a ≠ p)) H' p = some u := hide_some.mpr ⟨filter_ne, r.pinned.1⟩
  exact ⟨_, e.trans ex, r.reveal hF, (hd.up ex).rp see, see⟩
/-- a new list as data, still seen -/
theorem reveal_at {K : Fr0} {M : Mk0} {P : Option Addr} {F : Hp} {L L' : List Addr} {ρ : Rho} {σ : L2.St} {H H' : Hp} {p : Addr} {vs : List V} {ds : List D} (e : Ex (hide L H) (hide L' H')) (hF : F p = none)
    (r : R K M P (upd F p (.lst vs)) L' ρ σ H') (hd : RpAll K (hide L' H') vs ds) :
    ∃ L2, Ex (hide L H) (hide L2 H') ∧ R K M P F L2 ρ σ H' ∧ Rp K (hide L2 H') (.ref p) (.list ds) ∧ hide L2 H' p = some (.lst vs) := by
  have ex : Ex (hide L' H') (hide (L'.filter fun a => decide (a ≠ p)) H') := hide_sub fun a ha => (List.mem_filter.mp ha).1
  have see : hide (L'.filter fun a => decide (a ≠ p)) H' p = some (HO.lst vs) := hide_some.mpr ⟨filter_ne, r.pinned.1⟩
  exact ⟨_, e.trans ex, r.reveal hF, .lst (.inl (.inl see)) (dpa_ex ex _ _ hd), see⟩
/-- a new list as data -/
theorem reveal_rp {K : Fr0} {M : Mk0} {P : Option Addr} {F : Hp} {L L' : List Addr} {ρ : Rho} {σ : L2.St} {H H' : Hp} {p : Addr} {vs : List V} {ds : List D} (e : Ex (hide L H) (hide L' H')) (hF : F p = none)
    (r : R K M P (upd F p (.lst vs)) L' ρ σ H') (hd : RpAll K (hide L' H') vs ds) :
    ∃ L2, Ex (hide L H) (hide L2 H') ∧ R K M P F L2 ρ σ H' ∧ Rp K (hide L2 H') (.ref p) (.list ds) := by
  obtain ⟨L2, h1, h2, h3, _⟩ := reveal_at e hF r hd
  exact ⟨L2, h1, h2, h3⟩
def fOfN (f : FN) : FE := fun ρ k => f ρ fun ds ρ1 => k (.list ds) ρ1
section
variable {X : Cx} {M : Mk0} {a b c e o tg iter : Expr} {es rest : List Expr} {fa fb fc : FE} {fl : FL} {ft fu : FT} {fn : FN} {pos : Pos}
theorem dOfN (mf : ∀ ρ k k', (∀ d ρ', k d ρ' → k' d ρ') → fn ρ k → fn ρ k') (σ : L2.St) (H : Hp) (Q : VK) (h : DE X.k0 M (fOfN fn) σ H Q) : DNw X.k0 M fn σ H Q := by
  obtain ⟨P, F, L, ρ, r, k⟩ := h
  refine ⟨P, F, L, ρ, r, mf _ _ _ (fun ds ρ1 q p vs L1 H1 e1 hF r1 d1 => ?_) k⟩
  obtain ⟨L2, e2, r2, d2⟩ := reveal_rp e1 hF r1 d1
  exact q (.ref p) L2 H1 e2 r2 d2
theorem pd_ofN (h : PN X M e fn) : PD X M e (fOfN fn) := ⟨PE.wk h.pe (dOfN h.mono), fun ρ k k' g q => h.mono _ _ _ (fun ds ρ1 q => g _ _ q) q⟩
/-- what gives a new list at a free address -/
theorem new_pin {K : Fr0} {P : Option Addr} {F : Hp} {L : List Addr} {ρ : Rho} {σ : L2.St} {H : Hp} (r : R K M P F L ρ σ H) {vs : List V} {ds : List D} (d : RpAll K (hide L H) vs ds) {p : Addr} (hp : H p = none) :
    Ex (hide L H) (hide (p :: L) (upd H p (.lst vs))) ∧ F p = none ∧ R K M P (upd F p (.lst vs)) (p :: L) ρ σ (upd H p (.lst vs)) ∧ RpAll K (hide (p :: L) (upd H p (.lst vs))) vs ds := by
  have ex : Ex (hide L H) (hide (p :: L) (upd H p (.lst vs))) := fun a b hb => by
    obtain ⟨h3, h4⟩ := hide_some.mp hb
    have n : a ≠ p := ne_of_none h4 hp
    exact hide_some.mpr ⟨fun z => by
      rcases List.mem_cons.mp z with z | z
      · exact n z
      · exact h3 z, by rw [upd_ne n]; exact h4⟩
  refine ⟨ex, ?_, r.pinNew hp, dpa_ex ex _ _ d⟩
  cases q : F p with
  | none => rfl
  | some o =>
    have := (r.fr p o q).1
    rw [hp] at this
    cases this
def fnLst (fl : FL) : FN := fun ρ k => fl ρ fun ds ρ1 => ds.length ≤ 100000 ∧ k ds ρ1
theorem pn_lst (h : PDL X M es fl) : PN X M (.List es pos) (fnLst fl) := by
  refine ⟨PE.wk (pe_lst h.pa) fun σ H Q ⟨P, F, L, ρ, r, k⟩ => ?_, fun ρ k k' g q => h.mono _ _ _ (fun ds ρ1 q => ⟨q.1, g _ _ q.2⟩) q⟩
  refine ⟨P, F, L, ρ, r, h.mono _ _ _ (fun ds ρ1 q vs L1 H1 e1 r1 d1 => ⟨Evl.sz_of (by rw [dpa_len d1]; exact q.1), fun p hp => ?_⟩) k⟩
  obtain ⟨e2, hF, r2, d2⟩ := new_pin r1 d1 hp
  exact q.2 p vs _ _ (e1.trans e2) hF r2 d2
/-- a built-in type or function that makes a list of its argument -/
def RN1 (K : Fr0) (r : V → Hp → VK → Prop) (g : D → Option (List D)) : Prop := ∀ (L : List Addr) (H : Hp) (x : V) (dx : D) (ds : List D) (Q : VK), Rp K (hide L H) x dx → g dx = some ds →
  (∀ p vs, H p = none → RpAll K (hide L H) vs ds → Q (.ref p) (upd H p (.lst vs))) → r x H Q
def fn1 (g : D → Option (List D)) (fa : FE) : FN := fun ρ k => fa ρ fun d ρ1 => ∃ ds, g d = some ds ∧ k ds ρ1
theorem dn1 {r : V → Hp → VK → Prop} {g : D → Option (List D)} (hg : RN1 X.k0 r g) (ma : ∀ ρ k k', (∀ d ρ', k d ρ' → k' d ρ') → fa ρ k → fa ρ k') (σ : L2.St) (H : Hp) (Q : VK) (h : DNw X.k0 M (fn1 g fa) σ H Q) :
    DE X.k0 M fa σ H fun x H1 => r x H1 Q := by
  obtain ⟨P, F, L, ρ, r0, k⟩ := h
  refine ⟨P, F, L, ρ, r0, ma _ _ _ (fun d ρ1 ⟨ds, hd, q⟩ v L1 H1 e1 r1 d1 => ?_) k⟩
  refine hg L1 H1 v d ds Q d1 hd fun p vs hp hv => ?_
  obtain ⟨e2, hF, r2, d2⟩ := new_pin r1 hv hp
  exact q p vs _ _ (e1.trans e2) hF r2 d2
theorem pn_t1 {x : Str} {p : Pos} {id : String} {r : List V → Hp → VK → Prop} {g : D → Option (List D)} (hc : CallR X (.type id) r) (hg' : RN1 X.k0 (fun x => r [x]) g) (hg : Gl X x) (hm : X.mg x = none) (hv : bootBuiltins x = some (.type id)) (ha : PD X M a fa)
    (hn : x ≠ "__name__" := by decide) (hdb : (x == ("__debug__" : Str)) = false := by decide) (hs : starEach [a] X.env = (false, eval a X.env) :: starEach [] X.env := by rfl) :
    PN X M (.Call (.Name x p) [a] [] pos) (fn1 g fa) := by
  refine ⟨PE.wk (pe_callTy hc hg hm hv (pa_cons ha.pe pa_nil hs) hn hdb hs) fun σ H Q h => dn1 (r := fun x => r [x]) hg' ha.mono σ H Q h, fun ρ k k' g q => ha.mono _ _ _ (fun d ρ1 ⟨ds, h1, h2⟩ => ⟨ds, h1, g _ _ h2⟩) q⟩
theorem pn_b1 {x : Str} {p : Pos} {id : String} {r : List V → Hp → VK → Prop} {g : D → Option (List D)} (hc : CallR X (.builtin id) r) (hg' : RN1 X.k0 (fun x => r [x]) g) (hg : Gl X x) (hm : X.mg x = none) (hv : bootBuiltins x = some (.builtin id)) (ha : PD X M a fa)
    (hn : x ≠ "__name__" := by decide) (hdb : (x == ("__debug__" : Str)) = false := by decide) (hs : starEach [a] X.env = (false, eval a X.env) :: starEach [] X.env := by rfl) :
    PN X M (.Call (.Name x p) [a] [] pos) (fn1 g fa) := by
  refine ⟨PE.wk (pe_callB hc hg hm hv (pa_cons ha.pe pa_nil hs) hn hdb hs) fun σ H Q h => dn1 (r := fun x => r [x]) hg' ha.mono σ H Q h, fun ρ k k' g q => ha.mono _ _ _ (fun d ρ1 ⟨ds, h1, h2⟩ => ⟨ds, h1, g _ _ h2⟩) q⟩
def nList : D → Option (List D)
  | .list xs => some xs
  | .tuple xs => some xs
  | _ => none
def nSorted : D → Option (List D)
  | .list xs => (intsD xs).map fun ns => (isort ns).map PyData.int
  | _ => none
theorem rn_list {K : Fr0} : RN1 K (fun x H Q => ∃ p ys, [x] = [V.ref p] ∧ (SqL K.f H p ys ∨ SqT K.f H p ys) ∧ ∀ l, H l = none → Q (.ref l) (upd H l (.lst ys))) nList := by
  intro L H x dx ds Q hx hg k
  cases dx with
  | list xs =>
    cases hg
    obtain ⟨a, vs, rfl, h1, h2⟩ := rp_list hx
    exact ⟨a, vs, rfl, .inl h1, fun l hl => k l vs hl h2⟩
  | tuple xs =>
    cases hg
    obtain ⟨a, vs, rfl, h1, h2⟩ := rp_tuple hx
    exact ⟨a, vs, rfl, .inr h1, fun l hl => k l vs hl h2⟩
  | none => cases hg
  | bool _ => cases hg
  | int _ => cases hg
  | str _ => cases hg
  | dict _ => cases hg
theorem rn_sorted {K : Fr0} : RN1 K (fun x => rSortedI K.f [x]) nSorted := by
  intro L H x dx ds Q hx hg k
  cases dx with
  | list xs =>
    unfold nSorted at hg
    simp only at hg
    cases e : intsD xs with
    | none => rw [e] at hg; cases hg
    | some ns =>
      rw [e] at hg
      cases hg
      obtain ⟨a, vs, rfl, h1, h2⟩ := rp_list hx
      rw [intsD_eq e] at h2
      rw [dpa_ints_eq h2] at h1
      refine ⟨a, ns, rfl, h1, fun ns' p hp hs hn => ?_⟩
      rw [isort_of hp hs]
      exact k p _ hn (dpa_ints _)
  | tuple _ => cases hg
  | none => cases hg
  | bool _ => cases hg
  | int _ => cases hg
  | str _ => cases hg
  | dict _ => cases hg

/-! ### targets -/
/-- only the slots of vs changed -/
def OnlyAt (vs : List Nat) (σ σ' : L2.St) : Prop := σ'.length = σ.length ∧ ∀ i, i ∉ vs → σ'[i]? = σ[i]?
theorem OnlyAt.refl {vs : List Nat} {σ : L2.St} : OnlyAt vs σ σ := ⟨rfl, fun _ _ => rfl⟩
theorem OnlyAt.trans {vs : List Nat} {σ σ1 σ2 : L2.St} (a : OnlyAt vs σ σ1) (b : OnlyAt vs σ1 σ2) : OnlyAt vs σ σ2 := ⟨b.1.trans a.1, fun i h => (b.2 i h).trans (a.2 i h)⟩
theorem OnlyAt.mono {vs ws : List Nat} {σ σ1 : L2.St} (a : OnlyAt vs σ σ1) (h : ∀ i ∈ vs, i ∈ ws) : OnlyAt ws σ σ1 := ⟨a.1, fun i g => a.2 i fun z => g (h i z)⟩
theorem wipe_get (σ : L2.St) : ∀ (vs : List Nat) (i : Nat), (wipe σ vs)[i]? = if i ∈ vs then (if i < σ.length then some none else none) else σ[i]?
  | [], i => by simp [wipe]
  | v :: vs, i => by
    unfold wipe
    by_cases e : v = i
    · subst e
      by_cases hl : v < σ.length
      · rw [List.getElem?_set_self (by rw [wipe_length]; exact hl), if_pos List.mem_cons_self, if_pos hl]
      · rw [if_pos List.mem_cons_self, if_neg hl]
        exact List.getElem?_eq_none (by simp [wipe_length]; omega)
    · rw [List.getElem?_set_ne e, wipe_get σ vs i]
      by_cases hm : i ∈ vs
      · rw [if_pos hm, if_pos (List.mem_cons_of_mem _ hm)]
      · rw [if_neg hm, if_neg]
        intro z
        rcases List.mem_cons.mp z with z | z
        · exact e z.symm
        · exact hm z
theorem wipe_only {vs : List Nat} {σ σ' : L2.St} (h : OnlyAt vs σ σ') : wipe σ' vs = wipe σ vs := by
  apply List.ext_getElem?
  intro i
  rw [wipe_get, wipe_get, h.1]
  by_cases hm : i ∈ vs
  · rw [if_pos hm, if_pos hm]
  · rw [if_neg hm, if_neg hm]
    exact h.2 i hm
theorem wipe_self (vs : List Nat) (σ : L2.St) : OnlyAt vs σ (wipe σ vs) := ⟨wipe_length σ vs, fun i h => by rw [wipe_get, if_neg h]⟩
def DGt (K : Fr0) (M : Mk0) (vs : List Nat) (f : FG) : TG := fun v σ H Q => ∃ P F L ρ d, R K M P F L ρ σ H ∧ Rp K (hide L H) v d ∧ f d ρ fun ρ' => ∀ σ' L' H', Ex (hide L H) (hide L' H') → R K M P F L' ρ' σ' H' → OnlyAt vs σ σ' → Q σ' H'
abbrev FGs := List D → Rho → (Rho → Prop) → Prop
def DGts (K : Fr0) (M : Mk0) (vs : List Nat) (f : FGs) : TGs := fun us σ H Q => ∃ P F L ρ ds, R K M P F L ρ σ H ∧ RpAll K (hide L H) us ds ∧ f ds ρ fun ρ' => ∀ σ' L' H', Ex (hide L H) (hide L' H') → R K M P F L' ρ' σ' H' → OnlyAt vs σ σ' → Q σ' H'
structure PG1 (X : Cx) (M : Mk0) (tg : Expr) (vs : List Nat) (f : FG) : Prop where
  pg : PG X tg (DGt X.k0 M vs f)
  mono : ∀ d ρ k k', (∀ ρ', k ρ' → k' ρ') → f d ρ k → f d ρ k'
structure PGn (X : Cx) (M : Mk0) (ts : List Expr) (n : Nat) (vs : List Nat) (f : FGs) : Prop where
  pg : PGs X ts (DGts X.k0 M vs f)
  mono : ∀ d ρ k k', (∀ ρ', k ρ' → k' ρ') → f d ρ k → f d ρ k'
theorem PGs.wk {ts : List Expr} {t t' : TGs} (h : PGs X ts t) (w : ∀ v σ H Q, t' v σ H Q → t v σ H Q) : PGs X ts t' := ⟨fun pins s σ H v u Q I r q => h.run pins s σ H v u Q I r (w v σ H Q q)⟩
def fgN (i : Nat) : FG := fun d ρ k => k (ρ.set i (.d d))
theorem pg1_name {i : Nat} {x : Str} (h : PG X (.Name x pos) (gName i)) : PG1 X M (.Name x pos) [i] (fgN i) := by
  refine ⟨PG.wk h fun v σ H Q ⟨P, F, L, ρ, d, r, hd, k⟩ => ?_, fun d ρ k k' g q => g _ q⟩
  refine k (σ.set i (some v)) L H (Ex.refl _) (r.setD i (.d d) (some v) ⟨v, rfl, hd⟩ fun xs z => nomatch z) ⟨by simp, fun j hj => ?_⟩
  exact List.getElem?_set_ne fun z => hj (by rw [z]; exact List.mem_singleton.mpr rfl)
def fgNil : FGs := fun ds ρ k => ds = [] ∧ k ρ
def fgCons (g : FG) (gs : FGs) : FGs := fun ds ρ k => ∃ d r, ds = d :: r ∧ g d ρ fun ρ1 => gs r ρ1 k
theorem pgn_nil : PGn X M [] 0 [] fgNil := by
  refine ⟨PGs.wk pgs_nil fun us σ H Q ⟨P, F, L, ρ, ds, r, hd, e, k⟩ => ?_, fun d ρ k k' g q => ⟨q.1, g _ q.2⟩⟩
  subst e
  cases hd
  exact ⟨rfl, k σ L H (Ex.refl _) r OnlyAt.refl⟩
theorem pgn_cons {n : Nat} {vs ws : List Nat} {g : FG} {gs : FGs} (h : PG1 X M tg vs g) (hs : PGn X M es n ws gs) (ht : PGs X (tg :: es) (gCons (DGt X.k0 M vs g) (DGts X.k0 M ws gs))) : PGn X M (tg :: es) (n + 1) (vs ++ ws) (fgCons g gs) := by
  refine ⟨PGs.wk ht fun us σ H Q ⟨P, F, L, ρ, ds, r, hd, d, rest, e, k⟩ => ?_, fun ds ρ k k' g' ⟨d, r, e, q⟩ => ⟨d, r, e, h.mono _ _ _ _ (fun ρ1 q => hs.mono _ _ _ _ g' q) q⟩⟩
  subst e
  cases hd with
  | cons h1 h2 =>
    refine ⟨_, _, rfl, P, F, L, ρ, d, r, h1, h.mono _ _ _ _ (fun ρ1 q σ1 L1 H1 e1 r1 o1 => ?_) k⟩
    refine ⟨P, F, L1, ρ1, rest, r1, dpa_ex e1 _ _ h2, hs.mono _ _ _ _ (fun ρ2 q σ2 L2 H2 e2 r2 o2 => ?_) q⟩
    exact q σ2 L2 H2 (e1.trans e2) r2 ((o1.mono fun i z => List.mem_append_left _ z).trans (o2.mono fun i z => List.mem_append_right _ z))
def fgTup (n : Nat) (gs : FGs) : FG := fun d ρ k => ∃ ds, d = .tuple ds ∧ ds.length = n ∧ gs ds ρ k
theorem pg1_tup {n k : Nat} {vs : List Nat} {gs : FGs} (h : PGn X M es n vs gs) (ht : PG X (.Tuple es k pos) (gTup X.K n (DGts X.k0 M vs gs))) : PG1 X M (.Tuple es k pos) vs (fgTup n gs) := by
  refine ⟨PG.wk ht fun v σ H Q ⟨P, F, L, ρ, d, r, hd, ds, e, hl, k⟩ => ?_, fun d ρ k k' g ⟨ds, e, hl, q⟩ => ⟨ds, e, hl, h.mono _ _ _ _ g q⟩⟩
  subst e
  obtain ⟨a, us, rfl, h1, h2⟩ := rp_tuple hd
  exact ⟨a, us, rfl, h1, by rw [dpa_len h2]; exact hl, P, F, L, ρ, ds, r, h2, k⟩
end
end PD

namespace PD
open PySem L2
open Evl (Ex)
section
variable {X : Cx} {M : Mk0} {a b c e o tg iter : Expr} {es rest : List Expr} {fa fb fc : FE} {fl : FL} {ft fu : FT} {fn : FN} {fs fs' : FS} {st : Stmt} {sts : List Stmt} {pos : Pos}
/-! ### statements -/
def fsNext : FS := fun ρ P => P.nx ρ
def fsSeq (f g : FS) : FS := fun ρ P => f ρ { P with nx := fun ρ' => g ρ' P }
theorem pds_nil : PDs X M [] fsNext := ⟨PSs.wk pss_nil fun D σ H ⟨P, F, L, ρ, r, k⟩ => k σ L H (Ex.refl _) r, fun ρ k k' h q => h.nx _ q⟩
theorem fsSeq_mono {f g : FS} (mf : ∀ ρ k k', Post.Le k k' → f ρ k → f ρ k') (mg : ∀ ρ k k', Post.Le k k' → g ρ k → g ρ k') (ρ : Rho) (k k' : Post) (h : Post.Le k k') (q : fsSeq f g ρ k) : fsSeq f g ρ k' :=
  mf ρ { k with nx := fun ρ' => g ρ' k } { k' with nx := fun ρ' => g ρ' k' } ⟨fun ρ1 q => mg ρ1 k k' h q, h.rt, h.bk, h.ct⟩ q
theorem postLe_frz {K : Fr0} {P : Option Addr} {F : Hp} {L L1 : List Addr} {H H1 : Hp} (e1 : Ex (hide L H) (hide L1 H1)) (D : Ends) : Post.Le (postOf K M P F L H D) (postOf K M P F L1 H1 D) :=
  ⟨fun ρ2 q σ2 L2 H2 e2 r2 => q σ2 L2 H2 (e1.trans e2) r2, fun d ρ2 q v σ2 L2 H2 e2 r2 d2 => q v σ2 L2 H2 (e1.trans e2) r2 d2, fun ρ2 q σ2 L2 H2 e2 r2 => q σ2 L2 H2 (e1.trans e2) r2, fun ρ2 q σ2 L2 H2 e2 r2 => q σ2 L2 H2 (e1.trans e2) r2⟩
theorem pds_cons (h : PDS X M st fs) (hs : PDs X M sts fs') : PDs X M (st :: sts) (fsSeq fs fs') := by
  refine ⟨PSs.wk (pss_cons h.ps hs.ps) fun D σ H ⟨P, F, L, ρ, r, k⟩ => ?_, fsSeq_mono h.mono hs.mono⟩
  refine ⟨P, F, L, ρ, r, h.mono ρ _ (postOf X.k0 M P F L H { D with nx := DS X.k0 M fs' D }) ?_ k⟩
  refine ⟨fun ρ1 q σ1 L1 H1 e1 r1 => ?_, fun d ρ1 q => q, fun ρ1 q => q, fun ρ1 q => q⟩
  exact ⟨P, F, L1, ρ1, r1, hs.mono _ _ _ (postLe_frz e1 D) q⟩
theorem pds_one (h : PDS X M st fs) : PDs X M [st] fs := ⟨pss_one h.ps, h.mono⟩
def fsNever : FS := fun _ _ => False
theorem pds_never : PDS X M st fsNever := ⟨PS.wk ps_never fun D σ H ⟨_, _, _, _, _, k⟩ => k, fun _ _ _ _ q => q⟩
theorem pds_pass : PDS X M (.Pass pos) fsNext := ⟨PS.wk ps_pass fun D σ H ⟨P, F, L, ρ, r, k⟩ => k σ L H (Ex.refl _) r, fun ρ k k' h q => h.nx _ q⟩
def fsBreak : FS := fun ρ P => P.bk ρ
def fsCont : FS := fun ρ P => P.ct ρ
theorem pds_break : PDS X M (.Break pos) fsBreak := ⟨PS.wk ps_break fun D σ H ⟨P, F, L, ρ, r, k⟩ => k σ L H (Ex.refl _) r, fun ρ k k' h q => h.bk _ q⟩
theorem pds_cont : PDS X M (.Continue pos) fsCont := ⟨PS.wk ps_continue fun D σ H ⟨P, F, L, ρ, r, k⟩ => k σ L H (Ex.refl _) r, fun ρ k k' h q => h.ct _ q⟩
theorem pds_doc {x : Str} {j : Nat} {p2 : Pos} : PDS X M (.Expr (.Constant (.str x) j p2) pos) fsNext := ⟨PS.wk ps_doc fun D σ H ⟨P, F, L, ρ, r, k⟩ => k σ L H (Ex.refl _) r, fun ρ k k' h q => h.nx _ q⟩
def fsRet (fa : FE) : FS := fun ρ P => fa ρ P.rt
theorem pds_ret (h : PD X M e fa) : PDS X M (.Return (some e) pos) (fsRet fa) := by
  refine ⟨PS.wk (ps_ret h.pe) fun D σ H ⟨P, F, L, ρ, r, k⟩ => ?_, fun ρ k k' g q => h.mono _ _ _ g.rt q⟩
  exact ⟨P, F, L, ρ, r, h.mono _ _ _ (fun d ρ1 q v L1 H1 e1 r1 d1 => q v σ L1 H1 e1 r1 d1) k⟩
def fsDrop (fa : FE) : FS := fun ρ P => fa ρ fun _ ρ1 => P.nx ρ1
theorem pds_expr (h : PD X M e fa) (hs : swapsWith e none pos.line X.env = pure false := by rfl) : PDS X M (.Expr e pos) (fsDrop fa) := by
  refine ⟨PS.wk (ps_expr h.pe hs) fun D σ H ⟨P, F, L, ρ, r, k⟩ => ?_, fun ρ k k' g q => h.mono _ _ _ (fun _ ρ1 q => g.nx _ q) q⟩
  exact ⟨P, F, L, ρ, r, h.mono _ _ _ (fun d ρ1 q v L1 H1 e1 r1 d1 => q σ L1 H1 e1 r1) k⟩
def fsIf (ft : FT) (f g : FS) : FS := fun ρ P => ft ρ fun b ρ1 => if b = true then f ρ1 P else g ρ1 P
theorem pds_if {ss ts : List Stmt} (ht : PDT X M c ft) (hf : PDs X M ss fs) (hg : PDs X M ts fs') : PDS X M (.If c ss ts pos) (fsIf ft fs fs') := by
  refine ⟨PS.wk (ps_if ht.pt hf.ps hg.ps) fun D σ H ⟨P, F, L, ρ, r, k⟩ => ?_, fun ρ k k' h q => ht.mono _ _ _ (fun t ρ1 q => by
    cases t with
    | true => exact hf.mono _ _ _ h q
    | false => exact hg.mono _ _ _ h q) q⟩
  refine ⟨P, F, L, ρ, r, ht.mono _ _ _ (fun t ρ1 q L1 H1 e1 r1 => ?_) k⟩
  have le : ∀ D : Ends, Post.Le (postOf X.k0 M P F L H D) (postOf X.k0 M P F L1 H1 D) := fun D => ⟨fun ρ2 q σ2 L2 H2 e2 r2 => q σ2 L2 H2 (e1.trans e2) r2, fun d ρ2 q v σ2 L2 H2 e2 r2 d2 => q v σ2 L2 H2 (e1.trans e2) r2 d2, fun ρ2 q σ2 L2 H2 e2 r2 => q σ2 L2 H2 (e1.trans e2) r2, fun ρ2 q σ2 L2 H2 e2 r2 => q σ2 L2 H2 (e1.trans e2) r2⟩
  cases t with
  | true => exact ⟨P, F, L1, ρ1, r1, hf.mono _ _ _ (le D) q⟩
  | false => exact ⟨P, F, L1, ρ1, r1, hg.mono _ _ _ (le D) q⟩
/-- target = value, of data -/
def fsAsg (fa : FE) (g : FG) : FS := fun ρ P => fa ρ fun d ρ1 => g d ρ1 P.nx
theorem fsAsg_mono {g : FG} (ma : ∀ ρ k k', (∀ d ρ', k d ρ' → k' d ρ') → fa ρ k → fa ρ k') (mg : ∀ d ρ k k', (∀ ρ', k ρ' → k' ρ') → g d ρ k → g d ρ k') (ρ : Rho) (k k' : Post) (h : Post.Le k k') (q : fsAsg fa g ρ k) : fsAsg fa g ρ k' :=
  ma _ _ _ (fun d ρ1 q => mg _ _ _ _ h.nx q) q
theorem dAsg {g : FG} {vs : List Nat} (ma : ∀ ρ k k', (∀ d ρ', k d ρ' → k' d ρ') → fa ρ k → fa ρ k') (mg : ∀ d ρ k k', (∀ ρ', k ρ' → k' ρ') → g d ρ k → g d ρ k') (D : Ends) (σ : L2.St) (H : Hp) (h : DS X.k0 M (fsAsg fa g) D σ H) :
    tAsg (DE X.k0 M fa) (DGt X.k0 M vs g) D σ H := by
  obtain ⟨P, F, L, ρ, r, k⟩ := h
  refine ⟨P, F, L, ρ, r, ma _ _ _ (fun d ρ1 q v L1 H1 e1 r1 d1 => ?_) k⟩
  exact ⟨P, F, L1, ρ1, d, r1, d1, mg _ _ _ _ (fun ρ2 q σ2 L2 H2 e2 r2 _ => q σ2 L2 H2 (e1.trans e2) r2) q⟩
theorem pds_asg {g : FG} {vs : List Nat} (ha : PD X M e fa) (hg : PG1 X M tg vs g) (hs : swapsWithSole [tg] e pos.line X.env = pure false := by rfl) (hw : swappedStores [tg] e X.env = pure none := by rfl)
    (h1 : (assignEach [tg] X.env).map (·.2) = [assign tg X.env] := by rfl) : PDS X M (.Assign [tg] e pos) (fsAsg fa g) :=
  ⟨PS.wk (ps_asg ha.pe hg.pg hs hw h1) (dAsg ha.mono hg.mono), fsAsg_mono ha.mono hg.mono⟩
/-- x = a new list, that the def goes on filling -/
def fsOwn (i : Nat) (fn : FN) : FS := fun ρ P => fn ρ fun ds ρ1 => P.nx (ρ1.set i (.own ds))
theorem dOwn {i : Nat} (mn : ∀ ρ k k', (∀ d ρ', k d ρ' → k' d ρ') → fn ρ k → fn ρ k') (D : Ends) (σ : L2.St) (H : Hp) (h : DS X.k0 M (fsOwn i fn) D σ H) : tAsg (DNw X.k0 M fn) (gName i) D σ H := by
  obtain ⟨P, F, L, ρ, r, k⟩ := h
  refine ⟨P, F, L, ρ, r, mn _ _ _ (fun ds ρ1 q p vs L1 H1 e1 hF r1 d1 => ?_) k⟩
  exact q _ L1 H1 e1 (r1.toOwn hF d1 i)
theorem pds_own {i : Nat} {x : Str} {px : Pos} (hn : PN X M e fn) (hg : PG X (.Name x px) (gName i)) (hs : swapsWithSole [.Name x px] e pos.line X.env = pure false := by rfl) (hw : swappedStores [.Name x px] e X.env = pure none := by rfl)
    (h1 : (assignEach [.Name x px] X.env).map (·.2) = [assign (.Name x px) X.env] := by rfl) : PDS X M (.Assign [.Name x px] e pos) (fsOwn i fn) :=
  ⟨PS.wk (ps_asg hn.pe hg hs hw h1) (dOwn hn.mono), fun ρ k k' h q => hn.mono _ _ _ (fun ds ρ1 q => h.nx _ q) q⟩
/-- x.append(e), x a list of the def's own -/
def fsApp (i : Nat) (fa : FE) : FS := fun ρ P => fa ρ fun d ρ1 => ∃ xs : List D, ρ1.sl[i]? = some (.own xs) ∧ xs.length < 1000000 ∧ P.nx (ρ1.set i (.own (xs ++ [d])))
theorem set_set_id {l : L2.St} {i : Nat} {v : Option V} (h : l[i]? = some v) : l.set i v = l := by
  apply List.ext_getElem?
  intro j
  by_cases e : i = j
  · subst e
    rw [List.getElem?_set_self (List.getElem?_eq_some_iff.mp h).1, h]
  · rw [List.getElem?_set_ne e]
theorem pds_app {i : Nat} {x : Str} {px pa pc : Pos} (ha : PD X M e fa)
    (hp : PE X (.Call (.Attribute (.Name x px) "append" pa) [e] [] pc) (tBM X.K "list" rAppend (tVar i) (tCons (DE X.k0 M fa) tNil)))
    (hs : swapsWith (.Call (.Attribute (.Name x px) "append" pa) [e] [] pc) none pos.line X.env = pure false := by rfl) :
    PDS X M (.Expr (.Call (.Attribute (.Name x px) "append" pa) [e] [] pc) pos) (fun ρ P => (∃ xs : List D, ρ.sl[i]? = some (.own xs)) ∧ fsApp i fa ρ P) := by
  refine ⟨PS.wk (ps_expr hp hs) fun D σ H ⟨P, F, L, ρ, r, ⟨xs0, h0⟩, k⟩ => ?_, fun ρ k k' h q => ⟨q.1, ha.mono _ _ _ (fun d ρ1 ⟨xs, h1, h2, q⟩ => ⟨xs, h1, h2, h.nx _ q⟩) q.2⟩⟩
  obtain ⟨l, u, g1, g2, g3, vs, g5, g4⟩ := r.getOwn h0
  subst g5
  refine ⟨.ref l, g1, ?_⟩
  refine ⟨.inl ⟨rfl, vs, .inl (.inl g3)⟩, ?_⟩
  refine ⟨P, F, L, ρ, r, ha.mono _ _ _ (fun d ρ1 ⟨xs, h1, h2, q⟩ v L1 H1 e1 r1 d1 => ?_) k⟩
  obtain ⟨p, us, f1, f2, f3, f4, f5, f6⟩ := r1.ofOwn h1
  rw [g1] at f1
  cases f1
  have hl := dpa_len f5
  refine ⟨l, us, v, rfl, rfl, f2, by rw [sizeLine_eq]; omega, ?_⟩
  have hh := hide_repin (H := H1) (o' := HO.lst (us ++ [v])) f4
  have r2 := f6.repin (o' := .lst (us ++ [v]))
  have r3 := r2.toOwn f3 (by rw [hh]; exact dpa_app f5 (.cons d1 .nil)) i
  rw [set_set_id g1] at r3
  have es : (ρ1.set i .no).set i (.own (xs ++ [d])) = ρ1.set i (.own (xs ++ [d])) := by
    show Rho.mk ((ρ1.sl.set i .no).set i (.own (xs ++ [d]))) ρ1.n = _
    rw [List.set_set]
  rw [es] at r3
  exact q σ L1 _ (by rw [hh]; exact e1) r3
/-- a list of the def's own is no longer filled -/
def frz (i : Nat) (ρ : Rho) : Rho := match ρ.sl[i]? with
  | some (.own c) => ρ.set i (.d (ow c))
  | _ => ρ
theorem R.freeze {K : Fr0} {P : Option Addr} {F : Hp} {L : List Addr} {ρ : Rho} {σ : L2.St} {H : Hp} (i : Nat) (r : R K M P F L ρ σ H) : ∃ L', Ex (hide L H) (hide L' H) ∧ R K M P F L' (PD.frz i ρ) σ H := by
  unfold PD.frz
  split
  · rename_i xs h
    obtain ⟨p, u, f1, f2, f3, f4, f5, f6⟩ := r.ofOwnC h
    obtain ⟨L2, e2, r2, d2, _⟩ := reveal_own (Ex.refl _) f3 f6 f5
    refine ⟨L2, e2, ?_⟩
    have r3 := r2.setD i (.d (ow xs)) (some (.ref p)) ⟨_, rfl, d2⟩ fun xs z => nomatch z
    rw [set_set_id f1] at r3
    have es : (ρ.set i .no).set i (.d (ow xs)) = ρ.set i (.d (ow xs)) := by
      show Rho.mk ((ρ.sl.set i .no).set i (.d (ow xs))) ρ.n = _
      rw [List.set_set]
    rw [es] at r3
    exact r3
  · exact ⟨L, Ex.refl _, r⟩
theorem pds_frz (i : Nat) (h : PDs X M sts fs) : PDs X M sts (fun ρ P => fs (frz i ρ) P) := by
  refine ⟨PSs.wk h.ps fun D σ H ⟨P, F, L, ρ, r, k⟩ => ?_, fun ρ k k' g q => h.mono _ _ _ g q⟩
  obtain ⟨L1, e1, r1⟩ := r.freeze i
  exact ⟨P, F, L1, _, r1, h.mono _ _ _ (postLe_frz e1 D) k⟩
theorem pds_frz1 (i : Nat) (h : PDS X M st fs) : PDS X M st (fun ρ P => fs (frz i ρ) P) := by
  refine ⟨PS.wk h.ps fun D σ H ⟨P, F, L, ρ, r, k⟩ => ?_, fun ρ k k' g q => h.mono _ _ _ g q⟩
  obtain ⟨L1, e1, r1⟩ := r.freeze i
  exact ⟨P, F, L1, _, r1, h.mono _ _ _ (postLe_frz e1 D) k⟩

/-! ### a list of one's own is lent to an expression whose value is flat -/
def dropOwn (s : Sl) : Sl := match s with
  | .own _ => .no
  | s => s
def lendR (i : Nat) (ρ : Rho) : Rho := ⟨(frz i ρ).sl.map dropOwn, ρ.n⟩
theorem bare_drop (l : List Sl) (n : Nat) : Bare ⟨l.map dropOwn, n⟩ := fun i xs h => by
  have h : (l.map dropOwn)[i]? = some (.own xs) := h
  rw [List.getElem?_map] at h
  cases e : l[i]? with
  | none => rw [e] at h; cases h
  | some s =>
    rw [e] at h
    cases s <;> cases h
theorem frz_n (i : Nat) (ρ : Rho) : (frz i ρ).n = ρ.n := by
  unfold frz
  split <;> rfl
/-- all lists of one's own set aside -/
theorem R.aside {K : Fr0} {P : Option Addr} {F : Hp} {L : List Addr} {ρ : Rho} {σ : L2.St} {H : Hp} (r : R K M P F L ρ σ H) : R K M P (keepF ρ σ F H) L ⟨ρ.sl.map dropOwn, ρ.n⟩ σ H := by
  refine r.frame (bare_drop _ _) rfl (by simp [r.len]) fun i s o h1 h2 => ?_
  have h1 : (ρ.sl.map dropOwn)[i]? = some s := h1
  rw [List.getElem?_map] at h1
  cases e : ρ.sl[i]? with
  | none => rw [e] at h1; cases h1
  | some t =>
    rw [e] at h1
    have q := r.sl i t o e h2
    cases t <;> (cases h1; first | trivial | exact q)
/-- what is hidden again behind the loan -/
def Lent (K : Fr0) (c : Option Sl) (L' L'' : List Addr) (H0 H' : Hp) : Prop := L'' = L' ∨ ∃ p u o, c = some (.own o) ∧ L'' = p :: L' ∧ hide L' H' p = some u ∧ OwAt K H0 p u o
theorem R.lend {K : Fr0} {P : Option Addr} {F : Hp} {L : List Addr} {ρ : Rho} {σ : L2.St} {H : Hp} (i : Nat) (r : R K M P F L ρ σ H) :
    ∃ F1 L1, R K M P F1 L1 (lendR i ρ) σ H ∧ ∀ ρc L' H', Ex (hide L1 H) (hide L' H') → R K M P F1 L' ρc σ H' → ∃ L'', Ex (hide L H) (hide L'' H') ∧ R K M P F L'' ⟨ρ.sl, ρc.n⟩ σ H' ∧ Lent K ρ.sl[i]? L' L'' (hide L H) H' := by
  by_cases hx : ∃ xs, ρ.sl[i]? = some (.own xs)
  · obtain ⟨xs, hx⟩ := hx
    obtain ⟨p, u, f1, f2, f3, f4, f5, f6⟩ := r.ofOwnC hx
    have ef : frz i ρ = ρ.set i (.d (ow xs)) := by
      unfold frz
      rw [hx]
    have en : (ρ.set i .no).n = ρ.n := rfl
    -- set aside, reveal p, give it to the slot
    have a1 := f6.aside
    -- p is still held: it is not own now
    have hno := f6.pinOwn
    have kF : keepF (ρ.set i .no) σ (upd F p u) H = upd (keepF (ρ.set i .no) σ F H) p u := by
      funext a
      by_cases ha : a = p
      · subst ha
        rw [keepF_not hno, upd_same, upd_same]
      · rw [upd_ne ha]
        by_cases ho : Own (ρ.set i .no) σ a
        · rw [keepF_own ho, keepF_own ho]
        · rw [keepF_not ho, keepF_not ho, upd_ne ha]
    rw [kF] at a1
    have kp : keepF (ρ.set i .no) σ F H p = none := by rw [keepF_not hno]; exact f3
    obtain ⟨L2, e2, r2, d2, hp⟩ := reveal_own (Ex.refl _) kp a1 f5
    have r3 := r2.setD i (.d (ow xs)) (some (.ref p)) ⟨_, rfl, d2⟩ fun xs z => nomatch z
    rw [set_set_id f1] at r3
    have es : (⟨(ρ.set i .no).sl.map dropOwn, (ρ.set i .no).n⟩ : Rho).set i (.d (ow xs)) = lendR i ρ := by
      unfold lendR
      rw [ef]
      show Rho.mk (((ρ.sl.set i .no).map dropOwn).set i (.d (ow xs))) ρ.n = Rho.mk ((ρ.sl.set i (.d (ow xs))).map dropOwn) ρ.n
      congr 1
      rw [List.map_set, List.map_set, List.set_set]
      rfl
    rw [es] at r3
    refine ⟨_, L2, r3, fun ρc L' H' ex rc => ?_⟩
    -- p's list is still there, seen
    have hp' := hide_some.mp (ex _ _ hp)
    -- hide p again
    have exL : Ex (hide L H) (hide (p :: L') H') := fun a u hu => by
      obtain ⟨g1, g2⟩ := hide_some.mp hu
      have ne : a ≠ p := fun z => g1 (by rw [z]; exact f4)
      obtain ⟨g3, g4⟩ := hide_some.mp (ex a u (e2 a u hu))
      exact hide_some.mpr ⟨fun z => by
        rcases List.mem_cons.mp z with z | z
        · exact ne z
        · exact g3 z, g4⟩
    refine ⟨p :: L', exL, ?_, .inr ⟨p, u, xs, hx, rfl, hide_some.mpr hp', f5⟩⟩
    -- rebuild
    refine ⟨r.len, fun j s o h1 h2 => ?_, fun a u h => ?_, fun a h => ?_, r.apart, r.ownF, fun q hq => ?_⟩
    · have q := r.sl j s o h1 h2
      cases s with
      | no => trivial
      | d x =>
        obtain ⟨v, g3, g4⟩ := q
        exact ⟨v, g3, dp_ex exL _ _ g4⟩
      | own ys =>
        obtain ⟨l, us, g3, g4, g5, g6⟩ := q
        by_cases hj : j = i
        · subst hj
          have ez : l = p := by
            rw [h2, g3] at f1
            cases f1
            rfl
          rw [ez, f2] at g5
          cases g5
          exact ⟨p, u, by rw [g3, ez], List.mem_cons_self, hp'.2, by rw [ez] at g6; exact g6.up exL⟩
        · have ho : Own (ρ.set i .no) σ l := ⟨j, ys, by
            rw [show (ρ.set i .no).sl = ρ.sl.set i .no from rfl, List.getElem?_set_ne (fun z => hj z.symm)]
            exact h1, by rw [h2, g3]⟩
          have hf := rc.fr l us (by rw [keepF_own ho]; exact g5)
          exact ⟨l, us, g3, List.mem_cons_of_mem _ hf.2, hf.1, g6.up exL⟩
      | st => exact q
      | raw v => exact q
      | exc a d fl => exact ⟨q.1, q.2.up exL⟩
    · have hno2 : ¬ Own (ρ.set i .no) σ a := fun ⟨j, ys, h1, h2⟩ => by
        have := f6.ownF j ys a h1 h2
        have hap : a ≠ p := fun z => by rw [z, upd_same] at this; cases this
        rw [upd_ne hap, h] at this
        cases this
      have q := rc.fr a u (by rw [keepF_not hno2]; exact h)
      exact ⟨q.1, List.mem_cons_of_mem _ q.2⟩
    · rcases List.mem_cons.mp h with z | z
      · rw [z]
        exact ⟨_, hp'.2⟩
      · exact rc.tr a z
    · obtain ⟨A, a1', a2', a3'⟩ := rc.m q hq
      have hA : ∀ a ∈ A, ¬ Own (ρ.set i .no) σ a := fun a ha ho => by
        have q := (a2' a ha).2
        rw [keepF_own ho] at q
        obtain ⟨j, ys, h1, h2⟩ := ho
        obtain ⟨l, us, g6, _, g8, _⟩ := f6.getOwn h1
        rw [h2] at g6
        cases g6
        rw [g8] at q
        cases q
      refine ⟨A, a1', fun a ha => ⟨List.mem_cons_of_mem _ (a2' a ha).1, ?_⟩, fun j ys l h1 h2 hl => ?_⟩
      · have q := (a2' a ha).2
        rw [keepF_not (hA a ha)] at q
        exact q
      · by_cases hj : j = i
        · subst hj
          rw [h2] at f1
          cases f1
          exact hp'.1 (a2' _ hl).1
        · exact hA l hl ⟨j, ys, by
            rw [show (ρ.set i .no).sl = ρ.sl.set i .no from rfl, List.getElem?_set_ne (fun z => hj z.symm)]
            exact h1, h2⟩
  · have ef : frz i ρ = ρ := by
      unfold frz
      split
      · rename_i xs h
        exact absurd ⟨xs, h⟩ hx
      · rfl
    refine ⟨_, L, by
      have := r.aside
      unfold lendR
      rw [ef]
      exact this, fun ρc L' H' ex rc => ⟨L', ex, r.back rc ex, .inl rfl⟩⟩
def ftLend (i : Nat) (ft : FT) : FT := fun ρ k => ft (lendR i ρ) fun b ρ' => k b ⟨ρ.sl, ρ'.n⟩
theorem pdt_lend (i : Nat) (h : PDT X M e ft) : PDT X M e (ftLend i ft) := by
  refine ⟨PT.wk h.pt fun σ H Q ⟨P, F, L, ρ, r, k⟩ => ?_, fun ρ k k' g q => h.mono _ _ _ (fun b ρ1 q => g _ _ q) q⟩
  obtain ⟨F1, L1, r1, back⟩ := r.lend i
  refine ⟨P, F1, L1, _, r1, h.mono _ _ _ (fun b ρ1 q L2 H2 e2 r2 => ?_) k⟩
  obtain ⟨L3, e3, r3, _⟩ := back ρ1 L2 H2 e2 r2
  exact q L3 H2 e3 r3
theorem flat_rp {K : Fr0} {H H' : Hp} {v : V} {d : D} (h : Rp K H v d) (f : flatD d = true) : Rp K H' v d := by
  cases h with
  | non => exact .non
  | bl b => exact .bl b
  | int b => exact .int b
  | str b => exact .str b
  | lst _ _ => cases f
  | tup _ _ => cases f
  | dct _ _ => cases f
  | dctN _ _ => cases f
  | obj _ _ => cases f
def fLend (i : Nat) (fa : FE) : FE := fun ρ k => fa (lendR i ρ) fun d ρ' => flatD d = true ∧ k d ⟨ρ.sl, ρ'.n⟩
theorem pd_lend (i : Nat) (h : PD X M e fa) : PD X M e (fLend i fa) := by
  refine ⟨PE.wk h.pe fun σ H Q ⟨P, F, L, ρ, r, k⟩ => ?_, fun ρ k k' g q => h.mono _ _ _ (fun b ρ1 q => ⟨q.1, g _ _ q.2⟩) q⟩
  obtain ⟨F1, L1, r1, back⟩ := r.lend i
  refine ⟨P, F1, L1, _, r1, h.mono _ _ _ (fun d ρ1 q v L2 H2 e2 r2 d2 => ?_) k⟩
  obtain ⟨L3, e3, r3, _⟩ := back ρ1 L2 H2 e2 r2
  exact q.2 v L3 H2 e3 r3 (flat_rp d2 q.1)
end
end PD

namespace PD
open PySem L2
open Evl (Ex)
/-- what an iterator gives: the data ds, one by one, whatever is made meanwhile -/
def Walks (K : Fr0) (J : It) (L : List Addr) (H : Hp) (ds : List D) : Prop :=
  ∀ L2 H2, Ex (hide L H) (hide L2 H2) → (∀ a ∈ L2, ∃ o, H2 a = some o) → ∀ i,
    (∀ d, ds[i]? = some d → J.go i H2 ∧ ∀ x H3, J.yld i H2 x H3 → Ex H2 H3 ∧ Rp K (hide L2 H3) x d) ∧ (ds.length ≤ i → J.stop i H2)
theorem Walks.mono {K : Fr0} {J : It} {L L' : List Addr} {H H' : Hp} {ds : List D} (w : Walks K J L H ds) (e : Ex (hide L H) (hide L' H')) : Walks K J L' H' ds := fun L2 H2 e2 tr => w L2 H2 (e.trans e2) tr
abbrev FI := Rho → (List D → Rho → Prop) → Prop
def DI (K : Fr0) (M : Mk0) (f : FI) : TI := fun σ H Q => ∃ P F L ρ, R K M P F L ρ σ H ∧ f ρ fun ds ρ' => ∀ J L' H', Ex (hide L H) (hide L' H') → R K M P F L' ρ' σ H' → Walks K J L' H' ds → Q J H'
structure PDI (X : Cx) (M : Mk0) (tg iter : Expr) (f : FI) : Prop where
  pi : PI X tg iter (DI X.k0 M f)
  mono : ∀ ρ k k', (∀ d ρ', k d ρ' → k' d ρ') → f ρ k → f ρ k'
def forD (g : FG) (fb : FS) : List D → Rho → Post → Prop
  | [], ρ, P => P.nx ρ
  | x :: xs, ρ, P => g x ρ fun ρ1 => fb ρ1 { nx := fun ρ' => forD g fb xs ρ' P, ct := fun ρ' => forD g fb xs ρ' P, bk := P.nx, rt := P.rt }
def whD (ft : FT) (fb : FS) (ρ : Rho) (P : Post) : Prop := ∃ W : Nat → Rho → Prop, (∃ m, W m ρ) ∧ ∀ m ρ, W m ρ →
  ft ρ fun b ρ1 => if b = true then fb ρ1 { nx := fun ρ' => ∃ m', m' < m ∧ W m' ρ', ct := fun ρ' => ∃ m', m' < m ∧ W m' ρ', bk := P.nx, rt := P.rt } else P.nx ρ1
def wipeR (vs : List Nat) (ρ : Rho) : Rho := ⟨vs.foldr (fun v l => l.set v .no) ρ.sl, ρ.n⟩
/-- a comprehension: what is made so far, one by one -/
def compD (g : FG) (ft : FT) (fe : FE) (vs : List Nat) : List D → List D → Rho → (List D → Rho → Prop) → Prop
  | [], acc, ρ, k => k acc ρ
  | x :: xs, acc, ρ, k => g x (wipeR vs ρ) fun ρ1 => ft ρ1 fun b ρ2 => if b = true then fe ρ2 fun y ρ3 => compD g ft fe vs xs (acc ++ [y]) ⟨ρ.sl, ρ3.n⟩ k else compD g ft fe vs xs acc ⟨ρ.sl, ρ2.n⟩ k
def ftYes : FT := fun ρ k => k true ρ
theorem R.wipe {K : Fr0} {M : Mk0} {P : Option Addr} {F : Hp} {L : List Addr} {ρ : Rho} {σ : L2.St} {H : Hp} (r : R K M P F L ρ σ H) : ∀ vs : List Nat, R K M P F L (wipeR vs ρ) (wipe σ vs) H
  | [] => r
  | v :: vs => (r.wipe vs).setD v .no none trivial fun xs z => nomatch z

section
variable {X : Cx} {M : Mk0} {a b c e o tg iter elt : Expr} {es rest ifs : List Expr} {fa fb fc fe : FE} {fl : FL} {ft fu : FT} {fn : FN} {fs fs' : FS} {fi : FI} {g : FG} {st : Stmt} {sts body : List Stmt} {pos : Pos}
theorem forD_mono (mg : ∀ d ρ k k', (∀ ρ', k ρ' → k' ρ') → g d ρ k → g d ρ k') (mb : ∀ ρ k k', Post.Le k k' → fs ρ k → fs ρ k') : ∀ (ds : List D) (ρ : Rho) (k k' : Post), Post.Le k k' → forD g fs ds ρ k → forD g fs ds ρ k'
  | [], ρ, k, k', h, q => h.nx _ q
  | d :: ds, ρ, k, k', h, q => mg _ _ _ _ (fun ρ1 q => mb ρ1 { nx := fun ρ' => forD g fs ds ρ' k, ct := fun ρ' => forD g fs ds ρ' k, bk := k.nx, rt := k.rt } { nx := fun ρ' => forD g fs ds ρ' k', ct := fun ρ' => forD g fs ds ρ' k', bk := k'.nx, rt := k'.rt }
      ⟨fun ρ2 q => forD_mono mg mb ds _ _ _ h q, h.rt, h.nx, fun ρ2 q => forD_mono mg mb ds _ _ _ h q⟩ q) q
def fsFor (fi : FI) (g : FG) (fb : FS) : FS := fun ρ P => fi ρ fun ds ρ1 => forD g fb ds ρ1 P
theorem dFor {vs : List Nat} (mi : ∀ ρ k k', (∀ d ρ', k d ρ' → k' d ρ') → fi ρ k → fi ρ k') (mg : ∀ d ρ k k', (∀ ρ', k ρ' → k' ρ') → g d ρ k → g d ρ k') (mb : ∀ ρ k k', Post.Le k k' → fs ρ k → fs ρ k')
    (D' : Ends) (σ : L2.St) (H : Hp) (h : DS X.k0 M (fsFor fi g fs) D' σ H) : tFor (DI X.k0 M fi) (DGt X.k0 M vs g) (DS X.k0 M fs) D' σ H := by
  obtain ⟨P, F, L, ρ, r, k⟩ := h
  refine ⟨P, F, L, ρ, r, mi _ _ _ (fun ds ρ1 q J L1 H1 e1 r1 w => ?_) k⟩
  refine ⟨fun i m σ' H' => m = ds.length - i ∧ i ≤ ds.length ∧ ∃ L' ρ', Ex (hide L1 H1) (hide L' H') ∧ R X.k0 M P F L' ρ' σ' H' ∧ forD g fs (ds.drop i) ρ' (postOf X.k0 M P F L H D'), ⟨ds.length, by simp, Nat.zero_le _, L1, ρ1, Ex.refl _, r1, by simpa using q⟩, ?_⟩
  rintro i m σ' H' ⟨rfl, hi, L', ρ', e', r', q'⟩
  have ww := w L' H' e' r'.tr i
  by_cases hlt : i < ds.length
  · have hd : ds[i]? = some ds[i] := List.getElem?_eq_getElem hlt
    obtain ⟨go, yl⟩ := ww.1 _ hd
    rw [List.drop_eq_getElem_cons hlt] at q'
    refine .inr ⟨go, fun σ2 H2 => ∃ L2 ρ2, Ex (hide L1 H1) (hide L2 H2) ∧ R X.k0 M P F L2 ρ2 σ2 H2 ∧ forD g fs (ds.drop (i + 1)) ρ2 (postOf X.k0 M P F L H D'), fun σ2 H2 ⟨L2, ρ2, e2, r2, q2⟩ => ⟨ds.length - (i + 1), by omega, rfl, hlt, L2, ρ2, e2, r2, q2⟩, fun x H2 y => ?_⟩
    obtain ⟨e2, d2⟩ := yl x H2 y
    refine ⟨P, F, L', ρ', ds[i], r'.ex e2, d2, mg _ _ _ _ (fun ρ3 q3 σ3 L3 H3 e3 r3 _ => ?_) q'⟩
    have e13 : Ex (hide L1 H1) (hide L3 H3) := (e'.trans (hide_ex e2)).trans e3
    refine ⟨P, F, L3, ρ3, r3, mb ρ3 { nx := fun ρ' => forD g fs (ds.drop (i + 1)) ρ' (postOf X.k0 M P F L H D'), ct := fun ρ' => forD g fs (ds.drop (i + 1)) ρ' (postOf X.k0 M P F L H D'), bk := (postOf X.k0 M P F L H D').nx, rt := (postOf X.k0 M P F L H D').rt } _ ⟨fun ρ4 q4 σ4 L4 H4 e4 r4 => ⟨L4, ρ4, e13.trans e4, r4, q4⟩, fun d ρ4 q4 v σ4 L4 H4 e4 r4 d4 => q4 v σ4 L4 H4 ((e1.trans e13).trans e4) r4 d4, fun ρ4 q4 σ4 L4 H4 e4 r4 => q4 σ4 L4 H4 ((e1.trans e13).trans e4) r4, fun ρ4 q4 σ4 L4 H4 e4 r4 => ⟨L4, ρ4, e13.trans e4, r4, q4⟩⟩ q3⟩
  · have e : ds.length ≤ i := by omega
    rw [List.drop_eq_nil_of_le e] at q'
    exact .inl ⟨ww.2 e, q' σ' L' H' (e1.trans e') r'⟩
theorem pds_for {vs : List Nat} (hp : PassesOwn (model X.prog X.w) X.A X.env X.xe) (hc : X.calm = true) (hi : PDI X M tg iter fi) (hg : PG1 X M tg vs g) (hb : PDs X M body fs) (hs : ∀ x, foldedSetIterable iter X.env x = pure x := by intro _; rfl) :
    PDS X M (.For tg iter body [] pos) (fsFor fi g fs) :=
  ⟨PS.wk (ps_for hp hc hi.pi hg.pg hb.ps hs) (dFor hi.mono hg.mono hb.mono), fun ρ k k' h q => hi.mono _ _ _ (fun ds ρ1 q => forD_mono hg.mono hb.mono ds _ _ _ h q) q⟩
theorem pds_while (hp : PassesOwn (model X.prog X.w) X.A X.env X.xe) (ht : PDT X M c ft) (hb : PDs X M body fs) : PDS X M (.While c body [] pos) (whD ft fs) := by
  refine ⟨PS.wk (ps_while hp ht.pt hb.ps) fun D' σ H ⟨P, F, L, ρ, r, W, ⟨m0, w0⟩, turn⟩ => ?_, fun ρ k k' h ⟨W, w0, turn⟩ => ⟨W, w0, fun m ρ w => ht.mono _ _ _ (fun t ρ1 q => by
    cases t with
    | true => exact hb.mono ρ1 { nx := fun ρ' => ∃ m', m' < m ∧ W m' ρ', ct := fun ρ' => ∃ m', m' < m ∧ W m' ρ', bk := k.nx, rt := k.rt } { nx := fun ρ' => ∃ m', m' < m ∧ W m' ρ', ct := fun ρ' => ∃ m', m' < m ∧ W m' ρ', bk := k'.nx, rt := k'.rt } ⟨fun _ q => q, h.rt, h.nx, fun _ q => q⟩ q
    | false => exact h.nx _ q) (turn m ρ w)⟩⟩
  refine ⟨fun m σ' H' => ∃ L' ρ', Ex (hide L H) (hide L' H') ∧ R X.k0 M P F L' ρ' σ' H' ∧ W m ρ', ⟨m0, L, ρ, Ex.refl _, r, w0⟩, ?_⟩
  rintro m σ' H' ⟨L', ρ', e', r', w'⟩
  refine ⟨P, F, L', ρ', r', ht.mono _ _ _ (fun t ρ1 q L1 H1 e1 r1 => ?_) (turn m ρ' w')⟩
  cases t with
  | true =>
    refine ⟨fun σ2 H2 => ∃ m', m' < m ∧ ∃ L2 ρ2, Ex (hide L H) (hide L2 H2) ∧ R X.k0 M P F L2 ρ2 σ2 H2 ∧ W m' ρ2, fun σ2 H2 ⟨m', hm, L2, ρ2, e2, r2, w2⟩ => ⟨m', hm, L2, ρ2, e2, r2, w2⟩, P, F, L1, ρ1, r1, hb.mono _ _ _ ?_ q⟩
    exact ⟨fun ρ2 ⟨m', hm, w2⟩ σ2 L2 H2 e2 r2 => ⟨m', hm, L2, ρ2, (e'.trans e1).trans e2, r2, w2⟩, fun d ρ2 q v σ2 L2 H2 e2 r2 d2 => q v σ2 L2 H2 ((e'.trans e1).trans e2) r2 d2, fun ρ2 q σ2 L2 H2 e2 r2 => q σ2 L2 H2 ((e'.trans e1).trans e2) r2, fun ρ2 ⟨m', hm, w2⟩ σ2 L2 H2 e2 r2 => ⟨m', hm, L2, ρ2, (e'.trans e1).trans e2, r2, w2⟩⟩
  | false => exact q σ' L1 H1 (e'.trans e1) r1

/-! ### what is walked -/
def seqD : D → Option (List D)
  | .list xs => some xs
  | .tuple xs => some xs
  | _ => none
def fiSeq (fa : FE) : FI := fun ρ k => fa ρ fun d ρ1 => ∃ ds, seqD d = some ds ∧ k ds ρ1
theorem fiSeq_mono (ma : ∀ ρ k k', (∀ d ρ', k d ρ' → k' d ρ') → fa ρ k → fa ρ k') (ρ : Rho) (k k' : List D → Rho → Prop) (h : ∀ d ρ', k d ρ' → k' d ρ') (q : fiSeq fa ρ k) : fiSeq fa ρ k' :=
  ma _ _ _ (fun d ρ1 ⟨ds, h1, h2⟩ => ⟨ds, h1, h _ _ h2⟩) q
theorem walks_l {K : Fr0} {a : Addr} {vs : List V} {L : List Addr} {H : Hp} {ds : List D} (h : SqL K.f (hide L H) a vs) (hd : RpAll K (hide L H) vs ds) : Walks K (Itl K.f a) L H ds := by
  intro L2 H2 e tr i
  have h2 : SqL K.f H2 a vs := sql_le (Evl.ex_l e h)
  have d2 := dpa_ex e _ _ hd
  refine ⟨fun d hi => ?_, fun hl => ⟨vs, h2, by rw [dpa_len hd]; exact hl⟩⟩
  obtain ⟨v, hv, dv⟩ := dpa_get' d2 hi
  refine ⟨⟨vs, v, h2, hv⟩, fun x H3 ⟨e3, y⟩ => ?_⟩
  subst e3
  have := y vs h2
  rw [hv] at this
  cases this
  exact ⟨Ex.refl _, dv⟩
theorem walks_t {K : Fr0} {a : Addr} {vs : List V} {L : List Addr} {H : Hp} {ds : List D} (h : SqT K.f (hide L H) a vs) (hd : RpAll K (hide L H) vs ds) : Walks K (Itt K.f a) L H ds := by
  intro L2 H2 e tr i
  have h2 : SqT K.f H2 a vs := sqt_le (Evl.ex_t e h)
  have d2 := dpa_ex e _ _ hd
  refine ⟨fun d hi => ?_, fun hl => ⟨vs, h2, by rw [dpa_len hd]; exact hl⟩⟩
  obtain ⟨v, hv, dv⟩ := dpa_get' d2 hi
  refine ⟨⟨vs, v, h2, hv⟩, fun x H3 ⟨e3, y⟩ => ?_⟩
  subst e3
  have := y vs h2
  rw [hv] at this
  cases this
  exact ⟨Ex.refl _, dv⟩
def iSeq (K : PySem.W.Frag) (tl : TE) : TI := fun σ H R => tl σ H fun x H1 => ∃ a, x = V.ref a ∧ ((∃ xs, SqL K H1 a xs) ∧ R (Itl K a) H1 ∨ (∃ xs, SqT K H1 a xs) ∧ R (Itt K a) H1)
theorem pi_seq {l : Expr} {tl : TE} (hl : PE X l tl) : PI X tg l (iSeq X.K tl) := by
  refine ⟨fun pins s σ H R0 I h => ?_⟩
  refine thn (hl.run pins s σ H _ I h) fun v s1 ⟨x, H1, I1, r1, q1⟩ => ?_
  obtain ⟨a, e, q⟩ := q1
  subst e
  rcases q with ⟨⟨xs, hq⟩, q⟩ | ⟨⟨xs, hq⟩, q⟩
  · exact pi_list_tail I1 r1 hq q
  · exact pi_tup_tail I1 r1 hq q
where
  pi_list_tail {pins : List (Addr × Obj)} {s1 : Shared} {σ : L2.St} {H1 : Hp} {a : Addr} {xs : List V} {v : Value} {R0 : It → Hp → Prop} (I1 : Inv X pins σ H1 s1) (r1 : RelV (.ref a) v) (hq : SqL X.K H1 a xs) (q : R0 (Itl X.K a) H1) :
      wpAny (model X.prog X.w) X.A (pyIter v) (PIE X pins σ tg R0) X.xe s1 := by
    cases r1
    obtain ⟨its, rv, p, hz⟩ := I1.list hq
    refine wpAny_pyIter_list p.isList ?_
    refine ⟨s1.heap.objs.size, [s1.heap.objs.size], _, _, H1, rfl, I1.kept (t' := s1.toks) fun b o e => Heap.get?_push_of_some _ e, turn_list a _, ⟨_, Heap.get?_push_size _ rfl, rfl, rfl⟩, fun b hb => ?_, q⟩
    have e : b = s1.heap.objs.size := by simpa using hb
    subst e
    exact I1.fpOk (Nat.le_refl _) (I1.hok.fresh (Nat.le_refl _))
  pi_tup_tail {pins : List (Addr × Obj)} {s1 : Shared} {σ : L2.St} {H1 : Hp} {a : Addr} {xs : List V} {v : Value} {R0 : It → Hp → Prop} (I1 : Inv X pins σ H1 s1) (r1 : RelV (.ref a) v) (hq : SqT X.K H1 a xs) (q : R0 (Itt X.K a) H1) :
      wpAny (model X.prog X.w) X.A (pyIter v) (PIE X pins σ tg R0) X.xe s1 := by
    cases r1
    obtain ⟨its, rv, p, hz⟩ := I1.tuple hq
    refine wpAny_pyIter_tuple (show s1.heap.IsTuple a its.toArray from p) ?_
    refine ⟨s1.heap.objs.size, [s1.heap.objs.size], _, _, H1, rfl, I1.kept (t' := s1.toks) fun b o e => Heap.get?_push_of_some _ e, turn_tuple a _, ⟨_, Heap.get?_push_size _ rfl, rfl, rfl⟩, fun b hb => ?_, q⟩
    have e : b = s1.heap.objs.size := by simpa using hb
    subst e
    exact I1.fpOk (Nat.le_refl _) (I1.hok.fresh (Nat.le_refl _))
theorem pdi_seq (h : PD X M iter fa) : PDI X M tg iter (fiSeq fa) := by
  refine ⟨PI.wk (pi_seq h.pe) fun σ H Q ⟨P, F, L, ρ, r, k⟩ => ?_, fiSeq_mono h.mono⟩
  refine ⟨P, F, L, ρ, r, h.mono _ _ _ (fun d ρ1 ⟨ds, h1, q⟩ v L1 H1 e1 r1 d1 => ?_) k⟩
  cases d with
  | list xs =>
    cases h1
    cases d1 with
    | lst g1 g2 => exact ⟨_, rfl, .inl ⟨⟨_, sql_le g1⟩, q _ L1 H1 e1 r1 (walks_l g1 g2)⟩⟩
  | tuple xs =>
    cases h1
    cases d1 with
    | tup g1 g2 => exact ⟨_, rfl, .inr ⟨⟨_, sqt_le g1⟩, q _ L1 H1 e1 r1 (walks_t g1 g2)⟩⟩
  | none => cases h1
  | bool _ => cases h1
  | int _ => cases h1
  | str _ => cases h1
  | dict _ => cases h1
/-- range(n), range(a, b) -/
def rangeD (lo hi : Int) : List D := (List.range (hi - lo).toNat).map fun (i : Nat) => PyData.int (lo + i)
def fiRange1 (fl : FL) : FI := fun ρ k => fl ρ fun ds ρ1 => ∃ j, ds = [.int j] ∧ -(2 ^ 62) ≤ j ∧ j < 2 ^ 62 ∧ k (rangeD 0 j) ρ1
def fiRange2 (fl : FL) : FI := fun ρ k => fl ρ fun ds ρ1 => ∃ i j, ds = [.int i, .int j] ∧ (-(2 ^ 62) ≤ i ∧ i < 2 ^ 62 ∧ -(2 ^ 62) ≤ j ∧ j < 2 ^ 62) ∧ k (rangeD i j) ρ1
theorem rangeD_length (lo hi : Int) : (rangeD lo hi).length = (hi - lo).toNat := by
  unfold rangeD
  rw [List.length_map, List.length_range]
theorem rangeD_get {lo hi : Int} {i : Nat} {d : D} (h : (rangeD lo hi)[i]? = some d) : i < (hi - lo).toNat ∧ d = .int (lo + i) := by
  have hl : i < (hi - lo).toNat := by
    have := (List.getElem?_eq_some_iff.mp h).1
    rwa [rangeD_length] at this
  refine ⟨hl, ?_⟩
  unfold rangeD at h
  rw [List.getElem?_map, List.getElem?_range hl] at h
  cases h
  rfl
theorem walks_r {K : Fr0} {lo hi : Int} {L : List Addr} {H : Hp} : Walks K (Itr lo (hi - lo).toNat) L H (rangeD lo hi) := by
  intro L2 H2 e tr i
  refine ⟨fun d hi => ?_, fun hl => by rw [rangeD_length] at hl; exact hl⟩
  obtain ⟨h1, h2⟩ := rangeD_get hi
  subst h2
  refine ⟨h1, fun x H3 ⟨e3, y⟩ => ?_⟩
  subst e3 y
  exact ⟨Ex.refl _, .int _⟩
theorem pdi_range1 {p : Pos} (hg : Gl X "range") (hm : X.mg "range" = none) (ha : PDL X M [a] fl) (hs : starEach [a] X.env = [(false, eval a X.env)] := by rfl) : PDI X M tg (.Call (.Name "range" p) [a] [] pos) (fiRange1 fl) := by
  refine ⟨PI.wk (pi_range1 hg hm ha.pa hs) fun σ H Q ⟨P, F, L, ρ, r, k⟩ => ?_, fun ρ k k' h q => ha.mono _ _ _ (fun ds ρ1 ⟨j, h1, h2, h3, q⟩ => ⟨j, h1, h2, h3, h _ _ q⟩) q⟩
  refine ⟨P, F, L, ρ, r, ha.mono _ _ _ (fun ds ρ1 ⟨j, h1, h2, h3, q⟩ vs L1 H1 e1 r1 d1 => ?_) k⟩
  subst h1
  cases d1 with
  | cons g1 g2 =>
    cases g2
    refine ⟨j, by rw [rp_int g1], h2, h3, ?_⟩
    have := q (Itr 0 (j - 0).toNat) L1 H1 e1 r1 walks_r
    simpa using this
theorem pdi_range2 {p : Pos} (hg : Gl X "range") (hm : X.mg "range" = none) (ha : PDL X M [a, b] fl) (hs : starEach [a, b] X.env = [(false, eval a X.env), (false, eval b X.env)] := by rfl) (hs2 : starEach [b] X.env = [(false, eval b X.env)] := by rfl) :
    PDI X M tg (.Call (.Name "range" p) [a, b] [] pos) (fiRange2 fl) := by
  refine ⟨PI.wk (pi_range2 hg hm ha.pa hs hs2) fun σ H Q ⟨P, F, L, ρ, r, k⟩ => ?_, fun ρ k k' h q => ha.mono _ _ _ (fun ds ρ1 ⟨i, j, h1, h2, q⟩ => ⟨i, j, h1, h2, h _ _ q⟩) q⟩
  refine ⟨P, F, L, ρ, r, ha.mono _ _ _ (fun ds ρ1 ⟨i, j, h1, h2, q⟩ vs L1 H1 e1 r1 d1 => ?_) k⟩
  subst h1
  cases d1 with
  | cons g1 g2 =>
    cases g2 with
    | cons g3 g4 =>
      cases g4
      exact ⟨i, j, by rw [rp_int g1, rp_int g3], h2, q (Itr i (j - i).toNat) L1 H1 e1 r1 walks_r⟩
/-- zip(a, b): two lists, or two tuples -/
def zipD : D → D → Option (List D)
  | .list xs, .list ys => some (List.zipWith (fun x y => PyData.tuple [x, y]) xs ys)
  | .tuple xs, .tuple ys => some (List.zipWith (fun x y => PyData.tuple [x, y]) xs ys)
  | _, _ => none
def fiZip (fl : FL) : FI := fun ρ k => fl ρ fun ds ρ1 => ∃ x y zs, ds = [x, y] ∧ zipD x y = some zs ∧ k zs ρ1
theorem zip_get {xs ys : List D} {i : Nat} {d : D} (h : (List.zipWith (fun x y => PyData.tuple [x, y]) xs ys)[i]? = some d) : ∃ x y, xs[i]? = some x ∧ ys[i]? = some y ∧ d = .tuple [x, y] := by
  rw [List.getElem?_zipWith] at h
  cases e1 : xs[i]? with
  | none => rw [e1] at h; cases h
  | some x =>
    cases e2 : ys[i]? with
    | none => rw [e1, e2] at h; cases h
    | some y =>
      rw [e1, e2] at h
      cases h
      exact ⟨x, y, rfl, rfl, rfl⟩
theorem pair_new {K : Fr0} {L : List Addr} {H : Hp} {T : Addr} {u v : V} {x y : D} (tr : ∀ a ∈ L, ∃ o, H a = some o) (hT : H T = none) (h1 : Rp K (hide L H) u x) (h2 : Rp K (hide L H) v y) : Rp K (hide L (upd H T (.tup [u, v]))) (.ref T) (.tuple [x, y]) :=
  new_tup tr hT (.cons h1 (.cons h2 .nil))
theorem walks_z {K : Fr0} {a b : Addr} {us vs : List V} {L : List Addr} {H : Hp} {xs ys : List D} (h : SqL K.f (hide L H) a us) (hd : RpAll K (hide L H) us xs) (h' : SqL K.f (hide L H) b vs) (hd' : RpAll K (hide L H) vs ys) :
    Walks K (Itz K.f a b) L H (List.zipWith (fun x y => PyData.tuple [x, y]) xs ys) := by
  intro L2 H2 e tr i
  have g1 : SqL K.f H2 a us := sql_le (Evl.ex_l e h)
  have g2 : SqL K.f H2 b vs := sql_le (Evl.ex_l e h')
  have d1 := dpa_ex e _ _ hd
  have d2 := dpa_ex e _ _ hd'
  refine ⟨fun d hi => ?_, fun hl => ⟨us, vs, g1, g2, ?_⟩⟩
  · obtain ⟨x, y, hx, hy, rfl⟩ := zip_get hi
    obtain ⟨u, hu, du⟩ := dpa_get' d1 hx
    obtain ⟨v, hv, dv⟩ := dpa_get' d2 hy
    refine ⟨⟨us, vs, u, v, g1, g2, hu, hv⟩, fun z H3 ⟨T, u', v', e1, hT, e3, q1, q2⟩ => ?_⟩
    have e4 := q1 us g1
    have e5 := q2 vs g2
    rw [hu] at e4
    rw [hv] at e5
    cases e4
    cases e5
    subst e1 e3
    exact ⟨Ex.new hT, pair_new tr hT du dv⟩
  · rw [List.length_zipWith, ← dpa_len hd, ← dpa_len hd'] at hl
    omega
theorem walks_zt {K : Fr0} {a b : Addr} {us vs : List V} {L : List Addr} {H : Hp} {xs ys : List D} (h : SqT K.f (hide L H) a us) (hd : RpAll K (hide L H) us xs) (h' : SqT K.f (hide L H) b vs) (hd' : RpAll K (hide L H) vs ys) :
    Walks K (RZ.ItzT K.f a b) L H (List.zipWith (fun x y => PyData.tuple [x, y]) xs ys) := by
  intro L2 H2 e tr i
  have g1 : SqT K.f H2 a us := sqt_le (Evl.ex_t e h)
  have g2 : SqT K.f H2 b vs := sqt_le (Evl.ex_t e h')
  have d1 := dpa_ex e _ _ hd
  have d2 := dpa_ex e _ _ hd'
  refine ⟨fun d hi => ?_, fun hl => ⟨us, vs, g1, g2, ?_⟩⟩
  · obtain ⟨x, y, hx, hy, rfl⟩ := zip_get hi
    obtain ⟨u, hu, du⟩ := dpa_get' d1 hx
    obtain ⟨v, hv, dv⟩ := dpa_get' d2 hy
    refine ⟨⟨us, vs, u, v, g1, g2, hu, hv⟩, fun z H3 ⟨T, u', v', e1, hT, e3, q1, q2⟩ => ?_⟩
    have e4 := q1 us g1
    have e5 := q2 vs g2
    rw [hu] at e4
    rw [hv] at e5
    cases e4
    cases e5
    subst e1 e3
    exact ⟨Ex.new hT, pair_new tr hT du dv⟩
  · rw [List.length_zipWith, ← dpa_len hd, ← dpa_len hd'] at hl
    omega
theorem pdi_zip {kk : Nat} {p tpos : Pos} {elts : List Expr} (hg : Gl X "zip") (hm : X.mg "zip" = none) (ha : PDL X M [a, b] fl) (hs : starEach [a, b] X.env = (false, eval a X.env) :: starEach [b] X.env := by rfl) (hpl : (backTo pos (starEach [b] X.env)).any (·.1) = false := by rfl) :
    PDI X M (.Tuple elts kk tpos) (.Call (.Name "zip" p) [a, b] [] pos) (fiZip fl) := by
  refine ⟨PI.wk (RZ.pi_zipA hg hm ha.pa hs hpl) fun σ H Q ⟨P, F, L, ρ, r, k⟩ => ?_, fun ρ k k' h q => ha.mono _ _ _ (fun ds ρ1 ⟨x, y, zs, h1, h2, q⟩ => ⟨x, y, zs, h1, h2, h _ _ q⟩) q⟩
  refine ⟨P, F, L, ρ, r, ha.mono _ _ _ (fun ds ρ1 ⟨x, y, zs, h1, h2, q⟩ vs L1 H1 e1 r1 d1 => ?_) k⟩
  subst h1
  cases d1 with
  | cons g1 g2 =>
    cases g2 with
    | cons g3 g4 =>
      cases g4
      unfold zipD at h2
      split at h2
      · cases h2
        cases g1 with
        | lst a1 a2 =>
          cases g3 with
          | lst b1 b2 => exact ⟨_, _, _, _, rfl, .inl ⟨sql_le a1, sql_le b1, q _ L1 H1 e1 r1 (walks_z a1 a2 b1 b2)⟩⟩
      · cases h2
        cases g1 with
        | tup a1 a2 =>
          cases g3 with
          | tup b1 b2 => exact ⟨_, _, _, _, rfl, .inr ⟨sqt_le a1, sqt_le b1, q _ L1 H1 e1 r1 (walks_zt a1 a2 b1 b2)⟩⟩
      · cases h2
/-- enumerate(a), a list -/
def enumD : D → Option (List D)
  | .list xs => some (xs.zipIdx.map fun p => PyData.tuple [.int (p.2 : Nat), p.1])
  | _ => none
def fiEnum (fl : FL) : FI := fun ρ k => fl ρ fun ds ρ1 => ∃ x zs, ds = [x] ∧ enumD x = some zs ∧ k zs ρ1
theorem enum_get {xs : List D} {i : Nat} {d : D} (h : (xs.zipIdx.map fun p => PyData.tuple [.int (p.2 : Nat), p.1])[i]? = some d) : ∃ x, xs[i]? = some x ∧ d = .tuple [.int (i : Nat), x] := by
  rw [List.getElem?_map, List.getElem?_zipIdx] at h
  cases e1 : xs[i]? with
  | none => rw [e1] at h; cases h
  | some x =>
    rw [e1] at h
    cases h
    exact ⟨x, rfl, by simp⟩
theorem walks_e {K : Fr0} {a : Addr} {us : List V} {L : List Addr} {H : Hp} {xs : List D} (h : SqL K.f (hide L H) a us) (hd : RpAll K (hide L H) us xs) : Walks K (Ite K.f a) L H (xs.zipIdx.map fun p => PyData.tuple [.int (p.2 : Nat), p.1]) := by
  intro L2 H2 e tr i
  have g1 : SqL K.f H2 a us := sql_le (Evl.ex_l e h)
  have d1 := dpa_ex e _ _ hd
  refine ⟨fun d hi => ?_, fun hl => ⟨us, g1, ?_⟩⟩
  · obtain ⟨x, hx, rfl⟩ := enum_get hi
    obtain ⟨u, hu, du⟩ := dpa_get' d1 hx
    refine ⟨⟨us, u, g1, hu⟩, fun z H3 ⟨T, u', e1, hT, e3, q1⟩ => ?_⟩
    have e4 := q1 us g1
    rw [hu] at e4
    cases e4
    subst e1 e3
    exact ⟨Ex.new hT, pair_new tr hT (.int _) du⟩
  · rw [List.length_map, List.length_zipIdx, ← dpa_len hd] at hl
    exact hl
theorem pdi_enum {kk : Nat} {p tpos : Pos} {elts : List Expr} (hg : Gl X "enumerate") (hm : X.mg "enumerate" = none) (ha : PDL X M [a] fl) (hs : starEach [a] X.env = [(false, eval a X.env)] := by rfl) :
    PDI X M (.Tuple elts kk tpos) (.Call (.Name "enumerate" p) [a] [] pos) (fiEnum fl) := by
  refine ⟨PI.wk (pi_enum hg hm ha.pa hs) fun σ H Q ⟨P, F, L, ρ, r, k⟩ => ?_, fun ρ k k' h q => ha.mono _ _ _ (fun ds ρ1 ⟨x, zs, h1, h2, q⟩ => ⟨x, zs, h1, h2, h _ _ q⟩) q⟩
  refine ⟨P, F, L, ρ, r, ha.mono _ _ _ (fun ds ρ1 ⟨x, zs, h1, h2, q⟩ vs L1 H1 e1 r1 d1 => ?_) k⟩
  subst h1
  cases d1 with
  | cons g1 g2 =>
    cases g2
    unfold enumD at h2
    split at h2
    · cases h2
      cases g1 with
      | lst a1 a2 => exact ⟨_, _, rfl, sql_le a1, q _ L1 H1 e1 r1 (walks_e a1 a2)⟩
    · cases h2
end
end PD

namespace PD
open PySem L2
open Evl (Ex)
section
variable {X : Cx} {M : Mk0} {a b c e o tg iter elt : Expr} {es rest ifs : List Expr} {fa fb fc fe : FE} {fl : FL} {ft fu : FT} {fn : FN} {fs fs' : FS} {fi : FI} {g : FG} {st : Stmt} {sts body : List Stmt} {pos : Pos}
/-! ### list comprehensions -/
theorem compD_mono (mg : ∀ d ρ k k', (∀ ρ', k ρ' → k' ρ') → g d ρ k → g d ρ k') (mt : ∀ ρ k k', (∀ d ρ', k d ρ' → k' d ρ') → ft ρ k → ft ρ k') (me : ∀ ρ k k', (∀ d ρ', k d ρ' → k' d ρ') → fe ρ k → fe ρ k') {vs : List Nat} :
    ∀ (ds acc : List D) (ρ : Rho) (k k' : List D → Rho → Prop), (∀ d ρ', k d ρ' → k' d ρ') → compD g ft fe vs ds acc ρ k → compD g ft fe vs ds acc ρ k'
  | [], acc, ρ, k, k', h, q => h _ _ q
  | d :: ds, acc, ρ, k, k', h, q => mg _ _ _ _ (fun ρ1 q => mt _ _ _ (fun t ρ2 q => by
    cases t with
    | true => exact me _ _ _ (fun y ρ3 q => compD_mono mg mt me ds _ _ _ _ h q) q
    | false => exact compD_mono mg mt me ds _ _ _ _ h q) q) q
/-- all lists of one's own aside meanwhile; at most so many items -/
def fnComp (fi : FI) (g : FG) (ft : FT) (fe : FE) (vs : List Nat) : FN := fun ρ k => fi ρ fun ds ρ1 => ds.length ≤ 1000000 ∧ compD g ft fe vs ds [] ⟨ρ1.sl.map dropOwn, ρ1.n⟩ fun out ρ2 => k out ⟨ρ1.sl, ρ2.n⟩
theorem fnComp_mono {vs : List Nat} (mi : ∀ ρ k k', (∀ d ρ', k d ρ' → k' d ρ') → fi ρ k → fi ρ k') (mg : ∀ d ρ k k', (∀ ρ', k ρ' → k' ρ') → g d ρ k → g d ρ k') (mt : ∀ ρ k k', (∀ d ρ', k d ρ' → k' d ρ') → ft ρ k → ft ρ k') (me : ∀ ρ k k', (∀ d ρ', k d ρ' → k' d ρ') → fe ρ k → fe ρ k')
    (ρ : Rho) (k k' : List D → Rho → Prop) (h : ∀ d ρ', k d ρ' → k' d ρ') (q : fnComp fi g ft fe vs ρ k) : fnComp fi g ft fe vs ρ k' :=
  mi _ _ _ (fun ds ρ1 q => ⟨q.1, compD_mono mg mt me ds _ _ _ _ (fun out ρ2 q => h _ _ q) q.2⟩) q
theorem dComp {vs : List Nat} (mi : ∀ ρ k k', (∀ d ρ', k d ρ' → k' d ρ') → fi ρ k → fi ρ k') (mg : ∀ d ρ k k', (∀ ρ', k ρ' → k' ρ') → g d ρ k → g d ρ k') (mt : ∀ ρ k k', (∀ d ρ', k d ρ' → k' d ρ') → ft ρ k → ft ρ k') (me : ∀ ρ k k', (∀ d ρ', k d ρ' → k' d ρ') → fe ρ k → fe ρ k')
    (hgv : ∀ ρ d k, g d ρ k → True) (σ : L2.St) (H : Hp) (Q : VK) (h : DNw X.k0 M (fnComp fi g ft fe vs) σ H Q) : tLc (DI X.k0 M fi) (DGt X.k0 M vs g) (DT X.k0 M ft) (DE X.k0 M fe) vs σ H Q := by
  obtain ⟨P, F, L, ρ, r, k⟩ := h
  refine ⟨P, F, L, ρ, r, mi _ _ _ (fun ds ρ1 q J L1 H1 e1 r1 w => ?_) k⟩
  obtain ⟨hsz, q⟩ := q
  intro A hA
  -- the new list is held; the def's own lists are aside
  have r2 := r1.aside
  have r3 := r2.pinNew (o := HO.lst []) hA
  have e3 : Ex (hide L1 H1) (hide (A :: L1) (upd H1 A (.lst []))) := (new_pin (vs := []) (ds := []) r2 .nil hA).1
  refine ⟨fun i m H' => m = ds.length - i ∧ i ≤ ds.length ∧ ∃ L' n' acc us, Ex (hide L1 H1) (hide L' H') ∧ R X.k0 M P (upd (keepF ρ1 σ F H1) A (.lst us)) L' ⟨ρ1.sl.map dropOwn, n'⟩ σ H' ∧ RpAll X.k0 (hide L' H') us acc ∧ acc.length ≤ i ∧
      compD g ft fe vs (ds.drop i) acc ⟨ρ1.sl.map dropOwn, n'⟩ (fun out ρ2 => ∀ p vs L' H', Ex (hide L H) (hide L' H') → F p = none → R X.k0 M P (upd F p (.lst vs)) L' ⟨ρ1.sl, ρ2.n⟩ σ H' → RpAll X.k0 (hide L' H') vs out → Q (.ref p) H'),
    ⟨ds.length, by simp, Nat.zero_le _, A :: L1, ρ1.n, [], [], e3, r3, .nil, Nat.le_refl _, by simpa using q⟩, ?_⟩
  rintro i m H' ⟨rfl, hi, L', n', acc, us, e', r', d', ha, q'⟩
  have ww := w L' H' e' r'.tr i
  by_cases hlt : i < ds.length
  · have hd : ds[i]? = some ds[i] := List.getElem?_eq_getElem hlt
    obtain ⟨go, yl⟩ := ww.1 _ hd
    rw [List.drop_eq_getElem_cons hlt] at q'
    refine .inr ⟨go, fun H2 => ∃ L2 n2 acc2 us2, Ex (hide L1 H1) (hide L2 H2) ∧ R X.k0 M P (upd (keepF ρ1 σ F H1) A (.lst us2)) L2 ⟨ρ1.sl.map dropOwn, n2⟩ σ H2 ∧ RpAll X.k0 (hide L2 H2) us2 acc2 ∧ acc2.length ≤ i + 1 ∧
      compD g ft fe vs (ds.drop (i + 1)) acc2 ⟨ρ1.sl.map dropOwn, n2⟩ (fun out ρ2 => ∀ p vs L' H', Ex (hide L H) (hide L' H') → F p = none → R X.k0 M P (upd F p (.lst vs)) L' ⟨ρ1.sl, ρ2.n⟩ σ H' → RpAll X.k0 (hide L' H') vs out → Q (.ref p) H'),
      fun H2 ⟨L2, n2, acc2, us2, e2, r2', d2, a2, q2⟩ => ⟨ds.length - (i + 1), by omega, rfl, hlt, L2, n2, acc2, us2, e2, r2', d2, a2, q2⟩, fun x H2 y => ?_⟩
    obtain ⟨e2, d2⟩ := yl x H2 y
    have r4 := (r'.ex e2).wipe vs
    refine ⟨P, _, L', _, ds[i], r4, d2, mg _ _ _ _ (fun ρ5 q5 σ5 L5 H5 e5 r5 o5 => ?_) q'⟩
    refine ⟨by rw [wipe_only o5]; exact wipe_only (wipe_self vs σ), ?_⟩
    have e15 : Ex (hide L1 H1) (hide L5 H5) := (e'.trans (hide_ex e2)).trans e5
    have e'5 : Ex (hide L' H') (hide L5 H5) := (hide_ex e2).trans e5
    -- the state behind a part of the block, back in the comprehension's frame
    have back : ∀ {ρx σx Lx Hx}, Ex (hide L5 H5) (hide Lx Hx) → R X.k0 M P (upd (keepF ρ1 σ F H1) A (.lst us)) Lx ρx σx Hx → R X.k0 M P (upd (keepF ρ1 σ F H1) A (.lst us)) Lx ⟨ρ1.sl.map dropOwn, ρx.n⟩ σ Hx := fun {ρx σx Lx Hx} ex rx => by
      have e6 := (e'5.trans ex)
      refine ⟨r'.len, fun j s u h1 h2 => ?_, rx.fr, rx.tr, fun a b xs ys l _ h => absurd h (bare_drop ρ1.sl n' a xs), fun j xs l h => absurd h (bare_drop ρ1.sl n' j xs), fun p hp => ?_⟩
      · have q := r'.sl j s u h1 h2
        cases s with
        | no => trivial
        | d z =>
          obtain ⟨v, g3, g4⟩ := q
          exact ⟨v, g3, dp_ex e6 _ _ g4⟩
        | own xs => exact absurd h1 (bare_drop ρ1.sl n' j xs)
        | st => exact q
        | raw v => exact q
        | exc a d fl => exact ⟨q.1, q.2.up e6⟩
      · obtain ⟨B, b1, b2, b3⟩ := rx.m p hp
        exact ⟨B, b1, b2, fun j xs l h => absurd h (bare_drop ρ1.sl n' j xs)⟩
    refine ⟨P, _, L5, ρ5, r5, mt _ _ _ (fun t ρ6 q6 L6 H6 e6 r6 => ?_) q5⟩
    cases t with
    | true =>
      refine ⟨P, _, L6, ρ6, r6, me _ _ _ (fun z ρ7 q7 v L7 H7 e7 r7 d7 => ?_) q6⟩
      have pin := r7.pinned
      have d8 : RpAll X.k0 (hide L7 H7) us acc := dpa_ex (e'5.trans (e6.trans e7)) _ _ d'
      refine ⟨us, pin.1, by rw [dpa_len d8, sizeLine_eq]; omega, L7, ρ7.n, acc ++ [z], us ++ [v], ?_, ?_, ?_, by rw [List.length_append, List.length_singleton]; omega, q7⟩
      · rw [hide_repin pin.2]
        exact (e15.trans e6).trans e7
      · exact (back (e6.trans e7) r7).repin
      · rw [hide_repin pin.2]
        exact dpa_app d8 (.cons d7 .nil)
    | false =>
      exact ⟨L6, ρ6.n, acc, us, e15.trans e6, back e6 r6, dpa_ex (e'5.trans e6) _ _ d', by omega, q6⟩
  · have e : ds.length ≤ i := by omega
    rw [List.drop_eq_nil_of_le e] at q'
    refine .inl ⟨ww.2 e, ?_⟩
    -- give it out
    have hFA : F A = none := by
      cases z : F A with
      | none => rfl
      | some o =>
        have := (r1.fr A o z).1
        rw [hA] at this
        cases this
    have hno : ¬ Own ρ1 σ A := fun ⟨j, xs, h1, h2⟩ => by
      obtain ⟨l, vs', g1, g2, g3, _⟩ := r1.getOwn h1
      rw [h2] at g1
      cases g1
      rw [hA] at g3
      cases g3
    have kF : upd (keepF ρ1 σ F H1) A (.lst us) = keepF ρ1 σ (upd F A (.lst us)) H1 := by
      funext z
      by_cases hz : z = A
      · subst hz
        rw [upd_same, keepF_not hno, upd_same]
      · rw [upd_ne hz]
        by_cases ho : Own ρ1 σ z
        · rw [keepF_own ho, keepF_own ho]
        · rw [keepF_not ho, keepF_not ho, upd_ne hz]
    refine q' A us L' H' (e1.trans e') hFA ?_ d'
    -- R.back with A held
    refine ⟨r1.len, fun j s u h1 h2 => ?_, fun z u h => ?_, r'.tr, r1.apart, fun j xs l h1 h2 => ?_, fun p hp => ?_⟩
    · have q := r1.sl j s u h1 h2
      cases s with
      | no => trivial
      | d x =>
        obtain ⟨v, g3, g4⟩ := q
        exact ⟨v, g3, dp_ex e' _ _ g4⟩
      | own xs =>
        obtain ⟨l, vs', g3, g4, g5, g6⟩ := q
        have ho : Own ρ1 σ l := ⟨j, xs, h1, by rw [h2, g3]⟩
        have hf := r'.fr l vs' (by rw [kF, keepF_own ho]; exact g5)
        exact ⟨l, vs', g3, hf.2, hf.1, g6.up e'⟩
      | st => exact q
      | raw v => exact q
      | exc a d fl => exact ⟨q.1, q.2.up e'⟩
    · by_cases hz : z = A
      · subst hz
        rw [upd_same] at h
        cases h
        exact r'.pinned
      · rw [upd_ne hz] at h
        have hno2 : ¬ Own ρ1 σ z := fun ⟨j, xs, h1, h2⟩ => by
          have := r1.ownF j xs z h1 h2
          rw [h] at this
          cases this
        exact r'.fr z u (by rw [upd_ne hz, keepF_not hno2]; exact h)
    · have : l ≠ A := fun z => hno ⟨j, xs, h1, by rw [h2, z]⟩
      rw [upd_ne this]
      exact r1.ownF j xs l h1 h2
    · obtain ⟨B, b1, b2, _⟩ := r'.m p hp
      have hB : ∀ z ∈ B, ¬ Own ρ1 σ z := fun z hz ho => by
        have q := (b2 z hz).2
        rw [kF, keepF_own ho] at q
        obtain ⟨j, xs, h1, h2⟩ := ho
        obtain ⟨l, vs', g6, _, g8, _⟩ := r1.getOwn h1
        rw [h2] at g6
        cases g6
        rw [g8] at q
        cases q
      refine ⟨B, b1, fun z hz => ⟨(b2 z hz).1, ?_⟩, fun j xs l h1 h2 hl => hB l hl ⟨j, xs, h1, h2⟩⟩
      have q := (b2 z hz).2
      rw [kF, keepF_not (hB z hz)] at q
      exact q

/-- the block of a comprehension -/
abbrev Blk (X : Cx) (scope : Scope) (s : Shared) (H : Hp) (C : Addr) (cl : List (Str × Addr)) (fp : List Addr) : Cx := X.blk s H scope (compEnvC scope cl C X.env) fp
structure PTn (X : Cx) (M : Mk0) (ifs : List Expr) (f : FT) : Prop where
  pt : PTs X ifs (DT X.k0 M f)
  mono : ∀ ρ k k', (∀ d ρ', k d ρ' → k' d ρ') → f ρ k → f ρ k'
theorem ptn_nil : PTn X M [] ftYes := ⟨PTs.wk pts_nil fun σ H Q ⟨P, F, L, ρ, r, k⟩ => k L H (Ex.refl _) r, fun ρ k k' h q => h _ _ q⟩
theorem ptn_one (h : PDT X M c ft) : PTn X M [c] ft := ⟨pts_one h.pt, h.mono⟩
theorem pn_lc {scope : Scope} {own : List (Str × Nat)} {vs : List Nat} (hc : X.calm = true) (hN : X.N.Nodup) (hi : PDI X M tg iter fi) (ok : BlkOk X.N X.env.scope scope own) (hv : own.map (·.2) = vs)
    (hg : ∀ s H C cl fp, PG1 (Blk X scope s H C cl fp) M tg vs g) (ht : ∀ s H C cl fp, PTn (Blk X scope s H C cl fp) M ifs ft) (he : ∀ s H C cl fp, PD (Blk X scope s H C cl fp) M elt fe)
    (w0 : Shared) (hs : ∀ x, foldedSetIterable iter X.env x = pure x := by intro _; rfl) : PN X M (.ListComp elt [⟨tg, iter, ifs, 0⟩] scope pos) (fnComp fi g ft fe vs) := by
  subst hv
  have h0 := hg w0 (fun _ => none) 0 [] []
  have t0 := ht w0 (fun _ => none) 0 [] []
  have e0 := he w0 (fun _ => none) 0 [] []
  refine ⟨PE.wk (pe_lc (te := DE X.k0 M fe) (tt := DT X.k0 M ft) (g := DGt X.k0 M (own.map (·.2)) g) hc hN hi.pi ok (fun s H C cl fp => (hg s H C cl fp).pg) (fun s H C cl fp => (ht s H C cl fp).pt) (fun s H C cl fp => (he s H C cl fp).pe) hs) fun σ H Q h => ?_, fnComp_mono hi.mono h0.mono t0.mono e0.mono⟩
  exact dComp hi.mono h0.mono t0.mono e0.mono (fun _ _ _ _ => trivial) σ H Q h
/-- y = [..] on one line: as data -/
theorem pds_setLc {i : Nat} {y : Str} {py spos : Pos} {scope : Scope} {own : List (Str × Nat)} {vs : List Nat} (hc : X.calm = true) (hN : X.N.Nodup) (hy : X.N[i]? = some y) (hyl : X.env.scope.names.lookup y = some .local)
    (hsw : swapsWith (.ListComp elt [⟨tg, iter, ifs, 0⟩] scope pos) (some (.Name y py)) spos.line X.env = pure true) (hi : PDI X M tg iter fi) (ok : BlkOk X.N X.env.scope scope own) (hv : own.map (·.2) = vs)
    (hg : ∀ s H C cl fp, PG1 (Blk X scope s H C cl fp) M tg vs g) (ht : ∀ s H C cl fp, PTn (Blk X scope s H C cl fp) M ifs ft) (he : ∀ s H C cl fp, PD (Blk X scope s H C cl fp) M elt fe)
    (w0 : Shared) (hs : ∀ x, foldedSetIterable iter X.env x = pure x := by intro _; rfl) :
    PDS X M (.Assign [.Name y py] (.ListComp elt [⟨tg, iter, ifs, 0⟩] scope pos) spos) (fsAsg (fOfN (fnComp fi g ft fe vs)) (fgN i)) := by
  subst hv
  have h0 := hg w0 (fun _ => none) 0 [] []
  have t0 := ht w0 (fun _ => none) 0 [] []
  have e0 := he w0 (fun _ => none) 0 [] []
  have mN := fnComp_mono (vs := own.map (·.2)) hi.mono h0.mono t0.mono e0.mono
  refine ⟨PS.wk (ps_setLc (te := DE X.k0 M fe) (tt := DT X.k0 M ft) (g := DGt X.k0 M (own.map (·.2)) g) hc hN hy hyl hsw hi.pi ok (fun s H C cl fp => (hg s H C cl fp).pg) (fun s H C cl fp => (ht s H C cl fp).pt) (fun s H C cl fp => (he s H C cl fp).pe) hs) fun D' σ H h => ?_,
    fsAsg_mono (fun ρ k k' h q => mN _ _ _ (fun ds ρ1 q => h _ _ q) q) fun d ρ k k' h q => h _ q⟩
  obtain ⟨P, F, L, ρ, r, k⟩ := h
  refine dComp hi.mono h0.mono t0.mono e0.mono (fun _ _ _ _ => trivial) σ H _ ?_
  refine dOfN mN σ H _ ⟨P, F, L, ρ, r, mN _ _ _ (fun ds ρ1 q v L1 H1 e1 r1 d1 => ?_) k⟩
  exact q (σ.set i (some v)) L1 H1 e1 (r1.setD i (.d (.list ds)) (some v) ⟨v, rfl, d1⟩ fun xs z => nomatch z)
/-- .. as a list of the def's own -/
theorem pds_ownLc {i : Nat} {y : Str} {py spos : Pos} {scope : Scope} {own : List (Str × Nat)} {vs : List Nat} (hc : X.calm = true) (hN : X.N.Nodup) (hy : X.N[i]? = some y) (hyl : X.env.scope.names.lookup y = some .local)
    (hsw : swapsWith (.ListComp elt [⟨tg, iter, ifs, 0⟩] scope pos) (some (.Name y py)) spos.line X.env = pure true) (hi : PDI X M tg iter fi) (ok : BlkOk X.N X.env.scope scope own) (hv : own.map (·.2) = vs)
    (hg : ∀ s H C cl fp, PG1 (Blk X scope s H C cl fp) M tg vs g) (ht : ∀ s H C cl fp, PTn (Blk X scope s H C cl fp) M ifs ft) (he : ∀ s H C cl fp, PD (Blk X scope s H C cl fp) M elt fe)
    (w0 : Shared) (hs : ∀ x, foldedSetIterable iter X.env x = pure x := by intro _; rfl) :
    PDS X M (.Assign [.Name y py] (.ListComp elt [⟨tg, iter, ifs, 0⟩] scope pos) spos) (fsOwn i (fnComp fi g ft fe vs)) := by
  subst hv
  have h0 := hg w0 (fun _ => none) 0 [] []
  have t0 := ht w0 (fun _ => none) 0 [] []
  have e0 := he w0 (fun _ => none) 0 [] []
  have mN := fnComp_mono (vs := own.map (·.2)) hi.mono h0.mono t0.mono e0.mono
  refine ⟨PS.wk (ps_setLc (te := DE X.k0 M fe) (tt := DT X.k0 M ft) (g := DGt X.k0 M (own.map (·.2)) g) hc hN hy hyl hsw hi.pi ok (fun s H C cl fp => (hg s H C cl fp).pg) (fun s H C cl fp => (ht s H C cl fp).pt) (fun s H C cl fp => (he s H C cl fp).pe) hs) fun D' σ H h => ?_,
    fun ρ k k' h q => mN _ _ _ (fun ds ρ1 q => h.nx _ q) q⟩
  obtain ⟨P, F, L, ρ, r, k⟩ := h
  refine dComp hi.mono h0.mono t0.mono e0.mono (fun _ _ _ _ => trivial) σ H _ ?_
  refine ⟨P, F, L, ρ, r, mN _ _ _ (fun ds ρ1 q p vs L1 H1 e1 hF r1 d1 => ?_) k⟩
  exact q _ L1 H1 e1 (r1.toOwn hF d1 i)

/-! ### several names at once: a, b = x, y -/
def fsPar2 (i j : Nat) (fl : FL) : FS := fun ρ P => fl ρ fun ds ρ1 => ∃ x y, ds = [x, y] ∧ P.nx ((ρ1.set i (.d x)).set j (.d y))
theorem pds_par2 {i j : Nat} {x y : Str} {px py pt : Pos} {kt k2 pt2} (hp : PS X (.Assign [.Tuple [.Name x px, .Name y py] kt pt] (.Tuple [a, b] k2 pt2) pos) (tPar i j (DL X.k0 M fl))) (hl : PDL X M [a, b] fl) :
    PDS X M (.Assign [.Tuple [.Name x px, .Name y py] kt pt] (.Tuple [a, b] k2 pt2) pos) (fsPar2 i j fl) := by
  refine ⟨PS.wk hp fun D' σ H ⟨P, F, L, ρ, r, k⟩ => ?_, fun ρ k k' h q => hl.mono _ _ _ (fun ds ρ1 ⟨x, y, e, q⟩ => ⟨x, y, e, h.nx _ q⟩) q⟩
  refine ⟨P, F, L, ρ, r, hl.mono _ _ _ (fun ds ρ1 ⟨x, y, e, q⟩ vs L1 H1 e1 r1 d1 => ?_) k⟩
  subst e
  cases d1 with
  | cons g1 g2 =>
    cases g2 with
    | cons g3 g4 =>
      cases g4
      exact ⟨_, _, rfl, q _ L1 H1 e1 ((r1.setD i (.d x) _ ⟨_, rfl, g1⟩ fun xs z => nomatch z).setD j (.d y) _ ⟨_, rfl, g3⟩ fun xs z => nomatch z)⟩
/-- the first one a list of the def's own -/
def fsPar2o (i j : Nat) (fn : FN) (fl : FL) : FS := fun ρ P => fn ρ fun ds ρ1 => fl ⟨ρ1.sl.map dropOwn, ρ1.n⟩ fun es ρ2 => ∃ y, es = [y] ∧ flatD y = true ∧ P.nx (((⟨ρ1.sl, ρ2.n⟩ : Rho).set i (.own ds)).set j (.d y))
def fsPar3 (i j l : Nat) (fl : FL) : FS := fun ρ P => fl ρ fun ds ρ1 => ∃ x y z, ds = [x, y, z] ∧ P.nx (((ρ1.set i (.d x)).set j (.d y)).set l (.d z))
end
end PD

namespace PD
open PySem L2 PyProof.Rows PySem.Spec
open Evl (Ex)
/-! ### defs: a promise that is kept where nothing of the library's own is under way (repr asks that) -/
structure FnG (P : Program) (w : World) (K : PySem.W.Frag) (mg : Str → Option Value) (base : Heap) (CX : CXT) (k : Nat) (f : Addr) (fd : FuncData) (ps : List Str) (sp : Sp) : Prop where
  len : ∀ vs H Q E, sp vs H Q E → vs.length = ps.length
  go : ∀ (A : Around) (outer : List Env) (s : Shared) (H : Hp) (args : Args) (us : List Value) (vs : List V) (Q : VK) (E : XK), A.guards = some [] → Room k A → Env0 P w K mg base A outer s H → BindsTo s fd args (ps.zip us) → Vals vs us → sp vs H Q E →
    codeAny (model P w) A (.call (.ref f) args) (CR CX outer P w H s Q E) s
section
variable {P : Program} {w : World} {K : PySem.W.Frag} {mg : Str → Option Value} {base : Heap} {CX : CXT} {j k : Nat} {f : Addr} {fd : FuncData} {ps N : List Str} {sp sp' : Sp}
theorem FnG.mono (G : FnG P w K mg base CX j f fd ps sp) (h : j ≤ k) : FnG P w K mg base CX k f fd ps sp :=
  ⟨G.len, fun A outer s H args us vs Q E hg hr => G.go A outer s H args us vs Q E hg (hr.mono h)⟩
theorem FnG.imp (G : FnG P w K mg base CX k f fd ps sp) (h : ∀ vs H Q E, sp' vs H Q E → sp vs H Q E) : FnG P w K mg base CX k f fd ps sp' :=
  ⟨fun vs H Q E q => G.len vs H Q E (h _ _ _ _ q), fun A outer s H args us vs Q E hg hr he hb hv hs => G.go A outer s H args us vs Q E hg hr he hb hv (h _ _ _ _ hs)⟩
/-- a def of the text, by its body -/
theorem fnG_of {x qual : Str} {st : Stmt} (F : Fun K x qual st f fd) (S : FnScope N ps (defScope st)) (len : ∀ vs H Q E, sp vs H Q E → vs.length = ps.length)
    (body : ∀ (cdv : Value) (A : Around) (outer : List Env) (s : Shared) (H : Hp) (vs : List V) (Q : VK) (E : XK), A.guards = some [] → Room k (A.deeper (envOfC qual (defScope st) s.heap.objs.size f cdv)) → sp vs H Q E →
      ∃ t, PSs (cxOf CX P w K mg base N qual (defScope st) f cdv A outer s H E) (defBody st) t ∧ t { nx := fun _ H' => Q .non H', rt := Q } (start N vs) H) : FnG P w K mg base CX (k + 1) f fd ps sp := by
  obtain ⟨oc, od, kV, doc, pm, an, cdv, ct, osl, efd, lk, hcd⟩ := F.ex
  subst efd
  refine ⟨len, fun A outer s H args us vs Q E hgd hr e0 hbi hva hsp => ?_⟩
  have kin : K.In s.heap := e0.mod.kin.keeps fun b o e => (e0.bs b o e).1
  have nolim : s.heap.NoLimit := e0.mod.nolimit.keeps fun b o e => (e0.bs b o e).1
  have kinds : ∀ y ∈ ps.zip us, (defScope st).names.lookup y.1 = some .local ∨ ((defScope st).names.lookup y.1 = some .cell ∧ ((cellsFrom (s.heap.objs.size + 1) (defScope st).names []).lookup y.1).isSome = true) := by
    intro y hy
    obtain ⟨nm, vl⟩ := y
    rcases S.par nm (List.of_mem_zip hy).1 with loc | cel
    · exact .inl loc
    · exact .inr ⟨cel, PySem.W.cellsFrom_some _ _ _ (.inl cel)⟩
  refine codeAny_call_function hr.depth (kin _ _ lk) rfl S.co S.gen rfl (PySem.W.codeRec_of kin hcd) (hbi _ _ _ _ ?_)
  refine wpAny_newFunctionEnv_cells S.kind kinds fun env henv sA xA => ?_
  subst henv
  refine ⟨nolim.keeps xA.toInCall.keep, codeAny_func ?_⟩
  obtain ⟨t, ht, hq⟩ := body cdv A outer s H vs Q E hgd (hr.deeper _) hsp
  have IA : Inv (cxOf CX P w K mg base N qual (defScope st) f cdv A outer s H E) [] (start N vs) H sA := inv_start S hr.hd e0 (len _ _ _ _ hsp) hva xA
  refine wpAny_mono (ht.run [] sA (start N vs) H _ IA hq) (fun fl sB hs => ?_) fun e sB hs => hs
  cases fl with
  | next =>
    obtain ⟨σB, HB, JB, qB⟩ := hs
    exact ⟨V.non, HB, JB.os, JB.bare, JB.base, JB.hok, rfl, qB⟩
  | ret u =>
    obtain ⟨vB, σB, HB, JB, rB, qB⟩ := hs
    exact ⟨vB, HB, JB.os, JB.bare, JB.base, JB.hok, rB, qB⟩
  | brk =>
    obtain ⟨_, _, _, qB⟩ := hs
    exact qB.elim
  | cont =>
    obtain ⟨_, _, _, qB⟩ := hs
    exact qB.elim
end
section
variable {X : Cx} {CX : CXT} {k : Nat} {f : Addr} {fd : FuncData} {ps : List Str} {sp : Sp} {E : XK} {x : Str} {p pos : Pos} {e : Expr} {es : List Expr} {t : TA}
theorem run_fnG {pins : List (Addr × Obj)} {σ : L2.St} {H : Hp} {s : Shared} {Q : VK} {us : List Value} {vs : List V} (G : FnG X.prog X.w X.K X.mg X.base CX k f fd ps sp) (hgd : X.A.guards = some []) (hr : Room k X.A) (hb : Binds X.K fd ps []) (hx : Passes CX X E)
    (I : Inv X pins σ H s) (r : Vals vs us) (h : sp vs H Q E) : wpAny (model X.prog X.w) X.A (call (.ref f) us) (EP X pins σ Q) X.xe s := by
  have hl : (us ++ []).length = ps.length := by rw [List.append_nil, ← r.length]; exact G.len _ _ _ _ h
  have bi := hb s us I.kIn hl
  rw [List.append_nil] at bi
  refine wpAny_call (codeAny_mono (G.go X.A X.stack s H ⟨us, []⟩ us vs Q E hgd hr I.env0 bi r h) fun res sB hq => ?_)
  cases res with
  | error ex => exact hx pins σ H s ex sB I hq
  | ok fl =>
    cases fl with
    | ret u => exact I.after hq
    | next => exact hq.elim
    | brk => exact hq.elim
    | cont => exact hq.elim
def tCallG (sp : Sp) (E : XK) (t : TA) : TE := fun σ H Q => t σ H fun vs H1 => sp vs H1 Q E
theorem pe_callG (G : FnG X.prog X.w X.K X.mg X.base CX k f fd ps sp) (hgd : X.A.guards = some []) (hr : Room k X.A) (hg : Gl X x) (hm : X.mg x = some (.ref f)) (hk : PySem.W.keepIn X.K (.ref f) = true) (hb : Binds X.K fd ps []) (hx : Passes CX X E)
    (ha : PA X (e :: es) t) (hdb : (x == ("__debug__" : Str)) = false := by decide) (he : starEach (e :: es) X.env = (false, eval e X.env) :: starEach es X.env := by rfl) (hpl : (backTo pos (starEach es X.env)).any (·.1) = false := by rfl) :
    PE X (.Call (.Name x p) (e :: es) [] pos) (tCallG sp E t) := by
  constructor
  intro pins s σ H Q I hw
  refine wpAny_Call_Name_kw (ld_glob I hg hm ?_ hdb)
  exact PySem.W.callWith_K (h₀ := X.base) I.ok.mod.kin hk (thn (ha.run pos pins s σ H _ I hw) fun us sA ⟨vs, HA, IA, rA, qA⟩ => ⟨IA.kIn, run_fnG G hgd hr hb hx IA rA qA⟩) he hpl
theorem pe_callG0 (G : FnG X.prog X.w X.K X.mg X.base CX k f fd ps sp) (hgd : X.A.guards = some []) (hr : Room k X.A) (hg : Gl X x) (hm : X.mg x = some (.ref f)) (hk : PySem.W.keepIn X.K (.ref f) = true) (hb : Binds X.K fd ps []) (hx : Passes CX X E)
    (hdb : (x == ("__debug__" : Str)) = false := by decide) : PE X (.Call (.Name x p) [] [] pos) (tCallG sp E tNil) := by
  constructor
  intro pins s σ H Q I hw
  refine wpAny_Call_Name_kw (ld_glob I hg hm ?_ hdb)
  exact PySem.W.callWith_K0 I.kIn hk (run_fnG (us := []) (vs := []) G hgd hr hb hx I .nil hw)
end

/-- nothing is raised -/
theorem passF {X : Cx} : Passes (L2.CX X.prog X.w) X (fun _ _ _ => False) := fun _ _ _ _ _ _ _ ⟨_, _, _, _, _, _, _, _, _, _, _, _, z⟩ => z.elim
/-! ### a def's promise over data -/
def spD (K : Fr0) (M : Mk0) (n : Nat) (W : FE) : Sp := fun vs H Q _ => ∃ P F L ρ, R K M P F L ρ (vs.map some) H ∧ Bare ρ ∧ ρ.sl.length = n ∧ W ρ (KV' K M P F L (vs.map some) H Q)
theorem spD_len {K : Fr0} {M : Mk0} {n : Nat} {W : FE} (vs : List V) (H : Hp) (Q : VK) (E : XK) (h : spD K M n W vs H Q E) : vs.length = n := by
  obtain ⟨P, F, L, ρ, r, _, hl, _⟩ := h
  have := r.len
  rw [List.length_map] at this
  omega
/-- only arguments are looked at when a def begins, only its value when it ends -/
def fBody (nN : Nat) (fs : FS) : FE := fun ρ k => fs ⟨ρ.sl ++ List.replicate (nN - ρ.sl.length) .no, ρ.n⟩ { nx := fun ρ' => k .none ⟨ρ.sl, ρ'.n⟩, rt := fun d ρ' => k d ⟨ρ.sl, ρ'.n⟩ }
section
variable {K : Fr0} {M : Mk0} {P : Option Addr} {F : Hp} {L L' : List Addr} {ρ ρ' : Rho} {σ σ' : L2.St} {H H' : Hp}
theorem R.start {vs : List V} (r : R K M P F L ρ (vs.map some) H) (hb : Bare ρ) (N : List Str) : R K M P F L ⟨ρ.sl ++ List.replicate (N.length - ρ.sl.length) .no, ρ.n⟩ (start N vs) H := by
  have hl : vs.length = ρ.sl.length := by simpa using r.len
  have bare : Bare ⟨ρ.sl ++ List.replicate (N.length - ρ.sl.length) .no, ρ.n⟩ := fun i xs h => by
    have h : (ρ.sl ++ List.replicate (N.length - ρ.sl.length) .no)[i]? = some (.own xs) := h
    by_cases hi : i < ρ.sl.length
    · rw [List.getElem?_append_left hi] at h
      exact hb i xs h
    · rw [List.getElem?_append_right (by omega), List.getElem?_replicate] at h
      split at h <;> cases h
  refine ⟨?_, fun i s o h1 h2 => ?_, r.fr, r.tr, fun a b xs ys l _ h => absurd h (bare a xs), fun i xs l h => absurd h (bare i xs), fun p hp => ?_⟩
  · unfold L2.start
    simp [hl]
  · have h1 : (ρ.sl ++ List.replicate (N.length - ρ.sl.length) .no)[i]? = some s := h1
    unfold L2.start at h2
    by_cases hi : i < ρ.sl.length
    · rw [List.getElem?_append_left hi] at h1
      rw [List.getElem?_append_left (by simpa [hl] using hi)] at h2
      exact r.sl i s o h1 h2
    · rw [List.getElem?_append_right (by omega), List.getElem?_replicate] at h1
      split at h1
      · cases h1
        trivial
      · cases h1
  · obtain ⟨A, a1, a2, _⟩ := r.m p hp
    exact ⟨A, a1, a2, fun i xs l h => absurd h (bare i xs)⟩
/-- from a later state of another frame, with the same wishes -/
theorem R.swap (r : R K M P F L ρ σ H) (hb : Bare ρ) (r' : R K M P F L' ρ' σ' H') (e : Ex (hide L H) (hide L' H')) : R K M P F L' ⟨ρ.sl, ρ'.n⟩ σ H' := by
  refine ⟨r.len, fun i s o h1 h2 => ?_, r'.fr, r'.tr, fun a b xs ys l _ h => absurd h (hb a xs), fun i xs l h => absurd h (hb i xs), fun p hp => ?_⟩
  · have q := r.sl i s o h1 h2
    cases s with
    | no => trivial
    | d x =>
      obtain ⟨v, g1, g2⟩ := q
      exact ⟨v, g1, dp_ex e _ _ g2⟩
    | own xs => exact absurd h1 (hb i xs)
    | st => exact q
    | raw v => exact q
    | exc a d fl => exact ⟨q.1, q.2.up e⟩
  · obtain ⟨A, a1, a2, _⟩ := r'.m p hp
    exact ⟨A, a1, a2, fun i xs l h => absurd h (hb i xs)⟩
end
section
variable {P : Program} {w : World} {K : PySem.W.Frag} {mg : Str → Option Value} {base : Heap} {k : Nat} {f : Addr} {fd : FuncData} {ps N : List Str} {M : Mk0} {fs : FS}
theorem fnD {x qual : Str} {st : Stmt} (F : Fun K x qual st f fd) (S : FnScope N ps (defScope st))
    (body : ∀ (cdv : Value) (A : Around) (outer : List Env) (s : Shared) (H : Hp) (E : XK), A.guards = some [] → Room k (A.deeper (envOfC qual (defScope st) s.heap.objs.size f cdv)) →
      PDs (cxOf (L2.CX P w) P w K mg base N qual (defScope st) f cdv A outer s H E).nox M (defBody st) fs) : FnG P w K mg base (L2.CX P w) (k + 1) f fd ps (spD ⟨K, w⟩ M ps.length (fBody N.length fs)) := by
  refine fnG_of F S (fun vs H Q E h => spD_len vs H Q E h) fun cdv A outer s H vs Q E hg hr ⟨P', F', L, ρ, r, hb, hl, hw⟩ => ?_
  have B := body cdv A outer s H E hg hr
  refine ⟨_, B.ps.nox, P', F', L, _, r.start hb N, B.mono _ _ _ ⟨fun ρ' q σ' L' H' e' r' => ?_, fun d ρ' q v σ' L' H' e' r' d' => ?_, fun _ (q : False) => q.elim, fun _ (q : False) => q.elim⟩ hw⟩
  · exact q .non L' H' e' (r.swap hb r' e') .non
  · exact q v L' H' e' (r.swap hb r' e') d'
end
section
variable {X : Cx} {M : Mk0} {k : Nat} {f : Addr} {fd : FuncData} {ps : List Str} {n : Nat} {W : FE} {x : Str} {p pos : Pos} {e : Expr} {es : List Expr} {fa : FA} {fl : FL}
/-- arguments: all data -/
def faD (fl : FL) : FA := fun ρ k => fl ρ fun ds ρ1 => k (ds.map .d) ρ1
theorem slots_d {K : Fr0} {P : Option Addr} {L : List Addr} {H : Hp} : ∀ {vs : List V} {ds : List D}, RpAll K (hide L H) vs ds → ∀ (i : Nat) (s : Sl) (v : V), (ds.map Sl.d)[i]? = some s → vs[i]? = some v → SlOk K P L H s (some v) := by
  intro vs ds h i s v h1 h2
  rw [List.getElem?_map] at h1
  obtain ⟨d, h3, h4⟩ := dpa_get h h2
  rw [h3] at h1
  cases h1
  exact ⟨v, rfl, h4⟩
theorem map_d_bare (ds : List D) : ∀ (i : Nat) (xs : Ow), (ds.map Sl.d)[i]? ≠ some (.own xs) := fun i xs h => by
  rw [List.getElem?_map] at h
  cases e : ds[i]? with
  | none => rw [e] at h; cases h
  | some d => rw [e] at h; cases h
theorem pda_d (h : PDL X M es fl) : PDA X M es (faD fl) := by
  refine ⟨PA.wk h.pa fun σ H Q ⟨P, F, L, ρ, r, q⟩ => ?_, fun ρ k k' g q => h.mono _ _ _ (fun ds ρ1 q => g _ _ q) q⟩
  refine ⟨P, F, L, ρ, r, h.mono _ _ _ (fun ds ρ1 q vs L1 H1 e1 r1 d1 => ?_) q⟩
  exact q vs L1 H1 e1 r1 (by simp [dpa_len d1]) (slots_d d1) (map_d_bare ds)
/-- .. the first one the object of the draws -/
def faSt (i : Nat) (fl : FL) : FA := fun ρ k => ρ.sl[i]? = some .st ∧ fl ρ fun ds ρ1 => k (.st :: ds.map .d) ρ1
theorem pda_st {i : Nat} {y : Str} {py : Pos} (hv : PE X (.Name y py) (tVar i)) (h : PDL X M es fl) (hs : starEach (.Name y py :: es) X.env = (false, eval (.Name y py) X.env) :: starEach es X.env := by rfl) : PDA X M (.Name y py :: es) (faSt i fl) := by
  refine ⟨PA.wk (pa_cons hv h.pa hs) fun σ H Q ⟨P, F, L, ρ, r, h0, q⟩ => ?_, fun ρ k k' g q => ⟨q.1, h.mono _ _ _ (fun ds ρ1 q => g _ _ q) q.2⟩⟩
  obtain ⟨a, hP, hσ⟩ := r.getSt h0
  refine ⟨.ref a, hσ, P, F, L, ρ, r, h.mono _ _ _ (fun ds ρ1 q vs L1 H1 e1 r1 d1 => ?_) q⟩
  refine q (.ref a :: vs) L1 H1 e1 r1 (by simp [dpa_len d1]) (fun j s v g1 g2 => ?_) fun j xs g => ?_
  · cases j with
    | zero =>
      simp at g1 g2
      subst g1 g2
      exact ⟨a, hP, rfl⟩
    | succ j => exact slots_d d1 j s v (by simpa using g1) (by simpa using g2)
  · cases j with
    | zero => simp at g
    | succ j => exact map_d_bare ds j xs (by simpa using g)
/-- a call: what the def makes of its arguments -/
def fCall (n : Nat) (W : FE) (fa : FA) : FE := fun ρ k => fa ρ fun ss ρ1 => ss.length = n ∧ W ⟨ss, ρ1.n⟩ fun d ρ2 => k d ⟨ρ1.sl, ρ2.n⟩
theorem pd_call (mW : ∀ ρ k k', (∀ d ρ', k d ρ' → k' d ρ') → W ρ k → W ρ k') (G : FnG X.prog X.w X.K X.mg X.base (L2.CX X.prog X.w) k f fd ps (spD X.k0 M n W)) (hgd : X.A.guards = some []) (hr : Room k X.A) (hg : Gl X x) (hm : X.mg x = some (.ref f)) (hk : PySem.W.keepIn X.K (.ref f) = true) (hb : Binds X.K fd ps [])
    (ha : PDA X M (e :: es) fa) (hdb : (x == ("__debug__" : Str)) = false := by decide) (he : starEach (e :: es) X.env = (false, eval e X.env) :: starEach es X.env := by rfl) (hpl : (backTo pos (starEach es X.env)).any (·.1) = false := by rfl) :
    PD X M (.Call (.Name x p) (e :: es) [] pos) (fCall n W fa) := by
  refine ⟨PE.wk (pe_callG (E := E0) G hgd hr hg hm hk hb passF ha.pa hdb he hpl) fun σ H Q ⟨P, F, L, ρ, r, q⟩ => ?_, fun ρ k k' g q => ha.mono _ _ _ (fun ss ρ1 q => ⟨q.1, mW _ _ _ (fun d ρ2 q => g _ _ q) q.2⟩) q⟩
  refine ⟨P, F, L, ρ, r, ha.mono _ _ _ (fun ss ρ1 q vs L1 H1 e1 r1 hl hs hbare => ?_) q⟩
  have bare : Bare ⟨ss, ρ1.n⟩ := hbare
  have r2 : R X.k0 M P (keepF ρ1 σ F H1) L1 ⟨ss, ρ1.n⟩ (vs.map some) H1 := r1.frame bare rfl (by simpa using hl) fun i s o g1 g2 => by
    rw [List.getElem?_map] at g2
    cases ev : vs[i]? with
    | none => rw [ev] at g2; cases g2
    | some v =>
      rw [ev] at g2
      cases g2
      exact hs i s v g1 ev
  refine ⟨P, _, L1, _, r2, bare, q.1, mW _ _ _ (fun d ρ2 q2 v L2 H2 e2 r3 d2 => ?_) q.2⟩
  exact q2 v L2 H2 (e1.trans e2) (r1.back r3 e2) d2
end
end PD

namespace PD
open PySem L2 PyProof.Rows PySem.Spec
open Evl (Ex)
/-! ### the law's own call, where nothing of the library's own is under way -/
/-- from a heap in which at most the script is known -/
theorem enterG {P : Program} {w : World} {K : PySem.W.Frag} {mg mb : Str → Option Value} {k : Nat} {fa a : Addr} {fd : FuncData} {x : Str} {sp : Sp} {sA : Shared} {H : Hp}
    (KX : K.In sA.heap) (hns : sA.heap.Ns mainGlobals mg) (hb : sA.heap.Ns builtinsNs mb) (hbb : ∀ x : Str, x ≠ "__name__" → mb x = bootBuiltins x) (hlim : sA.heap.NoLimit) (hgen : sA.gens = #[])
    (hr : Room k callerA) (F : ∀ base : Heap, K.In base → base.Ns mainGlobals mg → FnG P w K mg base (L2.CX P w) k fa fd [x] sp) (hbind : ∀ (s : Shared) (u : Value), BindsTo s fd ⟨[u], []⟩ [(x, u)])
    (hsp : sp [.ref a] H (fun v _ => v = .bl true) fun _ _ _ => False) (hok : HOk P w H sA.heap) (hO : Only H)
    (away : ∀ b o, H b ≠ none → sA.heap.get? b = some o → K.lookup b = none ∧ ∀ es ep, o.data ≠ .dict es ep) :
    codeAny (model P w) callerA (.call (.ref fa) ⟨[.ref a], []⟩) (fun r s' => r = .ok (.ret (.bool true)) ∧ OldK sA.heap s'.heap ∧ s'.os = sA.os ∧ AllBare s'.gens) sA := by
  have seen : ∀ {b : Addr} {o : Obj} {es : Array DictEntry} {ep : Nat}, sA.heap.get? b = some o → o.data = .dict es ep → H b = none := by
    intro b o es ep e d
    cases q : H b with
    | none => rfl
    | some u => exact absurd d ((away b o (by rw [q]; intro z; cases z) e).2 es ep)
  have nsH : ∀ {b : Addr} {m : Str → Option Value}, sA.heap.Ns b m → (hidT sA.heap H).Ns b m := by
    intro b m ⟨o, es, ep, e, d, rest⟩
    exact ⟨o, es, ep, hidT_get e (seen e d), d, rest⟩
  have kinH : K.In (hidT sA.heap H) := by
    intro b o e
    refine hidT_get (KX b o e) ?_
    cases q : H b with
    | none => rfl
    | some u =>
      have := (away b o (by rw [q]; intro z; cases z) (KX b o e)).1
      rw [e] at this
      cases this
  have mod : Mod K mg (hidT sA.heap H) := by
    obtain ⟨mc, l1, l2⟩ := hlim
    exact ⟨kinH, nsH hns, ⟨mb, nsH hb, hbb⟩, mc, nsH l1, l2⟩
  have env : Env0 P w K mg (hidT sA.heap H) callerA [] sA H :=
    ⟨rfl, mod, fun b o e => of_hidT e, Nat.le_of_eq (hidT_size _ _), trivial, fun b hb => absurd hb List.not_mem_nil, hok, .of_eq hgen⟩
  have G := F _ kinH (nsH hns)
  refine codeAny_mono (G.go callerA [] sA H ⟨[.ref a], []⟩ [.ref a] [.ref a] _ _ rfl hr env (hbind sA (.ref a)) (.cons rfl .nil) hsp) fun res sB hB => ?_
  cases res with
  | error e =>
    obtain ⟨_, _, _, _, _, _, _, _, _, _, _, _, z⟩ := hB
    exact z.elim
  | ok fl =>
    cases fl with
    | next => exact hB.elim
    | brk => exact hB.elim
    | cont => exact hB.elim
    | ret u =>
      obtain ⟨v, HB, osB, bareB, unB, okB, relB, qB⟩ := hB
      have qB : v = .bl true := qB
      subst qB
      have eu : u = Value.bool true := relB
      subst eu
      refine ⟨rfl, OldK.of_keep fun b o e => ?_, osB, bareB⟩
      cases q : H b with
      | none => exact unB.keep b o e q List.not_mem_nil List.not_mem_nil
      | some u =>
        rcases hO b with z | ⟨ob, xs, z⟩
        · rw [q] at z
          cases z
        · have g1 := (hok b _ z).1
          have g2 := (okB b _ (unB.frzs b ob _ z)).1
          rw [e] at g1
          cases g1
          exact g2
theorem walkG {l : PySem.W.OpenLaw} {n k : Nat} {q : Program} {loose : List Str} {XP : (Str → Option Value) → Heap → Prop} {YP : World → Heap → Prop} {d : DefRec} {K : Params → PySem.W.Frag} {sp : PySem.W.Frag → World → Sp} {x : Str}
    (hn : l.most = some n) (hn2 : n ≤ sizeLine) (hdf : d.params.defaults = []) (hr : Room k callerA) (hY : ∀ (w : World) (h : Heap), YP w h → (K w.params).In h)
    (F : ∀ (w : World) (mg : Str → Option Value) (fa : Addr) (h : Heap), (K w.params).In h → h.Ns mainGlobals mg → mg d.name = some (.ref fa) →
      ∃ fd : FuncData, (∀ (s : Shared) (u : Value), BindsTo s fd ⟨[u], []⟩ [(x, u)]) ∧ ∀ base : Heap, (K w.params).In base → base.Ns mainGlobals mg → FnG l.prog w (K w.params) mg base (L2.CX l.prog w) k fa fd [x] (sp (K w.params) w))
    (hsp : ∀ (K : PySem.W.Frag) (w : World) (H : Hp) (a : Addr) (ns : List Int), ns.length ≤ n → (∀ b, H b = none ∨ ∃ o xs, H b = some (.frz o (.lst xs))) → SqL K H a (ns.map V.int) → sp K w [.ref a] H (fun v _ => v = .bl true) fun _ _ _ => False) :
    PySem.W.WalkO q loose XP YP l.row.toRowW d [] (fun f vs => PySem.call f vs) := by
  refine Att.attach_call hn hdf fun w s₀ sA mg mb fa o pm cd doc a vs ns G Y ho hd hcd hmg hobj hints hlen hgen => ?_
  have KX := hY w _ Y
  obtain ⟨fd, hb, hF⟩ := F w mg fa _ KX G.T.g hmg
  have hlv := hints.length
  have rv := vals_ints hints
  have hsz : ns.length ≤ sizeLine := Nat.le_trans hlen hn2
  cases hk : (K w.params).lookup a with
  | some ob =>
    have same := KX a ob hk
    rw [hobj] at same
    cases same
    refine enterG (H := fun _ => none) KX G.T.g G.T.b G.T.builtins G.T.nolimit hgen hr hF hb (hsp _ _ _ a ns hlen (fun _ => .inl rfl) ?_) (fun b u z => nomatch z) (fun _ => .inl rfl) fun b o z => absurd rfl z
    exact .inr ⟨_, vs.toArray, _, hk, rfl, rfl, rfl, by rw [List.size_toArray]; omega, by simpa using rv⟩
  | none =>
    have hH : ∀ b, (fun c => if c = a then some (HO.frz { cls := .type "list", data := .seq vs.toArray } (.lst (ns.map V.int))) else none : Hp) b = none ∨
        (fun c => if c = a then some (HO.frz { cls := .type "list", data := .seq vs.toArray } (.lst (ns.map V.int))) else none : Hp) b = some (.frz { cls := .type "list", data := .seq vs.toArray } (.lst (ns.map V.int))) ∧ b = a := by
      intro b
      by_cases e : b = a
      · exact .inr ⟨if_pos e, e⟩
      · exact .inl (if_neg e)
    have only : Only (fun c => if c = a then some (HO.frz { cls := .type "list", data := .seq vs.toArray } (.lst (ns.map V.int))) else none : Hp) := fun b => (hH b).imp id fun z => ⟨_, _, z.1⟩
    refine enterG (H := fun c => if c = a then some (HO.frz { cls := .type "list", data := .seq vs.toArray } (.lst (ns.map V.int))) else none) KX G.T.g G.T.b G.T.builtins G.T.nolimit hgen hr hF hb
      (hsp _ _ _ a ns hlen (fun b => only b) (.inl (.inr ⟨_, if_pos rfl⟩))) (fun b u z => ?_) only fun b o z e => ?_
    · rcases hH b with y | ⟨y, rfl⟩
      · rw [y] at z
        cases z
      · rw [y] at z
        cases z
        exact ⟨hobj, by rw [List.length_map]; exact hsz, vs, _, rv, hobj⟩
    · rcases hH b with y | ⟨y, rfl⟩
      · exact absurd y z
      · refine ⟨hk, fun es ep w => ?_⟩
        rw [hobj] at e
        cases e
        cases w
end PD

namespace PySem
open Sem (wp)
open AutoSeq1 (wpAny_loadPart')
/-- enumerate(t), t a tuple: as PyProof.EnumMake has it of a list -/
theorem pd_enum_newT (a : Addr) (items : Array Value) :
    Meets (Builtin.«enumerate.__new__» ⟨[.type "enumerate", .ref a], []⟩) (fun _ R s => s.heap.IsTuple a items ∧
      R (.ok (.ret (.ref (s.heap.push { cls := .type "tuple_iterator", data := .fields #[.ref a, .int 0 0] }).objs.size)))
        { s with heap := (s.heap.push { cls := .type "tuple_iterator", data := .fields #[.ref a, .int 0 0] }).push { cls := .type "enumerate", data := .fields #[.none, .bool false, .ref s.heap.objs.size, rawInt 0, .none, .none] } }) :=
  .of_wp fun prog w A R s h => by
    obtain ⟨hp, g, d, tk, os⟩ := s
    obtain ⟨hT, h⟩ := h
    have hsub := sub_enumerate
    have hT' : Heap.IsTuple (Shared.heap ⟨hp, g, d, tk, os⟩) a items := hT
    obtain ⟨⟨c, dct, dt, sl⟩, hl, hc, n, hd⟩ := hT
    replace hc : c = .type "tuple" := hc
    replace hd : dt = .seq items n := hd
    subst hc hd
    wp_walk using wpAny_loadPart' hl
    refine wpAny_stack_any fun st => wpAny_pure ?_
    split
    · rename_i c _ _ _ _ _
      cases (c == Value.type "enumerate")
      all_goals
        wp_walk using wpAny_loadPart' hl, wpAny_pyIter_tuple hT'
        exact ⟨_, rfl, h⟩
    · wp_walk using wpAny_loadPart' hl, wpAny_pyIter_tuple hT'
      exact ⟨_, rfl, h⟩
section
variable {prog : Program} {w : World} {A : Around} {E : Value → Shared → Prop} {s : Shared}
theorem pd_call_enumT {a : Addr} {items : Array Value} {Q : Value → Shared → Prop} (hT : s.heap.IsTuple a items)
    (h : ∀ h', IsEnum h' (s.heap.objs.size + 1) s.heap.objs.size 0 .none → h'.IsTupleIter s.heap.objs.size a 0 →
      (∀ b o, s.heap.get? b = some o → h'.get? b = some o) → Q (.ref (s.heap.objs.size + 1)) { s with heap := h' }) :
    wpAny (model prog w) A (call (.type "enumerate") [.ref a]) Q E s := by
  refine callType_new F.called_enumerate (by decide) (F.typeCall_enumerate_1 _) (F.newCall_enumerate_1 _) (fun obj => F.args_object_init_2 obj _) F.entry_enumerate_new (pd_enum_newT a items) ⟨hT, ?_⟩
  have hz : (s.heap.push { cls := .type "tuple_iterator", data := .fields #[.ref a, .int 0 0] }).objs.size = s.heap.objs.size + 1 := Heap.size_push ..
  have he := Heap.get?_push_size (s.heap.push { cls := .type "tuple_iterator", data := .fields #[.ref a, .int 0 0] }) (o := { cls := .type "enumerate", data := .fields #[.none, .bool false, .ref s.heap.objs.size, rawInt 0, .none, .none] }) rfl
  rw [hz] at he
  show _ ∧ _
  rw [hz]
  refine ⟨⟨_, he, rfl⟩, h _ he ⟨_, Heap.get?_push_of_some _ (Heap.get?_push_size _ rfl), rfl, rfl⟩ fun b o x => Heap.get?_push_of_some _ (Heap.get?_push_of_some _ x)⟩
end
end PySem
namespace PD
open PySem L2 PyProof.Rows PySem.Spec
open Evl (Ex)
/-- the tuple at a, each item in a new pair with its number -/
def IteT (K : PySem.W.Frag) (a : Addr) : It :=
  ⟨fun i H => ∃ (xs : List V) (x : V), SqT K H a xs ∧ xs[i]? = some x, fun i H v H' => ∃ T x, v = V.ref T ∧ H T = none ∧ H' = upd H T (.tup [.int (i : Nat), x]) ∧ ∀ xs, SqT K H a xs → xs[i]? = some x, fun i H => ∃ xs : List V, SqT K H a xs ∧ xs.length ≤ i⟩
theorem tup_inj {X : Cx} {pins : List (Addr × Obj)} {σ : L2.St} {H : Hp} {s : Shared} {a : Addr} {xs ys : List V} (I : Inv X pins σ H s) (h : SqT X.K H a xs) (h' : SqT X.K H a ys) : xs = ys := by
  obtain ⟨us, r, ⟨o, ho, _, n, hd⟩, _⟩ := I.tuple h
  obtain ⟨ws, r', ⟨o', ho', _, n', hd'⟩, _⟩ := I.tuple h'
  rw [ho] at ho'
  cases ho'
  rw [hd] at hd'
  injection hd' with d1 _
  have e : us = ws := by simpa using congrArg Array.toList d1
  subst e
  exact r.inj r'
theorem turn_enumT {P : Program} {w : World} {K : PySem.W.Frag} {elts : List Expr} {kk : Nat} {tpos : Pos} (a e it : Addr) (hae : a ≠ it) :
    Turn P w K (.Tuple elts kk tpos) (IteT K a) [e, it] e (fun i h => (∃ old, IsEnum h e it ((i : Nat) : Int) old) ∧ h.IsTupleIter it a i ∧ e ≠ it ∧ e ≠ a) where
  mem := List.mem_cons_self
  obj := fun i h st b hb => by
    obtain ⟨⟨old, he⟩, ⟨o, ho, hc, hd⟩, _, _⟩ := st
    rcases List.mem_cons.mp hb with z | z
    · rw [z]
      exact ⟨_, he, fun v q => nomatch q⟩
    · rw [List.mem_singleton.mp z]
      exact ⟨o, ho, fun v q => by rw [hd] at q; cases q⟩
  keep := fun i h h' st k => by
    obtain ⟨⟨old, he⟩, hi, hne, hea⟩ := st
    exact ⟨⟨old, k e List.mem_cons_self _ he⟩, hi.at fun o q => k it (List.mem_cons_of_mem _ (List.mem_singleton.mpr rfl)) o q, hne, hea⟩
  item := by
    intro X hP hw hK hc i pins s σ H E I hf st hg
    subst hP hw hK
    obtain ⟨⟨old, he⟩, hit, hne, hea⟩ := st
    obtain ⟨xs, x, hq, hx⟩ := hg
    obtain ⟨us, rv, tp, _⟩ := I.tuple hq
    obtain ⟨u, hu, ru⟩ := rv.get hx
    have el : e < s.heap.objs.size := Heap.lt_size he
    have il : it < s.heap.objs.size := by
      obtain ⟨_, q, _⟩ := id hit
      exact Heap.lt_size q
    have lt : i < us.toArray.size := by
      have := (List.getElem?_eq_some_iff.mp hu).1
      simpa using this
    have Dr := Draws.tuple (prog := X.prog) (w := X.w) (A := X.A.in1) (I.ok.hd hc) it a hae us.toArray
    refine wpAny_pyNext_enum_itemD Dr he ⟨hit, tp⟩ lt hne (by simp [hne, hea]) fun z h1 tk hz ho1 st1 hT1 _ hk1 => ?_
    have ez : z = u := by
      have : us.toArray[i]? = some z := hz
      rw [List.getElem?_toArray, hu] at this
      cases this
      rfl
    subst ez
    refine ⟨_, rfl, wpAny_letOwnedTupleGo_enum (s := { s with heap := h1, toks := tk + 1 }) ho1 fun h2 he2 sb => ?_⟩
    have hT2 : h2.get? s.heap.objs.size = some { cls := .type "tuple", data := .seq #[.int i tk, z] } := (sb.2 _ (Nat.ne_of_gt el)).trans hT1
    have made : ObjOk X.prog X.w (upd H s.heap.objs.size (.tup [.int (i : Nat), x])) h2 s.heap.objs.size (.tup [.int (i : Nat), x]) :=
      ⟨by show 2 ≤ sizeLine; decide, [.int i tk, z], .cons ⟨_, rfl⟩ (.cons ru .nil), ⟨_, hT2, rfl, _, rfl⟩⟩
    have I2 : Inv X pins σ (upd H s.heap.objs.size (.tup [.int (i : Nat), x])) { s with heap := h2, toks := tk + 1 } := by
      refine I.turnedNew (ch := [e, it]) (fun b ob hb q => ?_) hf (Nat.le_refl _) made
      have b1 : b ≠ e := fun y => hb (by simp [y])
      have b2 : b ≠ it := fun y => hb (by simp [y])
      exact (sb.2 b b1).trans (hk1 b ob b1 b2 q)
    refine ⟨.ref s.heap.objs.size, _, I2, rfl, ⟨_, x, rfl, I.hok.fresh (Nat.le_refl _), rfl, fun ys hy => by rw [tup_inj I hy hq]; exact hx⟩, ⟨⟨z, ?_⟩, st1.1.at fun o q => (sb.2 it (Ne.symm hne)).trans q, hne, hea⟩, fun b hb => ?_⟩
    · have e1 : ((i + 1 : Nat) : Int) = (i : Int) + 1 := by omega
      rw [e1]
      exact he2
    · have lb : b < s.heap.objs.size := by
        rcases List.mem_cons.mp hb with y | y
        · rw [y]; exact el
        · rw [List.mem_singleton.mp y]; exact il
      rw [upd_ne (Nat.ne_of_lt lb)]
      exact (hf b hb).1
  done := by
    intro X hP hw hK hc i pins s σ H E I hf st hg
    subst hP hw hK
    obtain ⟨⟨old, he⟩, hit, hne, hea⟩ := st
    obtain ⟨xs, hq, hx⟩ := hg
    obtain ⟨us, rv, tp, _⟩ := I.tuple hq
    obtain ⟨f0, f1, f2, f3, f4, f5⟩ := hf it (List.mem_cons_of_mem _ (List.mem_singleton.mpr rfl))
    have hl := rv.length
    have Dr := Draws.tuple (prog := X.prog) (w := X.w) (A := X.A.in1) (I.ok.hd hc) it a hae us.toArray
    -- past the end: at any number beyond it the iterator ends
    exact pd_enum_end (I.ok.hd hc) he hit tp (by simp; omega) fun h' eb => ⟨rfl, I.turned (t' := s.toks) (fun b o hb q => eb b o hb q) f0 f1 f3 f4 f5⟩
  self := fun A i s Q E st h => by
    obtain ⟨⟨_, he⟩, _⟩ := st
    exact wpAny_pyIter_enum he h
where
  pd_enum_end {prog : Program} {w : World} {A : Around} {E : Value → Shared → Prop} {s : Shared} {e it t : Addr} {c : Int} {i : Nat} {items : Array Value} {old : Value} {Q : Option Value → Shared → Prop} (hh : A.handled = none)
      (he : IsEnum s.heap e it c old) (hit : s.heap.IsTupleIter it t i) (ht : s.heap.IsTuple t items) (hx : items[i]? = none) (hQ : ∀ h', Heap.ExtBut it s.heap h' → Q none { s with heap := h' }) : wpAny (model prog w) A (pyNext (.ref e)) Q E s := by
    have hT : s.TypeIs (.ref e) "enumerate" := ⟨_, he, rfl⟩
    unfold pyNext
    refine wpAny_bind (wpAny_attempt (wpAny_callSpecial?_slot (name := Str.ofString "__next__") hT F.slot_enumerate_next (wpAny_call_entry F.slot_enumerate_next hT F.entry_enumerate_next ?_ (F.args_enumerate_next_1 _))))
    show wpAny _ _ (field (.ref e) 2 >>= _) _ _ _
    refine wpAny_bind (wpAny_field he rfl (x := .ref it) rfl ?_)
    refine wpAny_bind (wpAny_nextOf_tuple_end hh hit ht hx fun h' y eb hy => ?_)
    obtain ⟨o, ho, hc⟩ := hy
    exact wpAny_bind (wpAny_isInstance (T := "StopIteration") (b := true) ⟨o, ho, hc⟩ isSubtype_stop (wpAny_pure (hQ _ eb)))
section
variable {X : Cx} {M : Mk0} {a e : Expr} {fl : FL} {p pos tpos : Pos} {elts : List Expr} {kk : Nat}
def iEnumA (K : PySem.W.Frag) (ta : TA) : TI := fun σ H R => ta σ H fun vs H1 => ∃ a xs, vs = [V.ref a] ∧ (SqL K H1 a xs ∧ R (Ite K a) H1 ∨ SqT K H1 a xs ∧ R (IteT K a) H1)
theorem pi_enumA {ta : TA} (hg : Gl X "enumerate") (hm : X.mg "enumerate" = none) (ha : PA X [e] ta) (hs : starEach [e] X.env = [(false, eval e X.env)] := by rfl) :
    PI X (.Tuple elts kk tpos) (.Call (.Name "enumerate" p) [e] [] pos) (iEnumA X.K ta) := by
  constructor
  intro pins s σ H R0 I h
  refine Call_ (ld_blt I hg hm boot_enumerate (PyProof.Rows.callWith_type1 (thn (ha.run pos pins s σ H _ I h) fun us s1 ⟨vs, H1, I1, r1, q1⟩ => ?_) hs rfl))
  obtain ⟨a, xs, ex, q1⟩ := q1
  subst ex
  cases r1 with
  | cons r rr =>
    cases rr
    cases r
    have two : ∀ b, b ∈ [s1.heap.objs.size + 1, s1.heap.objs.size] → FpOk X pins H1 b := fun b hb => by
      have hle : s1.heap.objs.size ≤ b := by
        rcases List.mem_cons.mp hb with z | z
        · rw [z]; exact Nat.le_succ _
        · rw [List.mem_singleton.mp z]; exact Nat.le_refl _
      exact I1.fpOk hle (I1.hok.fresh hle)
    rcases q1 with ⟨hq, q⟩ | ⟨hq, q⟩
    · obtain ⟨its, rv, pl, _⟩ := I1.list hq
      refine call_enumerate_list pl.isList fun h' he hit _ hk => wpAny_pyIter_enum he ?_
      exact ⟨_, _, _, _, H1, rfl, I1.kept (t' := s1.toks) hk, turn_enum a (s1.heap.objs.size + 1) s1.heap.objs.size, ⟨⟨.none, he⟩, hit, Nat.succ_ne_self _⟩, two, q⟩
    · obtain ⟨its, rv, tp, _⟩ := I1.tuple hq
      have hal : a < s1.heap.objs.size := by
        obtain ⟨o, ho, _⟩ := id tp
        exact Heap.lt_size ho
      refine pd_call_enumT tp fun h' he hit hk => wpAny_pyIter_enum he ?_
      exact ⟨_, _, _, _, H1, rfl, I1.kept (t' := s1.toks) hk, turn_enumT a (s1.heap.objs.size + 1) s1.heap.objs.size (Nat.ne_of_lt hal), ⟨⟨.none, he⟩, hit, Nat.succ_ne_self _, fun z => by rw [← z] at hal; exact absurd hal (Nat.not_lt.mpr (Nat.le_succ _))⟩, two, q⟩
/-- enumerate(a), a list or a tuple -/
def enumA : D → Option (List D)
  | .list xs => some (xs.zipIdx.map fun p => PyData.tuple [.int (p.2 : Nat), p.1])
  | .tuple xs => some (xs.zipIdx.map fun p => PyData.tuple [.int (p.2 : Nat), p.1])
  | _ => none
def fiEnumA (fl : FL) : FI := fun ρ k => fl ρ fun ds ρ1 => ∃ x zs, ds = [x] ∧ enumA x = some zs ∧ k zs ρ1
theorem walks_et {K : Fr0} {a : Addr} {us : List V} {L : List Addr} {H : Hp} {xs : List D} (h : SqT K.f (hide L H) a us) (hd : RpAll K (hide L H) us xs) : Walks K (IteT K.f a) L H (xs.zipIdx.map fun p => PyData.tuple [.int (p.2 : Nat), p.1]) := by
  intro L2 H2 e tr i
  have g1 : SqT K.f H2 a us := sqt_le (Evl.ex_t e h)
  have d1 := dpa_ex e _ _ hd
  refine ⟨fun d hi => ?_, fun hl => ⟨us, g1, ?_⟩⟩
  · obtain ⟨x, hx, rfl⟩ := enum_get hi
    obtain ⟨u, hu, du⟩ := dpa_get' d1 hx
    refine ⟨⟨us, u, g1, hu⟩, fun z H3 ⟨T, u', e1, hT, e3, q1⟩ => ?_⟩
    have e4 := q1 us g1
    rw [hu] at e4
    cases e4
    subst e1 e3
    exact ⟨Ex.new hT, pair_new tr hT (.int _) du⟩
  · rw [List.length_map, List.length_zipIdx, ← dpa_len hd] at hl
    exact hl
theorem pdi_enumA (hg : Gl X "enumerate") (hm : X.mg "enumerate" = none) (ha : PDL X M [a] fl) (hs : starEach [a] X.env = [(false, eval a X.env)] := by rfl) :
    PDI X M (.Tuple elts kk tpos) (.Call (.Name "enumerate" p) [a] [] pos) (fiEnumA fl) := by
  refine ⟨PI.wk (pi_enumA hg hm ha.pa hs) fun σ H Q ⟨P, F, L, ρ, r, k⟩ => ?_, fun ρ k k' h q => ha.mono _ _ _ (fun ds ρ1 ⟨x, zs, h1, h2, q⟩ => ⟨x, zs, h1, h2, h _ _ q⟩) q⟩
  refine ⟨P, F, L, ρ, r, ha.mono _ _ _ (fun ds ρ1 ⟨x, zs, h1, h2, q⟩ vs L1 H1 e1 r1 d1 => ?_) k⟩
  subst h1
  cases d1 with
  | cons g1 g2 =>
    cases g2
    unfold enumA at h2
    split at h2
    · cases h2
      cases g1 with
      | lst a1 a2 => exact ⟨_, _, rfl, .inl ⟨sql_le a1, q _ L1 H1 e1 r1 (walks_e a1 a2)⟩⟩
    · cases h2
      cases g1 with
      | tup a1 a2 => exact ⟨_, _, rfl, .inr ⟨sqt_le a1, q _ L1 H1 e1 r1 (walks_et a1 a2)⟩⟩
    · cases h2
end
end PD

namespace PD
open PySem L2 PyProof.Rows PySem.Spec
open Evl (Ex)
/-! ### isinstance of data -/
def tyName : D → String
  | .none => "NoneType"
  | .bool _ => "bool"
  | .int _ => "int"
  | .str _ => "str"
  | .list _ => "list"
  | .tuple _ => "tuple"
  | .dict _ => "dict"
def notDict : D → Bool
  | .dict _ => false
  | _ => true
theorem tyx {K : Fr0} {H : Hp} {v : V} {d : D} (h : Rp K H v d) (hd : notDict d = true) : TyX K.f H v (.type (tyName d)) := by
  cases h with
  | non => exact .base .non
  | bl b => exact .base (.bl b)
  | int i => exact .base (.int i)
  | str x => exact .base (.str x)
  | lst h1 _ =>
    rcases h1 with (h1 | ⟨o, h1⟩) | ⟨o, its, n, h1, h2, _⟩
    · exact .base (.lst h1)
    · exact .base (.frz h1)
    · exact .kList h1 h2
  | tup h1 _ =>
    rcases h1 with (h1 | ⟨o, h1⟩) | ⟨o, its, n, h1, h2, _⟩
    · exact .base (.tup h1)
    · exact .fTuple h1
    · exact .kTuple h1 h2
  | dct _ _ => cases hd
  | dctN _ _ => cases hd
  | obj _ _ => cases hd
/-- isinstance of a thing of the first kind -/
def isN (a T : String) : Bool := a == T || (a == "bool" && T == "int")
def isT (T : String) (d : D) : Bool := isN (tyName d) T
def okT (T : String) : Bool := ["bool", "int", "str", "list", "tuple", "dict"].contains T
theorem kit_all : ∀ a ∈ ["NoneType", "bool", "int", "str", "list", "tuple", "dict"], ∀ T ∈ ["bool", "int", "str", "list", "tuple", "dict"], kitB a T = some (isN a T) := by decide +kernel
theorem kit_is {K : Fr0} {T : String} (hT : okT T = true) (d : D) : PySem.W.kitOne K.f (.type (tyName d)) (.type T) = some (isT T d) := by
  refine kit_ty (kit_all _ ?_ T (List.contains_iff_mem.mp hT))
  cases d <;> simp [tyName]
section
variable {X : Cx} {M : Mk0} {a : Expr} {fa : FE} {pos : Pos}
def gIsT (T : String) (d : D) : Option D := if notDict d = true then some (.bool (isT T d)) else none
theorem pd_isi {T : String} {x : Str} {p px : Pos} (hT : okT T = true) (hg : Gl X "isinstance") (hm : X.mg "isinstance" = none) (hx : PE X (.Name x px) (tC (.ty T))) (ha : PD X M a fa)
    (hs : starEach [a, .Name x px] X.env = (false, eval a X.env) :: starEach [.Name x px] X.env := by rfl) (hs2 : starEach [.Name x px] X.env = (false, eval (.Name x px) X.env) :: starEach [] X.env := by rfl)
    (hpl : (backTo pos (starEach [.Name x px] X.env)).any (·.1) = false := by rfl) :
    PD X M (.Call (.Name "isinstance" p) [a, .Name x px] [] pos) (fUn (gIsT T) fa) := by
  refine ⟨PE.wk (pe_callB call_isi hg hm (by decide +kernel) (pa_cons ha.pe (pa_cons hx pa_nil hs2) hs) (by decide) (by decide) hs hpl) fun σ H Q ⟨P, F, L, ρ, r, k⟩ => ?_, fUn_mono ha.mono⟩
  refine ⟨P, F, L, ρ, r, ha.mono _ _ _ (fun d ρ1 ⟨e, he, q⟩ v L1 H1 e1 r1 d1 => ?_) k⟩
  unfold gIsT at he
  split at he
  · rename_i hd
    cases he
    refine ⟨v, .ty T, _, _, isT T d, rfl, .ty T, tyx (dp_ex (hide_le L1 H1) _ _ d1) hd, kit_is (K := X.k0) hT d, ?_⟩
    exact q _ L1 H1 e1 r1 (.bl _)
  · cases he
/-- a built-in type's name as a value -/
theorem pe_tyName {T : String} {x : Str} {px : Pos} (hg : Gl X x) (hm : X.mg x = none) (hv : bootBuiltins x = some (.type T)) (hn : x ≠ "__name__" := by decide) (hd : (x == ("__debug__" : Str)) = false := by decide) : PE X (.Name x px) (tC (.ty T)) :=
  pe_bltn hg hm hv rfl hn hd

/-! ### repr of data -/
mutual
theorem rp_reads {X : Cx} {pins : List (Addr × Obj)} {σ : L2.St} {H : Hp} {s : Shared} (I : Inv X pins σ H s) : ∀ (d : D) (v : V) (u : Value), d.hasDict = false → Rp X.k0 H v d → RelV v u → ∃ as, Reads s.heap u d as
  | .none, _, _, _, h, r => by cases h; cases r; exact ⟨_, .none⟩
  | .bool b, _, _, _, h, r => by cases h; cases r; exact ⟨_, .bool b⟩
  | .int i, _, _, _, h, r => by cases h; obtain ⟨t, rfl⟩ := r; exact ⟨_, .int i t⟩
  | .str x, _, _, _, h, r => by cases h; obtain ⟨t, rfl⟩ := r; exact ⟨_, .str x t⟩
  | .list ds, _, _, c, h, r => by
    cases h with
    | lst hs ha =>
      cases r
      obtain ⟨us, rv, ⟨o, n, ho, hc, hd, hda⟩, _⟩ := I.list hs
      obtain ⟨as, q⟩ := rpa_reads I ds _ us (by simpa [PyData.hasDict] using c) ha rv
      exact ⟨_, .list ho hc hda (by simpa using q)⟩
  | .tuple ds, _, _, c, h, r => by
    cases h with
    | tup hs ha =>
      cases r
      obtain ⟨us, rv, ⟨o, ho, hc, n, hd⟩, _⟩ := I.tuple hs
      obtain ⟨as, q⟩ := rpa_reads I ds _ us (by simpa [PyData.hasDict] using c) ha rv
      exact ⟨_, .tuple ho hc hd (by simpa using q)⟩
  | .dict ps, _, _, c, _, _ => by simp [PyData.hasDict] at c
theorem rpa_reads {X : Cx} {pins : List (Addr × Obj)} {σ : L2.St} {H : Hp} {s : Shared} (I : Inv X pins σ H s) : ∀ (ds : List D) (vs : List V) (us : List Value), PyData.hasDictAll ds = false → RpAll X.k0 H vs ds → Vals vs us → ∃ as, ReadsAll s.heap us ds as
  | [], _, _, _, h, r => by cases h; cases r; exact ⟨_, .nil⟩
  | d :: ds, _, _, c, h, r => by
    have c' : d.hasDict = false ∧ PyData.hasDictAll ds = false := by simpa [PyData.hasDictAll] using c
    cases h with
    | cons h1 h2 =>
      cases r with
      | cons r1 r2 =>
        obtain ⟨as, q1⟩ := rp_reads I d _ _ c'.1 h1 r1
        obtain ⟨bs, q2⟩ := rpa_reads I ds _ _ c'.2 h2 r2
        exact ⟨_, .cons q1 q2⟩
end
def fits (d : D) : Bool := d.showable && !d.hasDict && decide (d.shown.length ≤ sizeLine) && decide (d.depth ≤ 60)
theorem fits_and {d : D} (h : fits d = true) : d.showable = true ∧ d.hasDict = false ∧ d.shown.length ≤ sizeLine ∧ d.depth ≤ 60 := by
  unfold fits at h
  simp only [Bool.and_eq_true, decide_eq_true_eq, Bool.not_eq_true'] at h
  exact ⟨h.1.1.1, h.1.1.2, h.1.2, h.2⟩
def gRepr (d : D) : Option D := if fits d = true then some (.str d.shown) else none
def rRepr (K : Fr0) : List V → Hp → VK → Prop := fun xs H Q => ∃ v d, xs = [v] ∧ Rp K H v d ∧ fits d = true ∧ Q (.str d.shown) H
theorem call_reprD (hg : X.A.guards = some []) (hu : X.A.units + 64 < cLine) : CallR X (.builtin "repr") (rRepr X.k0) := by
  intro pins s σ H xs us Q I r h
  obtain ⟨v, d, rfl, hd, hf, q⟩ := h
  obtain ⟨u, rfl, ru⟩ := vals1 r
  obtain ⟨f1, f2, f3, f4⟩ := fits_and hf
  cases hd with
  | non =>
    cases ru
    rw [show PyData.shown .none = ("None" : Str) by rw [PyData.shown]] at q
    exact PySem.P.repr_of_none ⟨.str _, H, I.tok _, ⟨_, rfl⟩, q⟩
  | bl b =>
    cases ru
    rw [show PyData.shown (.bool b) = (if b = true then ("True" : Str) else ("False" : Str)) by rw [PyData.shown]] at q
    exact PySem.P.repr_of_bool ⟨.str _, H, I.tok _, ⟨_, rfl⟩, q⟩
  | int i =>
    obtain ⟨t, rfl⟩ := ru
    rw [show PyData.shown (.int i) = (toString i : Str) by rw [PyData.shown]] at q
    exact PySem.P.repr_of_int (by simpa [PyData.showable] using f1) ⟨.str _, H, I.tok _, ⟨_, rfl⟩, q⟩
  | str x =>
    obtain ⟨t, rfl⟩ := ru
    rw [show PyData.shown (.str x) = reprText x by rw [PyData.shown]] at q f3
    exact PySem.P.repr_of_str ⟨.str _, H, I.tok _, ⟨_, rfl⟩, q⟩ f3
  | lst h1 h2 =>
    cases ru
    obtain ⟨as, rd⟩ := rp_reads I _ _ _ f2 (.lst h1 h2) rfl
    exact repr_of_reads' rd f1 (fun z => by rw [f2] at z; cases z) hg (by omega) (fun _ _ z => z) (fun h' t tk hk => ⟨.str _, H, I.kept hk, ⟨t, rfl⟩, q⟩) f3
  | tup h1 h2 =>
    cases ru
    obtain ⟨as, rd⟩ := rp_reads I _ _ _ f2 (.tup h1 h2) rfl
    exact repr_of_reads' rd f1 (fun z => by rw [f2] at z; cases z) hg (by omega) (fun _ _ z => z) (fun h' t tk hk => ⟨.str _, H, I.kept hk, ⟨t, rfl⟩, q⟩) f3
  | dct h1 h2 => simp [PyData.hasDict] at f2
  | dctN h1 h2 => simp [PyData.hasDict] at f2
  | obj h1 h2 => simp [PyData.hasDict] at f2
theorem r1_repr {K : Fr0} : R1D K (fun x => rRepr K [x]) gRepr := by
  intro L H x dx d Q tr hx hg k
  unfold gRepr at hg
  split at hg
  · cases hg
    exact ⟨x, dx, rfl, dp_ex (hide_le L H) _ _ hx, by assumption, k _ _ (Ex.refl _) (.str _)⟩
  · cases hg

/-! ### == and != of any data, texts straight -/
def gEqA : D → D → Option D
  | .str a, .str b => some (.bool (decide (a = b)))
  | x, y => gEq x y
def gNeA : D → D → Option D
  | .str a, .str b => some (.bool (!decide (a = b)))
  | x, y => gNe x y
theorem dec_strD {a b : Str} : decide (V.str a = V.str b) = decide (a = b) := by
  by_cases e : a = b
  · subst e; simp
  · rw [decide_eq_false e, decide_eq_false (fun z => e (V.str.inj z))]
theorem op_eqA (hu : X.A.units + 64 < cLine) : OpR X (compareOp .Eq) (opOr rEq (rEqD X.K)) := or_op op_eq (op_eqD hu)
theorem op_neA (hu : X.A.units + 64 < cLine) : OpR X (compareOp .NotEq) (opOr rNe (rNeD X.K)) := or_op op_ne (op_neD hu)
theorem rd_eqA {K : Fr0} : R2D K (opOr rEq (rEqD K.f)) gEqA := by
  intro L H x y dx dy d Q tr hx hy hg k
  unfold gEqA at hg
  split at hg
  · cases hg
    rw [rp_str hx, rp_str hy]
    exact .inl ⟨rfl, by rw [dec_strD]; exact k _ _ (Ex.refl _) (.bl _)⟩
  · exact .inr (rd_eq L H x y dx dy d Q tr hx hy hg k)
theorem rd_neA {K : Fr0} : R2D K (opOr rNe (rNeD K.f)) gNeA := by
  intro L H x y dx dy d Q tr hx hy hg k
  unfold gNeA at hg
  split at hg
  · cases hg
    rw [rp_str hx, rp_str hy]
    exact .inl ⟨rfl, by rw [dec_strD]; exact k _ _ (Ex.refl _) (.bl _)⟩
  · exact .inr (rd_ne L H x y dx dy d Q tr hx hy hg k)
/-- x is None, x is not None -/
theorem rd_isN {K : Fr0} : R2D K (fun x y H Q => y = V.non ∧ Q (.bl (decide (x = .non))) H) gIsN := by
  intro L H x y dx dy d Q tr hx hy hg k
  unfold gIsN at hg
  split at hg
  · cases hg
    refine ⟨rp_none hy, ?_⟩
    cases hx <;> exact k _ _ (Ex.refl _) (.bl _)
  · cases hg
theorem rd_notN {K : Fr0} : R2D K (fun x y H Q => y = V.non ∧ Q (.bl (!decide (x = .non))) H) gNotN := by
  intro L H x y dx dy d Q tr hx hy hg k
  unfold gNotN at hg
  split at hg
  · cases hg
    refine ⟨rp_none hy, ?_⟩
    cases hx <;> exact k _ _ (Ex.refl _) (.bl _)
  · cases hg
end
end PD

namespace PD
open PySem L2 PyProof.Rows PySem.Spec
open Evl (Ex)
/-! ### sorted(set(xs)), xs a list of ints -/
abbrev setObj (w : World) : Obj := { cls := .type "set", dict := none, data := .set #[] 0 (.fresh 0 0 (!w.params.followText "set-order")) }
section
variable {P : Program} {w : World} {A : Around} {E : Value → Shared → Prop} {s : Shared}
theorem call_setL {l : Addr} {items : Array Value} (ns : List Int) {Q : Value → Shared → Prop} (hh : A.handled = none) (hl : s.heap.IsList l items) (hit : IntsAre items.toList ns) (hb : ns.length + 1 < scanBound)
    (fin : ∀ (h' : Heap) (tk c : Nat), SetR w h' s.heap.objs.size (fun j => decide (j ∈ ns)) c → c ≤ ns.length → (∀ b o, s.heap.get? b = some o → h'.get? b = some o) → Q (.ref s.heap.objs.size) { s with heap := h', toks := tk }) :
    wpAny (model P w) A (call (.type "set") [.ref l]) Q E s := by
  have many : items.size = ns.length := by simpa using IntsAre.length hit
  obtain ⟨cls0, tl0, hmro⟩ := F.called_set.mro
  have hmade := F.called_set.made
  have hsub := F.called_set.sub
  refine wpAny_call (codeAny_of_tree ?_)
  show wpAny _ _ (callAny (.type "set") _) _ _ _
  refine wpAny_pure ⟨Code.quiet_builtin _ (by decide +kernel), codeAny_builtin F.entry_type_call ?_⟩
  rw [Around.under_plain (weight_type_call_type "set" [.ref l] []) rfl]
  have no1 := F.called_set.notType
  have no2 := F.called_set.canCreate
  have ct := F.typeCall_set_1 (.ref l)
  repeat (any_goals (first | assumption | wp_step))
  refine codeAny_mono (code_set_led1 (.ref l) (E := E) (Q₁ := fun obj sN => obj = .ref s.heap.objs.size ∧ sN = { s with heap := s.heap.push (setObj w) }) ⟨rfl, rfl⟩) fun r sN hr => ?_
  cases r with
  | error e => exact hr
  | ok fl =>
    cases fl with
    | ret obj =>
      obtain ⟨eo, es⟩ := hr
      subst eo es
      have at0 : (s.heap.push (setObj w)).get? s.heap.objs.size = some (setObj w) := Heap.get?_push_size _ rfl
      have ty0 : Shared.TypeIs { s with heap := s.heap.push (setObj w) } (.ref s.heap.objs.size) "set" := ⟨_, at0, rfl⟩
      have ini1 := F.called_set.init.lookup
      have ini2 := F.called_set.init.bind (.ref s.heap.objs.size)
      repeat (any_goals (first | assumption | wp_step))
      refine codeAny_mono (codeAny_call_builtin (R := wants (fun r sE => r = .none ∧ ∃ h' tk c, sE = { s with heap := h', toks := tk } ∧ SetR w h' s.heap.objs.size (fun j => decide (j ∈ ns)) c ∧ c ≤ ns.length ∧ (∀ b o, s.heap.get? b = some o → h'.get? b = some o)) E)
        F.called_set.init.plain F.entry_set_init (check_set_init_1 ty0 ?_)) fun rE sE hrE => ?_
      · obtain ⟨⟨oc, od, odt, osl⟩, hol, hcl, nl, hdl⟩ := hl
        replace hcl : oc = .type "list" := hcl
        replace hdl : odt = .seq items nl := hdl
        subst hcl hdl
        have atl : (s.heap.push (setObj w)).get? l = some { cls := .type "list", dict := od, data := .seq items nl, slots := osl } := Heap.get?_push_of_some _ hol
        have nots := F.sub_list_set
        have notf := F.sub_list_frozenset
        have nod : (Value.type "list" == Value.type "dict") = false := by decide
        have isl : (s.heap.push (setObj w)).IsList l items := ⟨_, atl, rfl, nl, rfl⟩
        unfold Builtin.«set.__init__» noKeywords Builtin.Frozenset.updateFrom
        generalize hPI : pyIter = PI
        wp_walk
        subst hPI
        refine wpAny_pyIter_list isl (wpAny_bind (wpAny_runValue ?_))
        have lts : l < s.heap.objs.size := Heap.lt_size hol
        have hh3 : A.in1.in1.in1.handled = none := by simp [hh]
        have sz1 : (s.heap.push (setObj w)).objs.size = s.heap.objs.size + 1 := Heap.size_push ..
        have neI : l ≠ (s.heap.push (setObj w)).objs.size := by
          rw [sz1]
          exact Nat.ne_of_lt (Nat.lt_succ_of_lt lts)
        have out2 : s.heap.objs.size ∉ [(s.heap.push (setObj w)).objs.size, l] := by
          rw [sz1]
          intro hm
          rcases List.mem_cons.mp hm with z | z
          · exact absurd z (Nat.ne_of_lt (Nat.lt_succ_self _))
          · exact absurd (List.mem_singleton.mp z) (Nat.ne_of_gt lts)
        have val : ∀ (i : Nat) (v : Value), items[i]? = some v → ∃ k t, ns[i]? = some k ∧ v = .int k t := by
          intro i v hv
          have hi : i < ns.length := by
            rw [← many]
            exact (Array.getElem?_eq_some_iff.mp hv).1
          obtain ⟨t, e⟩ := PyProof.Rows.IntsAre.int_at hit i v (by rw [Array.getElem?_toList]; exact hv)
          have g : ns.getD i 0 = ns[i] := by
            rw [List.getD_eq_getElem?_getD, List.getElem?_eq_getElem hi]
            rfl
          exact ⟨ns[i], t, List.getElem?_eq_getElem hi, by rw [e, g]⟩
        refine set_update_ints ((Walks.list hh3 _ l neI items).toS) s.heap.objs.size out2 ns many hb val (items.size - 0) 0 _ (by omega) (Nat.zero_le _) ⟨⟨_, Heap.get?_push_size _ rfl, rfl, rfl⟩, isl.push _⟩
          ⟨0, Nat.le_refl 0, setR_new_at (Heap.get?_push_of_some _ at0)⟩ fun sF cF hm hcF hSF => ?_
        obtain ⟨hF, gF, dF, tF, oF⟩ := sF
        have e1 : gF = s.gens := hm.gens
        have e2 : dF = s.drawn := hm.drawn
        have e3 : oF = s.os := hm.os
        subst e1 e2 e3
        show wpAny _ _ _ _ _ _
        refine wpAny_pure ?_
        show wpAny _ _ (ret Value.none) _ _ _
        refine wpAny_pure ⟨rfl, hF, tF, cF, rfl, hSF, by rw [many] at hcF; exact hcF, fun b o e => ?_⟩
        have lb : b < s.heap.objs.size := Heap.lt_size e
        refine hm.heap b o (fun z => ?_) (Heap.get?_push_of_some _ (Heap.get?_push_of_some _ e))
        rcases List.mem_cons.mp z with z | z
        · exact absurd z (Nat.ne_of_lt lb)
        · have z := List.mem_singleton.mp z
          rw [sz1] at z
          exact absurd z (Nat.ne_of_lt (Nat.lt_succ_of_lt lb))
      · cases rE with
        | error e => exact hrE
        | ok flE =>
          cases flE with
          | ret r =>
            obtain ⟨rfl, h', tk, c', rfl, hS', hc', hk'⟩ := hrE
            repeat (any_goals (first | assumption | wp_step))
            exact fin _ _ _ hS' hc' hk'
          | _ => exact hrE.elim
    | _ => exact hr.elim
end
end PD

namespace PD
open PySem L2 PyProof.Rows PySem.Spec
open Evl (Ex)
def insU (x : Int) : List Int → List Int
  | [] => [x]
  | y :: r => if x = y then y :: r else x :: y :: r
/-- strictly rising, the members of ns -/
def usort (ns : List Int) : List Int := (isort ns).foldr insU []
theorem strict_unique : ∀ {xs ys : List Int}, xs.Pairwise (· < ·) → ys.Pairwise (· < ·) → (∀ k, k ∈ xs ↔ k ∈ ys) → xs = ys
  | [], [], _, _, _ => rfl
  | [], y :: ys, _, _, h => absurd ((h y).mpr List.mem_cons_self) List.not_mem_nil
  | x :: xs, [], _, _, h => absurd ((h x).mp List.mem_cons_self) List.not_mem_nil
  | x :: xs, y :: ys, hx, hy, h => by
    have hx' := List.pairwise_cons.mp hx
    have hy' := List.pairwise_cons.mp hy
    have e : x = y := by
      have h1 := (h x).mp List.mem_cons_self
      have h2 := (h y).mpr List.mem_cons_self
      rcases List.mem_cons.mp h1 with z | z
      · exact z
      · rcases List.mem_cons.mp h2 with u | u
        · exact u.symm
        · have a := hy'.1 x z
          have b := hx'.1 y u
          omega
    subst e
    congr 1
    refine strict_unique hx'.2 hy'.2 fun k => ⟨fun hk => ?_, fun hk => ?_⟩
    · rcases List.mem_cons.mp ((h k).mp (List.mem_cons_of_mem _ hk)) with z | z
      · have := hx'.1 k hk
        omega
      · exact z
    · rcases List.mem_cons.mp ((h k).mpr (List.mem_cons_of_mem _ hk)) with z | z
      · have := hy'.1 k hk
        omega
      · exact z
theorem dedup_facts : ∀ {l : List Int}, l.Pairwise (· ≤ ·) → (l.foldr insU []).Pairwise (· < ·) ∧ ∀ k, k ∈ l.foldr insU [] ↔ k ∈ l
  | [], _ => ⟨List.Pairwise.nil, fun k => Iff.rfl⟩
  | x :: l, h => by
    have h' := List.pairwise_cons.mp h
    obtain ⟨i1, i2⟩ := dedup_facts h'.2
    rw [List.foldr_cons]
    generalize (l.foldr insU [] : List Int) = r at i1 i2
    cases r with
    | nil => exact ⟨List.pairwise_singleton _ _, fun k => by
        show k ∈ [x] ↔ k ∈ x :: l
        rw [List.mem_singleton, List.mem_cons, ← i2 k]
        simp⟩
    | cons y r =>
      show (if x = y then y :: r else x :: y :: r).Pairwise (· < ·) ∧ ∀ k, k ∈ (if x = y then y :: r else x :: y :: r) ↔ k ∈ x :: l
      by_cases e : x = y
      · subst e
        rw [if_pos rfl]
        exact ⟨i1, fun k => by rw [i2, List.mem_cons]; exact ⟨.inr, fun z => z.elim (fun z => by rw [z]; exact (i2 x).mp List.mem_cons_self) id⟩⟩
      · rw [if_neg e]
        refine ⟨List.pairwise_cons.mpr ⟨fun k hk => ?_, i1⟩, fun k => by rw [List.mem_cons, i2, List.mem_cons]⟩
        have lx : x < y := by
          have := h'.1 y ((i2 y).mp List.mem_cons_self)
          omega
        rcases List.mem_cons.mp hk with z | z
        · omega
        · have := (List.pairwise_cons.mp i1).1 k z
          omega
theorem isort_le (ns : List Int) : (isort ns).Pairwise (· ≤ ·) := by
  have h2 : (isort ns).Pairwise (fun a b => decide (a ≤ b) = true) := List.pairwise_mergeSort (fun a b c h1 h2 => by simp at *; omega) (fun a b => by simp; omega) ns
  exact h2.imp fun h => by simpa using h
theorem isort_perm (ns : List Int) : (isort ns).Perm ns := List.mergeSort_perm _ _
theorem usort_lt (ns : List Int) : (usort ns).Pairwise (· < ·) := (dedup_facts (isort_le ns)).1
theorem usort_mem {ns : List Int} {k : Int} : k ∈ usort ns ↔ k ∈ ns := ((dedup_facts (isort_le ns)).2 k).trans (isort_perm ns).mem_iff
theorem usort_of {ns xs : List Int} (h : xs.Pairwise (· < ·)) (hm : ∀ k, k ∈ xs ↔ k ∈ ns) : xs = usort ns := strict_unique h (usort_lt ns) fun k => (hm k).trans usort_mem.symm
section
variable {X : Cx} {M : Mk0} {a : Expr} {fa : FE} {pos : Pos}
def rSetL (K : PySem.W.Frag) (w : World) : List V → Hp → VK → Prop := fun xs H Q => ∃ (l : Addr) (ns : List Int), xs = [V.ref l] ∧ SqL K H l (ns.map V.int) ∧ ns.length < 64 ∧ ∀ p n, H p = none → n ≤ ns.length → Q (.ref p) (upd H p (SetO w p (fun j => decide (j ∈ ns)) n))
theorem cr_setL (hc : X.calm = true) : CallR X (.type "set") (rSetL X.K X.w) := by
  intro pins s σ H xs us Q I r h
  obtain ⟨l, ns, rfl, hl, h64, q⟩ := h
  obtain ⟨u, rfl, ru⟩ := vals1 r
  cases ru
  obtain ⟨its, rv, pl, _⟩ := I.list hl
  refine call_setL ns (I.ok.hd hc) pl.isList (by simpa using intsAre_of rv) (Nat.lt_of_le_of_lt (Nat.succ_le_of_lt h64) (by decide : (64 : Nat) < scanBound)) fun h' tk c R hcn hk => ?_
  exact ⟨.ref _, _, I.laid (t' := tk) hk (Nat.le_refl _) (setO_new R), rfl, q _ c (I.hok.fresh (Nat.le_refl _)) hcn⟩
def nSortSet : D → Option (List D)
  | .list xs => match intsD xs with
    | some ns => if ns.length < 64 then some ((usort ns).map PyData.int) else none
    | none => none
  | _ => none
theorem pn_sortset {p p2 pos2 : Pos} (hc : X.calm = true) (hg : Gl X "sorted") (hm : X.mg "sorted" = none) (hg2 : Gl X "set") (hm2 : X.mg "set" = none) (ha : PD X M a fa)
    (hs : starEach [a] X.env = (false, eval a X.env) :: starEach [] X.env := by rfl) (hs2 : starEach [.Call (.Name "set" p2) [a] [] pos2] X.env = (false, eval (.Call (.Name "set" p2) [a] [] pos2) X.env) :: starEach [] X.env := by rfl) :
    PN X M (.Call (.Name "sorted" p) [.Call (.Name "set" p2) [a] [] pos2] [] pos) (fn1 nSortSet fa) := by
  have inner := pe_callTy (pos := pos2) (p := p2) (cr_setL hc) hg2 hm2 (by decide +kernel) (pa_cons ha.pe pa_nil hs) (by decide) (by decide) hs
  refine ⟨PE.wk (pe_callB (cr_sortedSet hc) hg hm (by decide +kernel) (pa_cons inner pa_nil hs2) (by decide) (by decide) hs2) fun σ H Q ⟨P, F, L, ρ, r, k⟩ => ?_, fun ρ k k' g q => ha.mono _ _ _ (fun d ρ1 ⟨ds, h1, h2⟩ => ⟨ds, h1, g _ _ h2⟩) q⟩
  refine ⟨P, F, L, ρ, r, ha.mono _ _ _ (fun d ρ1 ⟨ds, hd, q⟩ v L1 H1 e1 r1 d1 => ?_) k⟩
  unfold nSortSet at hd
  split at hd
  · split at hd
    · split at hd
      · cases hd
        rename_i xs ns hi h64
        obtain ⟨b, vs, rfl, h1, h2⟩ := rp_list d1
        rw [intsD_eq hi] at h2
        rw [dpa_ints_eq h2] at h1
        refine ⟨b, ns, rfl, h1, h64, fun s n hs hn => ?_⟩
        refine ⟨s, _, n, rfl, upd_same, by omega, fun us u hp hmem hlen hu => ?_⟩
        have eu : us = usort ns := usort_of hp fun j => by rw [hmem]; simp
        subst eu
        have fresh : H1 u = none := by
          by_cases z : u = s
          · rw [z, upd_same] at hu
            cases hu
          · rw [upd_ne z] at hu
            exact hu
        have r2 := r1.laid (o := SetO X.w s (fun j => decide (j ∈ ns)) n) hs
        obtain ⟨e3, hF, r3, d3⟩ := new_pin (ds := (usort ns).map PyData.int) r2 (dpa_ints _) hu
        exact q u _ _ _ ((e1.trans (hide_ex (Ex.new hs))).trans e3) hF r3 d3
      · cases hd
    · cases hd
  · cases hd
end
end PD

namespace PD
open PySem L2 PyProof.Rows PySem.Spec
open Evl (Ex)
/-! ### more ways to say it -/
def gNeg : D → Option D
  | .int i => some (.int (-i))
  | _ => none
theorem r1_neg {K : Fr0} : R1D K (rU fun i => .int (-i)) gNeg := by
  intro L H x dx d Q tr hx hg k
  unfold gNeg at hg
  split at hg
  · cases hg
    exact ⟨_, rp_int hx, k _ _ (Ex.refl _) (.int _)⟩
  · cases hg
section
variable {X : Cx} {M : Mk0} {a b c : Expr} {fa fb : FE} {fn fm : FN} {fl : FL} {pos : Pos}
/-- two lists in a row: a new one -/
def nCat : D → D → Option (List D)
  | .list xs, .list ys => if xs.length + ys.length ≤ 1000000 then some (xs ++ ys) else none
  | _, _ => none
def fnCat (fa fb : FE) : FN := fun ρ k => fa ρ fun x ρ1 => fb ρ1 fun y ρ2 => ∃ ds, nCat x y = some ds ∧ k ds ρ2
theorem pn_cat (ha : PD X M a fa) (hb : PD X M b fb) : PN X M (.BinOp a .Add b pos) (fnCat fa fb) := by
  refine ⟨PE.wk (pe_op op_catR ha.pe hb.pe) fun σ H Q ⟨P, F, L, ρ, r, k⟩ => ?_, fun ρ k k' g q => ha.mono _ _ _ (fun x ρ1 q => hb.mono _ _ _ (fun y ρ2 ⟨ds, h1, h2⟩ => ⟨ds, h1, g _ _ h2⟩) q) q⟩
  refine ⟨P, F, L, ρ, r, ha.mono _ _ _ (fun x ρ1 q v L1 H1 e1 r1 d1 => ?_) k⟩
  refine ⟨P, F, L1, ρ1, r1, hb.mono _ _ _ (fun y ρ2 ⟨ds, hd, q⟩ w L2 H2 e2 r2 d2 => ?_) q⟩
  unfold nCat at hd
  split at hd
  · split at hd
    · cases hd
      obtain ⟨l, vs, rfl, h1, h2⟩ := rp_list (dp_ex e2 _ _ d1)
      obtain ⟨l', vs', rfl, h3, h4⟩ := rp_list d2
      refine ⟨l, l', vs, vs', rfl, rfl, h1, h3, by rw [dpa_len h2, dpa_len h4, sizeLine_eq]; omega, fun p hp => ?_⟩
      obtain ⟨e3, hF, r3, d3⟩ := new_pin r2 (dpa_app h2 h4) hp
      exact q p _ _ _ ((e1.trans e2).trans e3) hF r3 d3
    · cases hd
  · cases hd
/-- several names at once -/
theorem pds_par3 {i j l : Nat} {x y z : Str} {px py pz pt : Pos} {kt k2 pt2} (hp : PS X (.Assign [.Tuple [.Name x px, .Name y py, .Name z pz] kt pt] (.Tuple [a, b, c] k2 pt2) pos) (tPar3 i j l (DL X.k0 M fl))) (hl : PDL X M [a, b, c] fl) :
    PDS X M (.Assign [.Tuple [.Name x px, .Name y py, .Name z pz] kt pt] (.Tuple [a, b, c] k2 pt2) pos) (fsPar3 i j l fl) := by
  refine ⟨PS.wk hp fun D' σ H ⟨P, F, L, ρ, r, k⟩ => ?_, fun ρ k k' h q => hl.mono _ _ _ (fun ds ρ1 ⟨x, y, z, e, q⟩ => ⟨x, y, z, e, h.nx _ q⟩) q⟩
  refine ⟨P, F, L, ρ, r, hl.mono _ _ _ (fun ds ρ1 ⟨x, y, z, e, q⟩ vs L1 H1 e1 r1 d1 => ?_) k⟩
  subst e
  cases d1 with
  | cons g1 g2 =>
    cases g2 with
    | cons g3 g4 =>
      cases g4 with
      | cons g5 g6 =>
        cases g6
        exact ⟨_, _, _, rfl, q _ L1 H1 e1 (((r1.setD i (.d x) _ ⟨_, rfl, g1⟩ fun xs z => nomatch z).setD j (.d y) _ ⟨_, rfl, g3⟩ fun xs z => nomatch z).setD l (.d z) _ ⟨_, rfl, g5⟩ fun xs z => nomatch z)⟩
def fsPar_od (i j : Nat) (fn : FN) (fb : FE) : FS := fun ρ P => fn ρ fun ds ρ1 => fb ρ1 fun d ρ2 => P.nx ((ρ2.set i (.own ds)).set j (.d d))
def fsPar_do (i j : Nat) (fa : FE) (fm : FN) : FS := fun ρ P => fa ρ fun d ρ1 => fm ρ1 fun ds ρ2 => P.nx ((ρ2.set i (.d d)).set j (.own ds))
def fsPar_oo (i j : Nat) (fn fm : FN) : FS := fun ρ P => fn ρ fun ds ρ1 => fm ρ1 fun es ρ2 => P.nx ((ρ2.set j (.own es)).set i (.own ds))
theorem rho_comm {i j : Nat} (h : i ≠ j) (ρ : Rho) (s t : Sl) : (ρ.set i s).set j t = (ρ.set j t).set i s := by
  show (⟨(ρ.sl.set i s).set j t, ρ.n⟩ : Rho) = ⟨(ρ.sl.set j t).set i s, ρ.n⟩
  rw [List.set_comm _ _ h]
theorem pds_par_od {i j : Nat} {x y : Str} {px py pt : Pos} {kt k2 pt2} (hc : X.calm = true) (hN : X.N.Nodup) (hi : X.N[i]? = some x) (hj : X.N[j]? = some y) (hij : i ≠ j)
    (hx : X.env.scope.names.lookup x = some .local) (hy : X.env.scope.names.lookup y = some .local) (ha : PN X M a fn) (hb : PD X M b fb)
    (hw : swappedStores [.Tuple [.Name x px, .Name y py] kt pt] (.Tuple [a, b] k2 pt2) X.env = pure (some [x, y]))
    (s1 : starEach [a, b] X.env = (false, eval a X.env) :: starEach [b] X.env := by rfl) (s2 : starEach [b] X.env = (false, eval b X.env) :: starEach [] X.env := by rfl)
    (hs : swapsWithSole [.Tuple [.Name x px, .Name y py] kt pt] (.Tuple [a, b] k2 pt2) pos.line X.env = pure false := by rfl) :
    PDS X M (.Assign [.Tuple [.Name x px, .Name y py] kt pt] (.Tuple [a, b] k2 pt2) pos) (fsPar_od i j fn fb) := by
  refine ⟨PS.wk (ps_par hc hN hi hj hij hx hy (pa_cons ha.pe (pa_cons hb.pe pa_nil s2) s1) hw hs) fun D' σ H ⟨P, F, L, ρ, r, k⟩ => ?_, fun ρ k k' h q => ha.mono _ _ _ (fun ds ρ1 q => hb.mono _ _ _ (fun d ρ2 q => h.nx _ q) q) q⟩
  refine ⟨P, F, L, ρ, r, ha.mono _ _ _ (fun ds ρ1 q p vs L1 H1 e1 hF r1 d1 => ?_) k⟩
  refine ⟨P, _, L1, ρ1, r1, hb.mono _ _ _ (fun d ρ2 q v L2 H2 e2 r2 d2 => ?_) q⟩
  exact ⟨_, _, rfl, q _ L2 H2 (e1.trans e2) ((r2.toOwn hF (dpa_ex e2 _ _ d1) i).setD j (.d d) _ ⟨_, rfl, d2⟩ fun xs z => nomatch z)⟩
theorem pds_par_do {i j : Nat} {x y : Str} {px py pt : Pos} {kt k2 pt2} (hc : X.calm = true) (hN : X.N.Nodup) (hi : X.N[i]? = some x) (hj : X.N[j]? = some y) (hij : i ≠ j)
    (hx : X.env.scope.names.lookup x = some .local) (hy : X.env.scope.names.lookup y = some .local) (ha : PD X M a fa) (hb : PN X M b fm)
    (hw : swappedStores [.Tuple [.Name x px, .Name y py] kt pt] (.Tuple [a, b] k2 pt2) X.env = pure (some [x, y]))
    (s1 : starEach [a, b] X.env = (false, eval a X.env) :: starEach [b] X.env := by rfl) (s2 : starEach [b] X.env = (false, eval b X.env) :: starEach [] X.env := by rfl)
    (hs : swapsWithSole [.Tuple [.Name x px, .Name y py] kt pt] (.Tuple [a, b] k2 pt2) pos.line X.env = pure false := by rfl) :
    PDS X M (.Assign [.Tuple [.Name x px, .Name y py] kt pt] (.Tuple [a, b] k2 pt2) pos) (fsPar_do i j fa fm) := by
  refine ⟨PS.wk (ps_par hc hN hi hj hij hx hy (pa_cons ha.pe (pa_cons hb.pe pa_nil s2) s1) hw hs) fun D' σ H ⟨P, F, L, ρ, r, k⟩ => ?_, fun ρ k k' h q => ha.mono _ _ _ (fun ds ρ1 q => hb.mono _ _ _ (fun d ρ2 q => h.nx _ q) q) q⟩
  refine ⟨P, F, L, ρ, r, ha.mono _ _ _ (fun d ρ1 q v L1 H1 e1 r1 d1 => ?_) k⟩
  refine ⟨P, F, L1, ρ1, r1, hb.mono _ _ _ (fun ds ρ2 q p vs L2 H2 e2 hF r2 d2 => ?_) q⟩
  exact ⟨_, _, rfl, q _ L2 H2 (e1.trans e2) ((r2.setD i (.d d) _ ⟨_, rfl, dp_ex e2 _ _ d1⟩ fun xs z => nomatch z).toOwn hF d2 j)⟩
theorem pds_par_oo {i j : Nat} {x y : Str} {px py pt : Pos} {kt k2 pt2} (hc : X.calm = true) (hN : X.N.Nodup) (hi : X.N[i]? = some x) (hj : X.N[j]? = some y) (hij : i ≠ j)
    (hx : X.env.scope.names.lookup x = some .local) (hy : X.env.scope.names.lookup y = some .local) (ha : PN X M a fn) (hb : PN X M b fm)
    (hw : swappedStores [.Tuple [.Name x px, .Name y py] kt pt] (.Tuple [a, b] k2 pt2) X.env = pure (some [x, y]))
    (s1 : starEach [a, b] X.env = (false, eval a X.env) :: starEach [b] X.env := by rfl) (s2 : starEach [b] X.env = (false, eval b X.env) :: starEach [] X.env := by rfl)
    (hs : swapsWithSole [.Tuple [.Name x px, .Name y py] kt pt] (.Tuple [a, b] k2 pt2) pos.line X.env = pure false := by rfl) :
    PDS X M (.Assign [.Tuple [.Name x px, .Name y py] kt pt] (.Tuple [a, b] k2 pt2) pos) (fsPar_oo i j fn fm) := by
  refine ⟨PS.wk (ps_par hc hN hi hj hij hx hy (pa_cons ha.pe (pa_cons hb.pe pa_nil s2) s1) hw hs) fun D' σ H ⟨P, F, L, ρ, r, k⟩ => ?_, fun ρ k k' h q => ha.mono _ _ _ (fun ds ρ1 q => hb.mono _ _ _ (fun d ρ2 q => h.nx _ q) q) q⟩
  refine ⟨P, F, L, ρ, r, ha.mono _ _ _ (fun ds ρ1 q p vs L1 H1 e1 hF r1 d1 => ?_) k⟩
  refine ⟨P, _, L1, ρ1, r1, hb.mono _ _ _ (fun es ρ2 q p2 ws L2 H2 e2 hF2 r2 d2 => ?_) q⟩
  refine ⟨_, _, rfl, ?_⟩
  rw [List.set_comm _ _ hij]
  exact q _ L2 H2 (e1.trans e2) ((r2.toOwn hF2 d2 j).toOwn hF (dpa_ex e2 _ _ d1) i)
theorem hide_newex {L : List Addr} {H : Hp} {p : Addr} {o : HO} (hp : H p = none) : Ex (hide L H) (hide (p :: L) (upd H p o)) := fun a b hb => by
  obtain ⟨h3, h4⟩ := hide_some.mp hb
  have n : a ≠ p := ne_of_none h4 hp
  exact hide_some.mpr ⟨fun z => by
    rcases List.mem_cons.mp z with z | z
    · exact n z
    · exact h3 z, by rw [upd_ne n]; exact h4⟩
/-- the same through a tuple: a name that a block below keeps -/
theorem pds_tp_od {i j : Nat} {t1 t2 : Expr} {kt k2 : Nat} {pt pt2 : Pos} (hg : PG X (.Tuple [t1, t2] kt pt) (gTup X.K 2 (gCons (gName i) (gCons (gName j) gNil)))) (ha : PN X M a fn) (hb : PD X M b fb)
    (hw : swappedStores [.Tuple [t1, t2] kt pt] (.Tuple [a, b] k2 pt2) X.env = pure none := by rfl)
    (s1 : starEach [a, b] X.env = (false, eval a X.env) :: starEach [b] X.env := by rfl) (s2 : starEach [b] X.env = (false, eval b X.env) :: starEach [] X.env := by rfl)
    (hs : swapsWithSole [.Tuple [t1, t2] kt pt] (.Tuple [a, b] k2 pt2) pos.line X.env = pure false := by rfl) (h1 : (assignEach [.Tuple [t1, t2] kt pt] X.env).map (·.2) = [assign (.Tuple [t1, t2] kt pt) X.env] := by rfl) :
    PDS X M (.Assign [.Tuple [t1, t2] kt pt] (.Tuple [a, b] k2 pt2) pos) (fsPar_od i j fn fb) := by
  refine ⟨PS.wk (ps_asg (pe_tup (pa_cons ha.pe (pa_cons hb.pe pa_nil s2) s1)) hg hs hw h1) fun D' σ H ⟨P, F, L, ρ, r, k⟩ => ?_, fun ρ k k' h q => ha.mono _ _ _ (fun ds ρ1 q => hb.mono _ _ _ (fun d ρ2 q => h.nx _ q) q) q⟩
  refine ⟨P, F, L, ρ, r, ha.mono _ _ _ (fun ds ρ1 q p vs L1 H1 e1 hF r1 d1 => ?_) k⟩
  refine ⟨P, _, L1, ρ1, r1, hb.mono _ _ _ (fun d ρ2 q v L2 H2 e2 r2 d2 => ?_) q⟩
  refine ⟨by show 2 ≤ sizeLine; rw [sizeLine_eq]; omega, fun t ht => ⟨t, _, rfl, .inl (.inl upd_same), rfl, _, _, rfl, _, _, rfl, rfl, ?_⟩⟩
  have e3 := hide_newex (L := L2) (o := HO.tup [.ref p, v]) ht
  exact q _ (t :: L2) _ ((e1.trans e2).trans e3) (((r2.hideMore ht).toOwn hF (dpa_ex (e2.trans e3) _ _ d1) i).setD j (.d d) _ ⟨_, rfl, dp_ex e3 _ _ d2⟩ fun xs z => nomatch z)
theorem pds_tp_do {i j : Nat} {t1 t2 : Expr} {kt k2 : Nat} {pt pt2 : Pos} (hg : PG X (.Tuple [t1, t2] kt pt) (gTup X.K 2 (gCons (gName i) (gCons (gName j) gNil)))) (ha : PD X M a fa) (hb : PN X M b fm)
    (hw : swappedStores [.Tuple [t1, t2] kt pt] (.Tuple [a, b] k2 pt2) X.env = pure none := by rfl)
    (s1 : starEach [a, b] X.env = (false, eval a X.env) :: starEach [b] X.env := by rfl) (s2 : starEach [b] X.env = (false, eval b X.env) :: starEach [] X.env := by rfl)
    (hs : swapsWithSole [.Tuple [t1, t2] kt pt] (.Tuple [a, b] k2 pt2) pos.line X.env = pure false := by rfl) (h1 : (assignEach [.Tuple [t1, t2] kt pt] X.env).map (·.2) = [assign (.Tuple [t1, t2] kt pt) X.env] := by rfl) :
    PDS X M (.Assign [.Tuple [t1, t2] kt pt] (.Tuple [a, b] k2 pt2) pos) (fsPar_do i j fa fm) := by
  refine ⟨PS.wk (ps_asg (pe_tup (pa_cons ha.pe (pa_cons hb.pe pa_nil s2) s1)) hg hs hw h1) fun D' σ H ⟨P, F, L, ρ, r, k⟩ => ?_, fun ρ k k' h q => ha.mono _ _ _ (fun ds ρ1 q => hb.mono _ _ _ (fun d ρ2 q => h.nx _ q) q) q⟩
  refine ⟨P, F, L, ρ, r, ha.mono _ _ _ (fun d ρ1 q v L1 H1 e1 r1 d1 => ?_) k⟩
  refine ⟨P, F, L1, ρ1, r1, hb.mono _ _ _ (fun ds ρ2 q p vs L2 H2 e2 hF r2 d2 => ?_) q⟩
  refine ⟨by show 2 ≤ sizeLine; rw [sizeLine_eq]; omega, fun t ht => ⟨t, _, rfl, .inl (.inl upd_same), rfl, _, _, rfl, _, _, rfl, rfl, ?_⟩⟩
  have e3 := hide_newex (L := L2) (o := HO.tup [v, .ref p]) ht
  exact q _ (t :: L2) _ ((e1.trans e2).trans e3) (((r2.hideMore ht).setD i (.d d) _ ⟨_, rfl, dp_ex (e2.trans e3) _ _ d1⟩ fun xs z => nomatch z).toOwn hF (dpa_ex e3 _ _ d2) j)
theorem pds_tp_oo {i j : Nat} {t1 t2 : Expr} {kt k2 : Nat} {pt pt2 : Pos} (hij : i ≠ j) (hg : PG X (.Tuple [t1, t2] kt pt) (gTup X.K 2 (gCons (gName i) (gCons (gName j) gNil)))) (ha : PN X M a fn) (hb : PN X M b fm)
    (hw : swappedStores [.Tuple [t1, t2] kt pt] (.Tuple [a, b] k2 pt2) X.env = pure none := by rfl)
    (s1 : starEach [a, b] X.env = (false, eval a X.env) :: starEach [b] X.env := by rfl) (s2 : starEach [b] X.env = (false, eval b X.env) :: starEach [] X.env := by rfl)
    (hs : swapsWithSole [.Tuple [t1, t2] kt pt] (.Tuple [a, b] k2 pt2) pos.line X.env = pure false := by rfl) (h1 : (assignEach [.Tuple [t1, t2] kt pt] X.env).map (·.2) = [assign (.Tuple [t1, t2] kt pt) X.env] := by rfl) :
    PDS X M (.Assign [.Tuple [t1, t2] kt pt] (.Tuple [a, b] k2 pt2) pos) (fsPar_oo i j fn fm) := by
  refine ⟨PS.wk (ps_asg (pe_tup (pa_cons ha.pe (pa_cons hb.pe pa_nil s2) s1)) hg hs hw h1) fun D' σ H ⟨P, F, L, ρ, r, k⟩ => ?_, fun ρ k k' h q => ha.mono _ _ _ (fun ds ρ1 q => hb.mono _ _ _ (fun d ρ2 q => h.nx _ q) q) q⟩
  refine ⟨P, F, L, ρ, r, ha.mono _ _ _ (fun ds ρ1 q p vs L1 H1 e1 hF r1 d1 => ?_) k⟩
  refine ⟨P, _, L1, ρ1, r1, hb.mono _ _ _ (fun es ρ2 q p2 ws L2 H2 e2 hF2 r2 d2 => ?_) q⟩
  refine ⟨by show 2 ≤ sizeLine; rw [sizeLine_eq]; omega, fun t ht => ⟨t, _, rfl, .inl (.inl upd_same), rfl, _, _, rfl, _, _, rfl, rfl, ?_⟩⟩
  have e3 := hide_newex (L := L2) (o := HO.tup [.ref p, .ref p2]) ht
  rw [List.set_comm _ _ hij]
  exact q _ (t :: L2) _ ((e1.trans e2).trans e3) (((r2.hideMore ht).toOwn hF2 (dpa_ex e3 _ _ d2) j).toOwn hF (dpa_ex (e2.trans e3) _ _ d1) i)
end
end PD

namespace PD
open PySem L2 PyProof.Rows PySem.Spec
open Evl (Ex)
/-! ### a draw: only the object of the draws has changed -/
theorem R.drawn {K : Fr0} {M : Mk0} {F : Hp} {L : List Addr} {ρ : Rho} {σ : L2.St} {H H' : Hp} {p : Addr} {A A' : List Addr} {m : Nat} (r : R K M (some p) F L ρ σ H)
    (hA : (∀ a ∈ A, a ∈ L ∧ F a = none) ∧ ∀ (i : Nat) (xs : Ow) (l : Addr), ρ.sl[i]? = some (.own xs) → σ[i]? = some (some (.ref l)) → l ∉ A)
    (h : M.holds K p m A' H') (same : ∀ a o, H a = some o → a ∉ A → H' a = some o) (tA : ∀ a ∈ A, ∃ o, H' a = some o) (nA : ∀ a ∈ A', (a ∈ A ∨ H a = none) ∧ ∃ o, H' a = some o) :
    Ex (hide L H) (hide (A' ++ L) H') ∧ R K M (some p) F (A' ++ L) ⟨ρ.sl, m⟩ σ H' := by
  have e : Ex (hide L H) (hide (A' ++ L) H') := fun a o ho => by
    obtain ⟨h1, h2⟩ := hide_some.mp ho
    have n1 : a ∉ A := fun z => h1 (hA.1 a z).1
    refine hide_some.mpr ⟨fun z => ?_, same a o h2 n1⟩
    rcases List.mem_append.mp z with z | z
    · rcases (nA a z).1 with q | q
      · exact n1 q
      · rw [q] at h2; cases h2
    · exact h1 z
  have notA : ∀ {i : Nat} {xs : Ow} {l : Addr}, ρ.sl[i]? = some (.own xs) → σ[i]? = some (some (.ref l)) → ∃ o, H l = some o := fun {i xs l} h1 h2 => by
    obtain ⟨l', vs, g1, g2, g3, _⟩ := r.getOwn h1
    rw [h2] at g1
    cases g1
    exact ⟨_, g3⟩
  refine ⟨e, r.len, fun i s o h1 h2 => ?_, fun a o ho => ?_, fun a ha => ?_, r.apart, r.ownF, fun q hq => ?_⟩
  · have g := r.sl i s o h1 h2
    cases s with
    | no => trivial
    | d x =>
      obtain ⟨v, g1, g2⟩ := g
      exact ⟨v, g1, dp_ex e _ _ g2⟩
    | own xs =>
      obtain ⟨l, vs, g1, g2, g3, g4⟩ := g
      subst g1
      exact ⟨l, vs, rfl, List.mem_append_right _ g2, same l _ g3 (hA.2 i xs l h1 h2), g4.up e⟩
    | st => exact g
    | raw v => exact g
    | exc a d fl => exact ⟨g.1, g.2.up e⟩
  · obtain ⟨f1, f2⟩ := r.fr a o ho
    refine ⟨same a o f1 fun z => ?_, List.mem_append_right _ f2⟩
    rw [(hA.1 a z).2] at ho
    cases ho
  · rcases List.mem_append.mp ha with z | z
    · exact (nA a z).2
    · by_cases ia : a ∈ A
      · exact tA a ia
      · obtain ⟨o, ho⟩ := r.tr a z
        exact ⟨o, same a o ho ia⟩
  · cases hq
    refine ⟨A', h, fun a ha => ⟨List.mem_append_left _ ha, ?_⟩, fun i xs l h1 h2 z => ?_⟩
    · rcases (nA a ha).1 with q | q
      · exact (hA.1 a q).2
      · cases f : F a with
        | none => rfl
        | some o =>
          have := (r.fr a o f).1
          rw [q] at this
          cases this
    · rcases (nA l z).1 with q | q
      · exact hA.2 i xs l h1 h2 q
      · obtain ⟨o, ho⟩ := notA h1 h2
        rw [q] at ho
        cases ho
end PD

namespace PD
open PySem L2 PyProof.Rows PySem.Spec
open Evl (Ex)
/-! ### m = begun(..): the draws begin -/
def noSt (s : Sl) : Sl := match s with
  | .st => .no
  | s => s
/-- the promise of a def that makes an object of draws -/
def spB (K : Fr0) (M : Mk0) (n : Nat) (B : List D → Prop) : Sp := fun vs H Q _ => vs.length = n ∧ ∃ ds, RpAll K H vs ds ∧ B ds ∧ ∀ p A H', (∀ a o, H a = some o → H' a = some o) → (∀ a ∈ A, H a = none ∧ ∃ o, H' a = some o) → M.holds K p 0 A H' → Q (.ref p) H'
def keepA (A0 : List Addr) (F H : Hp) : Hp := fun a => if a ∈ A0 then H a else F a
section
variable {K : Fr0} {M : Mk0} {P : Option Addr} {F : Hp} {L L' : List Addr} {ρ ρ' : Rho} {σ σ' : L2.St} {H H' : Hp}
/-- a new object of draws in a slot, the old one's things are kept -/
theorem R.begin (r : R K M P F L ρ σ H) (i : Nat) (hns : ∀ j : Nat, ρ.sl[j]? ≠ some Sl.st) {p : Addr} {A : List Addr} {H2 : Hp} (hk : ∀ a o, H a = some o → H2 a = some o) (hA : ∀ a ∈ A, H a = none ∧ ∃ o, H2 a = some o) (hm : M.holds K p 0 A H2) :
    ∃ F2, Ex (hide L H) (hide (A ++ L) H2) ∧ R K M (some p) F2 (A ++ L) ⟨ρ.sl.set i .st, 0⟩ (σ.set i (some (.ref p))) H2 ∧
      ∀ L' ρ' σ' H', Ex (hide (A ++ L) H2) (hide L' H') → R K M (some p) F2 L' ρ' σ' H' → R K M P F L' ⟨ρ'.sl.map noSt, ρ.n + ρ'.n⟩ σ' H' := by
  obtain ⟨A0, h0⟩ : ∃ A0 : List Addr, (∀ q, P = some q → M.holds K q ρ.n A0 H) ∧ (∀ a ∈ A0, a ∈ L ∧ F a = none) ∧ ∀ (i : Nat) (xs : Ow) (l : Addr), ρ.sl[i]? = some (.own xs) → σ[i]? = some (some (.ref l)) → l ∉ A0 := by
    cases P with
    | none => exact ⟨[], ⟨fun q z => by (cases z), fun a z => absurd z List.not_mem_nil, fun _ _ _ _ _ z => absurd z List.not_mem_nil⟩⟩
    | some q =>
      obtain ⟨A0, a1, a2, a3⟩ := r.m q rfl
      exact ⟨A0, fun q' z => by cases z; exact a1, a2, a3⟩
  obtain ⟨m0, a2, a3⟩ := h0
  have e : Ex (hide L H) (hide (A ++ L) H2) := fun a o ho => by
    obtain ⟨h1, h2⟩ := hide_some.mp ho
    refine hide_some.mpr ⟨fun z => ?_, hk a o h2⟩
    rcases List.mem_append.mp z with z | z
    · rw [(hA a z).1] at h2; cases h2
    · exact h1 z
  have kA : ∀ {a : Addr}, a ∈ A0 → keepA A0 F H a = H a := fun {a} h => by unfold keepA; rw [if_pos h]
  have kN : ∀ {a : Addr}, a ∉ A0 → keepA A0 F H a = F a := fun {a} h => by unfold keepA; rw [if_neg h]
  have inH : ∀ {j : Nat} {xs : Ow} {l : Addr}, ρ.sl[j]? = some (Sl.own xs) → σ[j]? = some (some (V.ref l)) → ∃ o, H l = some o := fun {j xs l} h1 h2 => by
    obtain ⟨l', vs, g1, g2, g3, _⟩ := r.getOwn h1
    rw [h2] at g1
    cases g1
    exact ⟨_, g3⟩
  have slot : ∀ {j : Nat} {s : Sl}, (ρ.sl.set i .st)[j]? = some s → j ≠ i → ρ.sl[j]? = some s := fun {j s} h n => by rwa [List.getElem?_set_ne (fun z => n z.symm)] at h
  have slotσ : ∀ {j : Nat} {o : Option V}, (σ.set i (some (V.ref p)))[j]? = some o → j ≠ i → σ[j]? = some o := fun {j s} h n => by rwa [List.getElem?_set_ne (fun z => n z.symm)] at h
  have here : ∀ {j : Nat} {s : Sl}, (ρ.sl.set i .st)[j]? = some s → j = i → s = .st := fun {j s} h n => by
    subst n
    have hj : j < ρ.sl.length := by
      have := (List.getElem?_eq_some_iff.mp h).1
      simpa using this
    rw [List.getElem?_set_self hj] at h
    cases h
    rfl
  have ownNe : ∀ {j : Nat} {xs : Ow}, (ρ.sl.set i .st)[j]? = some (Sl.own xs) → j ≠ i := fun {j xs} h z => by have := here h z; cases this
  refine ⟨keepA A0 F H, e, ⟨by simp [r.len], fun j s o h1 h2 => ?_, fun a o ho => ?_, fun a ha => ?_, fun a b xs ys l hab h1 h2 h3 h4 => ?_, fun j xs l h1 h2 => ?_, fun q hq => ?_⟩, fun L' ρ' σ' H' e' r' => ?_⟩
  · have h1 : (ρ.sl.set i .st)[j]? = some s := h1
    by_cases ej : j = i
    · have := here h1 ej
      subst this
      subst ej
      have hj : j < σ.length := by
        have := (List.getElem?_eq_some_iff.mp h2).1
        simpa using this
      rw [List.getElem?_set_self hj] at h2
      cases h2
      exact ⟨p, rfl, rfl⟩
    · have g := r.sl j s o (slot h1 ej) (slotσ h2 ej)
      cases s with
      | no => trivial
      | d x =>
        obtain ⟨v, g1, g2⟩ := g
        exact ⟨v, g1, dp_ex e _ _ g2⟩
      | own xs =>
        obtain ⟨l, vs, g1, g2, g3, g4⟩ := g
        exact ⟨l, vs, g1, List.mem_append_right _ g2, hk l _ g3, g4.up e⟩
      | st => exact absurd (slot h1 ej) (hns j)
      | raw v => exact g
      | exc a d fl => exact ⟨g.1, g.2.up e⟩
  · by_cases ha : a ∈ A0
    · rw [kA ha] at ho
      exact ⟨hk a o ho, List.mem_append_right _ (a2 a ha).1⟩
    · rw [kN ha] at ho
      obtain ⟨f1, f2⟩ := r.fr a o ho
      exact ⟨hk a o f1, List.mem_append_right _ f2⟩
  · rcases List.mem_append.mp ha with z | z
    · exact (hA a z).2
    · obtain ⟨o, ho⟩ := r.tr a z
      exact ⟨o, hk a o ho⟩
  · have n1 := ownNe h1
    have n2 := ownNe h2
    exact r.apart a b xs ys l hab (slot h1 n1) (slot h2 n2) (slotσ h3 n1) (slotσ h4 n2)
  · have n1 := ownNe h1
    have g1 := slot h1 n1
    have g2 := slotσ h2 n1
    rw [kN (a3 j xs l g1 g2)]
    exact r.ownF j xs l g1 g2
  · cases hq
    refine ⟨A, hm, fun a ha => ⟨List.mem_append_left _ ha, ?_⟩, fun j xs l h1 h2 z => ?_⟩
    · have hn := (hA a ha).1
      by_cases i0 : a ∈ A0
      · rw [kA i0]; exact hn
      · rw [kN i0]
        cases f : F a with
        | none => rfl
        | some o =>
          have := (r.fr a o f).1
          rw [hn] at this
          cases this
    · have n1 := ownNe h1
      obtain ⟨o, ho⟩ := inH (slot h1 n1) (slotσ h2 n1)
      rw [(hA l z).1] at ho
      cases ho
  · have frz : ∀ {j : Nat} {s : Sl}, (ρ'.sl.map noSt)[j]? = some s → s = .no ∨ (ρ'.sl[j]? = some s ∧ s ≠ .st) := fun {j s} h => by
      rw [List.getElem?_map] at h
      cases z : ρ'.sl[j]? with
      | none => rw [z] at h; cases h
      | some t =>
        rw [z] at h
        cases t <;> (cases h; first | exact .inl rfl | exact .inr ⟨rfl, by intro q; cases q⟩)
    have own' : ∀ {j : Nat} {xs : Ow}, (ρ'.sl.map noSt)[j]? = some (Sl.own xs) → ρ'.sl[j]? = some (.own xs) := fun {j xs} h => by
      rcases frz h with z | z
      · cases z
      · exact z.1
    have FF : ∀ {a : Addr} {o : HO}, F a = some o → keepA A0 F H a = some o := fun {a o} h => by
      by_cases i0 : a ∈ A0
      · rw [(a2 a i0).2] at h; cases h
      · rw [kN i0]; exact h
    refine ⟨by simp [r'.len], fun j s o h1 h2 => ?_, fun a o ho => r'.fr a o (FF ho), r'.tr, fun a b xs ys l hab h1 h2 h3 h4 => r'.apart a b xs ys l hab (own' h1) (own' h2) h3 h4, fun j xs l h1 h2 => ?_, fun q hq => ?_⟩
    · rcases frz h1 with z | z
      · subst z; trivial
      · have g := r'.sl j s o z.1 h2
        cases s with
        | no => trivial
        | d x => exact g
        | own xs => exact g
        | st => exact absurd rfl z.2
        | raw v => exact g
        | exc a d fl => exact g
    · have g := r'.ownF j xs l (own' h1) h2
      cases f : F l with
      | none => rfl
      | some o =>
        rw [FF f] at g
        cases g
    · have old : ∀ a ∈ A0, ∀ o, H a = some o → H' a = some o ∧ a ∈ L' := fun a ha o ho => r'.fr a o (by rw [kA ha]; exact ho)
      refine ⟨A0, M.le (Nat.le_add_right _ _) (M.loc (fun a ha o ho => (old a ha o ho).1) (m0 q hq)), fun a ha => ⟨?_, (a2 a ha).2⟩, fun j xs l h1 h2 z => ?_⟩
      · obtain ⟨o, ho⟩ := r.tr a (a2 a ha).1
        exact (old a ha o ho).2
      · have g := r'.ownF j xs l (own' h1) h2
        rw [kA z] at g
        obtain ⟨o, ho⟩ := r.tr l (a2 l z).1
        rw [ho] at g
        cases g
end
section
variable {X : Cx} {M : Mk0} {e : Expr} {es : List Expr} {fl : FL} {fs : FS} {pos spos p : Pos} {st : Stmt} {sts : List Stmt} {k : Nat} {f : Addr} {fd : FuncData} {ps : List Str} {n : Nat} {x y : Str} {py : Pos}
def fsBegin (i n : Nat) (B : List D → Prop) (fl : FL) (fs : FS) : FS := fun ρ P => fl ρ fun ds ρ1 => (∀ j : Nat, ρ1.sl[j]? ≠ some Sl.st) ∧ ds.length = n ∧ B ds ∧ fs ⟨ρ1.sl.set i .st, 0⟩
  { nx := fun ρ' => P.nx ⟨ρ'.sl.map noSt, ρ1.n + ρ'.n⟩, rt := fun d ρ' => P.rt d ⟨ρ'.sl.map noSt, ρ1.n + ρ'.n⟩, bk := fun ρ' => P.bk ⟨ρ'.sl.map noSt, ρ1.n + ρ'.n⟩, ct := fun ρ' => P.ct ⟨ρ'.sl.map noSt, ρ1.n + ρ'.n⟩ }
theorem pds_begin {i : Nat} {B : List D → Prop} (G : FnG X.prog X.w X.K X.mg X.base (L2.CX X.prog X.w) k f fd ps (spB X.k0 M n B)) (hgd : X.A.guards = some []) (hr : Room k X.A) (hg : Gl X x) (hm : X.mg x = some (.ref f)) (hk : PySem.W.keepIn X.K (.ref f) = true) (hb : Binds X.K fd ps [])
    (ha : PDL X M (e :: es) fl) (hn : PG X (.Name y py) (gName i)) (hs : PDs X M sts fs) (hdb : (x == ("__debug__" : Str)) = false := by decide) (he : starEach (e :: es) X.env = (false, eval e X.env) :: starEach es X.env := by rfl)
    (hpl : (backTo pos (starEach es X.env)).any (·.1) = false := by rfl)
    (hsw : swapsWithSole [.Name y py] (.Call (.Name x p) (e :: es) [] pos) spos.line X.env = pure false := by rfl) (hw : swappedStores [.Name y py] (.Call (.Name x p) (e :: es) [] pos) X.env = pure none := by rfl)
    (h1 : (assignEach [.Name y py] X.env).map (·.2) = [assign (.Name y py) X.env] := by rfl) :
    PDs X M (.Assign [.Name y py] (.Call (.Name x p) (e :: es) [] pos) spos :: sts) (fsBegin i n B fl fs) := by
  refine ⟨PSs.wk (pss_cons (ps_asg (pe_callG (E := E0) G hgd hr hg hm hk hb passF ha.pa hdb he hpl) hn hsw hw h1) hs.ps) fun D σ H ⟨P, F, L, ρ, r, q⟩ => ?_,
    fun ρ q q' h z => ha.mono _ _ _ (fun ds ρ1 z => ⟨z.1, z.2.1, z.2.2.1, hs.mono _ _ _ ⟨fun _ z => h.nx _ z, fun _ _ z => h.rt _ _ z, fun _ z => h.bk _ z, fun _ z => h.ct _ z⟩ z.2.2.2⟩) z⟩
  refine ⟨P, F, L, ρ, r, ha.mono _ _ _ (fun ds ρ1 z vs L1 H1 e1 r1 d1 => ?_) q⟩
  obtain ⟨z1, z2, z3, z4⟩ := z
  refine ⟨by rw [dpa_len d1]; exact z2, ds, dpa_ex (hide_le L1 H1) _ _ d1, z3, fun pp A H2 hk2 hA hold => ?_⟩
  obtain ⟨F2, e2, r2, back⟩ := r1.begin i z1 hk2 hA hold
  refine ⟨some pp, F2, A ++ L1, _, r2, hs.mono _ _ _ ⟨fun ρ' g σ' L' H' e' r' => ?_, fun d ρ' g v σ' L' H' e' r' d' => ?_, fun ρ' g σ' L' H' e' r' => ?_, fun ρ' g σ' L' H' e' r' => ?_⟩ z4⟩
  · exact g σ' L' H' ((e1.trans e2).trans e') (back _ _ _ _ e' r')
  · exact g v σ' L' H' ((e1.trans e2).trans e') (back _ _ _ _ e' r') d'
  · exact g σ' L' H' ((e1.trans e2).trans e') (back _ _ _ _ e' r')
  · exact g σ' L' H' ((e1.trans e2).trans e') (back _ _ _ _ e' r')
end
end PD

namespace PD
open PySem L2 PyProof.Rows PySem.Spec
open Evl (Ex)
/-! ### the draws of the first kind -/
def kvA (c l : Addr) (k : Int) : List (Key × V) := [(.inr "cells", .ref c), (.inr "left", .ref l), (.inr "at", .int k)]
def MA : Mk0 where
  holds _ p n A H := ∃ (c l : Addr) (cs ls : List Int) (k : Int), A = [p, c, l] ∧ c ≠ l ∧ H p = some (.dK (kvA c l k)) ∧ H c = some (.lst (cs.map V.int)) ∧ H l = some (.lst (ls.map V.int)) ∧ 0 ≤ k ∧ k ≤ n ∧ cs.length ≤ 63 ∧ ls.length ≤ 63
  loc := fun {K p n A H H'} h ⟨c, l, cs, ls, k, eA, n1, h1, h2, h3, r⟩ => by
    subst eA
    exact ⟨c, l, cs, ls, k, rfl, n1, h _ (by simp) _ h1, h _ (by simp) _ h2, h _ (by simp) _ h3, r⟩
  le := fun {K p n m A H} hm ⟨c, l, cs, ls, k, eA, n1, h1, h2, h3, a, b, r⟩ => ⟨c, l, cs, ls, k, eA, n1, h1, h2, h3, a, by omega, r⟩
structure SA (H0 : Hp) (p c l0 : Addr) (cs : List Int) (l : Addr) (ls : List Int) (k : Int) (H : Hp) : Prop where
  hp : H p = some (.dK (kvA c l k))
  hc : H c = some (.lst (cs.map V.int))
  hl : H l = some (.lst (ls.map V.int))
  ncl : c ≠ l
  fresh : l = l0 ∨ H0 l = none
  same : ∀ a o, H0 a = some o → a ≠ p → a ≠ l0 → H a = some o
  h0 : ∃ o, H l0 = some o
  cn : c ≠ l0
  ln : ls.length ≤ 63
section
variable {H0 H : Hp} {p c l0 l : Addr} {cs ls : List Int} {k : Int}
theorem SA.new (S : SA H0 p c l0 cs l ls k H) {t : Addr} {o : HO} (ht : H t = none) : SA H0 p c l0 cs l ls k (upd H t o) :=
  ⟨by rw [upd_ne (ne_of_none S.hp ht)]; exact S.hp, by rw [upd_ne (ne_of_none S.hc ht)]; exact S.hc, by rw [upd_ne (ne_of_none S.hl ht)]; exact S.hl, S.ncl, S.fresh,
   fun a o' h n1 n2 => by have := S.same a o' h n1 n2; rw [upd_ne (ne_of_none this ht)]; exact this, by obtain ⟨o', h⟩ := S.h0; exact ⟨o', by rw [upd_ne (ne_of_none h ht)]; exact h⟩, S.cn, S.ln⟩
theorem SA.np (S : SA H0 p c l0 cs l ls k H) : p ≠ l ∧ p ≠ c := by
  constructor
  · intro e
    have h := S.hp
    rw [e, S.hl] at h
    cases h
  · intro e
    have h := S.hp
    rw [e, S.hc] at h
    cases h
theorem kvA_cells : valV (kvA c l k) (.inr "cells" : Key) = some (.ref c) := rfl
theorem kvA_left : valV (kvA c l k) (.inr "left" : Key) = some (.ref l) := rfl
theorem kvA_at : valV (kvA c l k) (.inr "at" : Key) = some (.int k) := rfl
theorem kvA_pleft {l' : Addr} : putK (kvA c l k) (.inr "left" : Key) (.ref l') = kvA c l' k := rfl
theorem kvA_pat {k' : Int} : putK (kvA c l k) (.inr "at" : Key) (.int k') = kvA c l k' := rfl
end
theorem hide_nil (H : Hp) : hide [] H = H := by
  funext a
  unfold hide
  rw [if_neg List.not_mem_nil]
theorem dp_ints {K : PySem.W.Frag} {w : World} {H : Hp} {l : Addr} {ls : List Int} (h : H l = some (.lst (ls.map V.int))) : Dp K H (.ref l) (.list (ls.map PyData.int)) := by
  exact rp_dp (K := ⟨K, w⟩) _ _ (SeqAt.canLay_of_shaped (PySem.W.ke_shaped_ints ls)) (.lst (.inl (.inl h)) (dpa_ints _))
/-- o[key] != [], o a dict, a list of ints there -/
theorem t_neNil {K : PySem.W.Frag} (w : World) {σ : L2.St} {H : Hp} {Q : Bool → Hp → Prop} {i : Nat} {p l : Addr} {kvs : List (Key × V)} {x : Str} {ls : List Int} (h0 : σ[i]? = some (some (.ref p))) (hp : H p = some (.dK kvs)) (hv : valV kvs (.inr x : Key) = some (.ref l))
    (hl : H l = some (.lst (ls.map V.int))) (q : ∀ t, H t = none → Q (!decide (ls = [])) (upd H t (.lst []))) : tTest (tOp (rNeD K) (tDGet (tVar i) (tC (.str x))) (tLst tNil)) σ H Q := by
  refine ⟨_, h0, p, .ref l, rfl, by have := DGet.k (k := (.inr x : Key)) hp; rw [hv] at this; exact this, by show 0 ≤ sizeLine; omega, fun t ht => ?_⟩
  refine ⟨_, _, dp_ints (w := w) (by rw [upd_ne (ne_of_none hl ht)]; exact hl), dp_ints (w := w) (ls := []) upd_same, PySem.W.ke_shaped_ints _, PySem.W.ke_shaped_ints [], _, rfl, ?_⟩
  have e : PyData.eqv (.list (ls.map PyData.int)) (.list (([] : List Int).map PyData.int)) = decide (ls = []) := by
    cases ls with
    | nil => rfl
    | cons a b => simp [PyData.eqv, PyData.eqvAll]
  rw [e]
  exact q t ht
/-- o[key] -/
theorem t_get {σ : L2.St} {H : Hp} {Q : VK} {i : Nat} {p : Addr} {kvs : List (Key × V)} {x : Str} {v : V} (h0 : σ[i]? = some (some (.ref p))) (hp : H p = some (.dK kvs)) (hv : valV kvs (.inr x : Key) = some v) (q : Q v H) : tDGet (tVar i) (tC (.str x)) σ H Q :=
  ⟨_, h0, p, v, rfl, by have := DGet.k (k := (.inr x : Key)) hp; rw [hv] at this; exact this, q⟩
def W_nextA : FE := fun ρ k => ∃ t : Int, ρ.sl = [.st, .d (.int t)] ∧ 0 < t ∧ t < 1073741824 ∧ ρ.n < 1000000000000 ∧ ∀ r : Int, 0 ≤ r → r < t → k (.int r) ⟨ρ.sl, ρ.n + 1⟩
theorem mW_nextA (ρ : Rho) (k k' : KD) (h : ∀ d ρ', k d ρ' → k' d ρ') (q : W_nextA ρ k) : W_nextA ρ k' := by
  obtain ⟨t, e, h1, h0, h2, h3⟩ := q
  exact ⟨t, e, h1, h0, h2, fun r a b => h _ _ (h3 r a b)⟩
theorem at0 {α : Type} {x : α} {xs : List α} : atI (x :: xs) 0 = some x := atI_nat (j := 0) rfl
theorem cut1 {x : V} {xs : List V} : cutV (x :: xs) (some 1) none = xs := by
  unfold cutV
  have e1 : HT.sIx (x :: xs).length 0 (some 1) = 1 := by
    simp [HT.sIx]
  have e2 : HT.sIx (x :: xs).length (x :: xs).length none = (x :: xs).length := by simp [HT.sIx]
  rw [e1, e2]
  simp
/-- the end of a draw -/
theorem endA {K : Fr0} {F : Hp} {L : List Addr} {ρ : Rho} {σ : L2.St} {H Hf : Hp} {p c l0 l : Addr} {cs ls : List Int} {k : Int} {Q : VK} {t x : Int} (r : R K MA (some p) F L ρ σ H)
    (hA : (∀ a ∈ [p, c, l0], a ∈ L ∧ F a = none) ∧ ∀ (i : Nat) (xs : Ow) (l : Addr), ρ.sl[i]? = some (.own xs) → σ[i]? = some (some (.ref l)) → l ∉ [p, c, l0])
    (S : SA H p c l0 cs l ls k Hf) (hH : H p ≠ none ∧ H c ≠ none) (hc : cs.length ≤ 63) (h0 : 0 ≤ k) (h1 : k ≤ (ρ.n + 1 : Nat)) (ht : 0 < t)
    (hk : ∀ r : Int, 0 ≤ r → r < t → KV' K MA (some p) F L σ H Q (.int r) ⟨ρ.sl, ρ.n + 1⟩) : Q (.int (x % t)) Hf := by
  obtain ⟨e, r'⟩ := R.drawn (M := MA) (A' := [p, c, l]) (m := ρ.n + 1) r hA ⟨c, l, cs, ls, k, rfl, S.ncl, S.hp, S.hc, S.hl, h0, h1, hc, S.ln⟩ (fun a o ha n => S.same a o ha (fun e => n (by simp [e])) (fun e => n (by simp [e])))
    (fun a ha => by
      rcases List.mem_cons.mp ha with e | ha
      · exact ⟨_, e ▸ S.hp⟩
      · rcases List.mem_cons.mp ha with e | ha
        · exact ⟨_, e ▸ S.hc⟩
        · rcases List.mem_cons.mp ha with e | ha
          · exact e ▸ S.h0
          · cases ha)
    (fun a ha => by
      rcases List.mem_cons.mp ha with e | ha
      · exact ⟨.inl (by simp [e]), _, e ▸ S.hp⟩
      · rcases List.mem_cons.mp ha with e | ha
        · exact ⟨.inl (by simp [e]), _, e ▸ S.hc⟩
        · rcases List.mem_cons.mp ha with e | ha
          · refine ⟨?_, _, e ▸ S.hl⟩
            rcases S.fresh with f | f
            · exact .inl (by simp [e, f])
            · exact .inr (by rw [e]; exact f)
          · cases ha)
  exact hk (x % t) (Int.emod_nonneg _ (by omega)) (Int.emod_lt_of_pos _ ht) _ _ _ e r' (.int _)
theorem comp_big (ns : List Int) : ∀ (acc : List Int) (ρ : Rho) (k : List D → Rho → Prop) (s0 s1 : Sl), ρ.sl = [s0, s1] → (∀ ms : List Int, ms.length ≤ acc.length + ns.length → k (ms.map .int) ρ) →
    compD (fgN 1) (ftB (fOp gGe (fVar 1) (fOp gPow (fC (.int 10)) (fC (.int 18))))) (fVar 1) [1] (ns.map .int) (acc.map .int) ρ k := by
  induction ns with
  | nil => intro acc ρ k s0 s1 e h; exact h acc (by simp)
  | cons x xs ih =>
    intro acc ρ k s0 s1 e h
    obtain ⟨sl, n⟩ := ρ
    simp only at e
    subst e
    refine ⟨.int x, rfl, .int (10 ^ 18), by simp [gPow], _, rfl, _, rfl, ?_⟩
    refine ite2 (fun _ => ?_) (fun _ => ?_)
    · refine ⟨.int x, rfl, ?_⟩
      have := ih (acc ++ [x]) ⟨[s0, s1], n⟩ k s0 s1 rfl fun ms hm => h ms (by simp at hm ⊢; omega)
      rw [List.map_append] at this
      exact this
    · exact ih acc ⟨[s0, s1], n⟩ k s0 s1 rfl fun ms hm => h ms (by simp at hm ⊢; omega)
def B_law : List D → Prop := fun ds => ∃ ns : List Int, ds = [.list (ns.map .int)] ∧ ns.length ≤ 63
end PD

namespace PD
open PySem L2 PyProof.Rows PySem.Spec
open Evl (Ex)
theorem spD_imp {K : Fr0} {M : Mk0} {n : Nat} {W W' : FE} (h : ∀ ρ k, W' ρ k → W ρ k) (vs : List V) (H : Hp) (Q : VK) (E : XK) (q : spD K M n W' vs H Q E) : spD K M n W vs H Q E := by
  obtain ⟨P, F, L, ρ, r, hb, hl, hw⟩ := q
  exact ⟨P, F, L, ρ, r, hb, hl, h _ _ hw⟩
/-- a comprehension whose parts draw nothing -/
theorem comp_pure {g : FG} {ft : FT} {fe : FE} {vs : List Nat} {ρ : Rho} {k : List D → Rho → Prop} (p : D → Bool) (h : D → D) : ∀ (xs acc : List D),
    (∀ x ∈ xs, ∀ (kt : D → Rho → Prop) (kf : Rho → Prop), (p x = true → ∀ ρ3 : Rho, ρ3.n = ρ.n → kt (h x) ρ3) → (p x = false → ∀ ρ2 : Rho, ρ2.n = ρ.n → kf ρ2) → g x (wipeR vs ρ) fun ρ1 => ft ρ1 fun b ρ2 => if b = true then fe ρ2 kt else kf ρ2) →
    k (acc ++ (xs.filter p).map h) ρ → compD g ft fe vs xs acc ρ k
  | [], acc, _, q => by simpa [compD] using q
  | x :: xs, acc, s, q => by
    unfold compD
    refine s x List.mem_cons_self _ _ (fun hp ρ3 e => ?_) (fun hp ρ2 e => ?_)
    · rw [e]
      refine comp_pure p h xs _ (fun y hy => s y (List.mem_cons_of_mem _ hy)) ?_
      rw [List.filter_cons, if_pos hp] at q
      simpa using q
    · rw [e]
      refine comp_pure p h xs _ (fun y hy => s y (List.mem_cons_of_mem _ hy)) ?_
      rw [List.filter_cons, if_neg (by simp [hp])] at q
      exact q
theorem ints_of (ns : List Int) : intsD (ns.map PyData.int) = some ns := by
  induction ns with
  | nil => rfl
  | cons a b ih => simp [intsD, ih]
theorem bools_of (bs : List Bool) : boolsD (bs.map PyData.bool) = some bs := by
  induction bs with
  | nil => rfl
  | cons a b ih => simp [boolsD, ih]
theorem flat_ints (ns : List Int) : (ns.map PyData.int).all flatD = true := by
  induction ns with
  | nil => rfl
  | cons a b ih => simp [flatD]
theorem any_ints (ns : List Int) (x : Int) : ((ns.map PyData.int).any fun y => PyData.eqv y (.int x)) = decide (x ∈ ns) := by
  induction ns with
  | nil => rfl
  | cons a b ih =>
    rw [List.map_cons, List.any_cons, ih]
    by_cases e : a = x
    · subst e; simp [PyData.eqv]
    · have e' : ¬ x = a := fun z => e z.symm
      simp [PyData.eqv, e, e']
theorem gIn_ints (ns : List Int) (x : Int) : gIn (.int x) (.tuple (ns.map .int)) = some (.bool (decide (x ∈ ns))) := by
  show (if flatD (.int x) = true ∧ (ns.map PyData.int).all flatD = true then some (PyData.bool ((ns.map PyData.int).any fun y => PyData.eqv y (.int x))) else none) = _
  rw [if_pos ⟨rfl, flat_ints ns⟩, any_ints]
theorem gIn_intsL (ns : List Int) (x : Int) : gIn (.int x) (.list (ns.map .int)) = some (.bool (decide (x ∈ ns))) := by
  show (if flatD (.int x) = true ∧ (ns.map PyData.int).all flatD = true then some (PyData.bool ((ns.map PyData.int).any fun y => PyData.eqv y (.int x))) else none) = _
  rw [if_pos ⟨rfl, flat_ints ns⟩, any_ints]
theorem gNotIn_ints (ns : List Int) (x : Int) : gNotIn (.int x) (.tuple (ns.map .int)) = some (.bool (!decide (x ∈ ns))) := by
  show (if flatD (.int x) = true ∧ (ns.map PyData.int).all flatD = true then some (PyData.bool (!(ns.map PyData.int).any fun y => PyData.eqv y (.int x))) else none) = _
  rw [if_pos ⟨rfl, flat_ints ns⟩, any_ints]
theorem gNotIn_intsL (ns : List Int) (x : Int) : gNotIn (.int x) (.list (ns.map .int)) = some (.bool (!decide (x ∈ ns))) := by
  show (if flatD (.int x) = true ∧ (ns.map PyData.int).all flatD = true then some (PyData.bool (!(ns.map PyData.int).any fun y => PyData.eqv y (.int x))) else none) = _
  rw [if_pos ⟨rfl, flat_ints ns⟩, any_ints]
theorem gIx_tup {xs : List D} {i : Nat} {d : D} (h : xs[i]? = some d) : gIx (.tuple xs) (.int (i : Int)) = some d := atI_nat h
theorem gIx_lst {xs : List D} {i : Nat} {d : D} (h : xs[i]? = some d) : gIx (.list xs) (.int (i : Int)) = some d := atI_nat h
/-- the same over the pictures of things -/
theorem comp_on {α : Type} {g : FG} {ft : FT} {fe : FE} {vs : List Nat} {ρ : Rho} {k : List D → Rho → Prop} (c : α → D) (p : α → Bool) (f : α → D) : ∀ (xs : List α) (acc : List D),
    (∀ x ∈ xs, ∀ (kt : D → Rho → Prop) (kf : Rho → Prop), (p x = true → ∀ ρ3 : Rho, ρ3.n = ρ.n → kt (f x) ρ3) → (p x = false → ∀ ρ2 : Rho, ρ2.n = ρ.n → kf ρ2) → g (c x) (wipeR vs ρ) fun ρ1 => ft ρ1 fun b ρ2 => if b = true then fe ρ2 kt else kf ρ2) →
    k (acc ++ (xs.filter p).map f) ρ → compD g ft fe vs (xs.map c) acc ρ k
  | [], acc, _, q => by simpa [compD] using q
  | x :: xs, acc, s, q => by
    rw [List.map_cons]
    unfold compD
    refine s x List.mem_cons_self _ _ (fun hp ρ3 e => ?_) (fun hp ρ2 e => ?_)
    · rw [e]
      refine comp_on c p f xs _ (fun y hy => s y (List.mem_cons_of_mem _ hy)) ?_
      rw [List.filter_cons, if_pos hp] at q
      simpa using q
    · rw [e]
      refine comp_on c p f xs _ (fun y hy => s y (List.mem_cons_of_mem _ hy)) ?_
      rw [List.filter_cons, if_neg (by simp [hp])] at q
      exact q
theorem comp_all {α : Type} {g : FG} {fe : FE} {vs : List Nat} {ρ : Rho} {k : List D → Rho → Prop} (c : α → D) (f : α → D) (xs : List α) (s : ∀ x ∈ xs, ∀ kt : D → Rho → Prop, (∀ ρ3 : Rho, ρ3.n = ρ.n → kt (f x) ρ3) → g (c x) (wipeR vs ρ) fun ρ1 => fe ρ1 kt)
    (q : k (xs.map f) ρ) : compD g ftYes fe vs (xs.map c) [] ρ k := by
  refine comp_on c (fun _ => true) f xs [] (fun x hx kt kf h1 h2 => ?_) (by
    rw [show xs.filter (fun _ => true) = xs from List.filter_eq_self.mpr fun _ _ => rfl]
    exact q)
  have := s x hx kt (h1 rfl)
  simpa [ftYes] using this
theorem gEq_ii (i j : Int) : gEq (.int i) (.int j) = some (.bool (decide (i = j))) := by
  show (if SeqAt.shaped (.int i) = true ∧ SeqAt.shaped (.int j) = true then some (PyData.bool (i == j)) else none) = _
  rw [if_pos ⟨rfl, rfl⟩]
  rfl
theorem gNe_ii (i j : Int) : gNe (.int i) (.int j) = some (.bool (!decide (i = j))) := by
  show (if SeqAt.shaped (.int i) = true ∧ SeqAt.shaped (.int j) = true then some (PyData.bool (!(i == j))) else none) = _
  rw [if_pos ⟨rfl, rfl⟩]
  rfl
theorem gAll_bs (bs : List Bool) : gAll (.list (bs.map .bool)) = some (.bool (bs.all id)) := by
  show (boolsD (bs.map PyData.bool)).map _ = _
  rw [bools_of]
  rfl
theorem gAny_bs (bs : List Bool) : gAny (.list (bs.map .bool)) = some (.bool (bs.any id)) := by
  show (boolsD (bs.map PyData.bool)).map _ = _
  rw [bools_of]
  rfl
theorem truD_b (b : Bool) : truD (.bool b) = some b := rfl
theorem truD_i (i : Int) : truD (.int i) = some (i != 0) := rfl
theorem truD_l (xs : List D) : truD (.list xs) = some (!xs.isEmpty) := rfl
theorem truD_t (xs : List D) : truD (.tuple xs) = some (!xs.isEmpty) := rfl
theorem truD_n : truD .none = some false := rfl
theorem gIx_t0 (x : D) (xs : List D) : gIx (.tuple (x :: xs)) (.int 0) = some x := atI_nat (j := 0) rfl
theorem gIx_t1 (x y : D) (xs : List D) : gIx (.tuple (x :: y :: xs)) (.int 1) = some y := atI_nat (j := 1) rfl
theorem gIx_t2 (x y z : D) (xs : List D) : gIx (.tuple (x :: y :: z :: xs)) (.int 2) = some z := atI_nat (j := 2) rfl
theorem cut_from1 (x : D) (xs : List D) : cutD (x :: xs) (some 1) none = xs := by
  unfold cutD
  have e1 : HT.sIx (x :: xs).length 0 (some 1) = 1 := by simp [HT.sIx]
  have e2 : HT.sIx (x :: xs).length (x :: xs).length none = (x :: xs).length := by simp [HT.sIx]
  rw [e1, e2]
  simp
theorem cut_tail (xs : List D) : cutD xs (some 1) none = xs.tail := by
  cases xs with
  | nil => rfl
  | cons x xs => exact cut_from1 x xs
theorem gSl_t (xs : List D) : gSl (.tuple xs) (some 1) none = some (.tuple xs.tail) := by
  show some (PyData.tuple (cutD xs (some 1) none)) = _
  rw [cut_tail]
theorem gSl_l (xs : List D) : gSl (.list xs) (some 1) none = some (.list xs.tail) := by
  show some (PyData.list (cutD xs (some 1) none)) = _
  rw [cut_tail]
theorem zip_ints (ns ms : List Int) : zipD (.tuple (ns.map .int)) (.tuple (ms.map .int)) = some ((ns.zip ms).map fun p => PyData.tuple [.int p.1, .int p.2]) := by
  show some (List.zipWith _ _ _) = _
  rw [List.zipWith_map]
  simp [List.zip, List.map_zipWith]
theorem eqv_ints : ∀ (ns ms : List Int), PyData.eqvAll (ns.map .int) (ms.map .int) = decide (ns = ms)
  | [], [] => rfl
  | [], _ :: _ => rfl
  | _ :: _, [] => rfl
  | a :: as, b :: bs => by
    show (PyData.eqv (.int a) (.int b) && PyData.eqvAll (as.map .int) (bs.map .int)) = _
    rw [eqv_ints as bs]
    by_cases e : a = b
    · subst e; simp [PyData.eqv]
    · simp [PyData.eqv, e]
theorem shaped_tup (ns : List Int) : SeqAt.shaped (.tuple (ns.map PyData.int)) = true := by
  have := PySem.W.ke_shaped_ints ns
  simpa [SeqAt.shaped, PyData.canLay0, PyData.depth] using this
theorem gEq_tt (ns ms : List Int) : gEq (.tuple (ns.map .int)) (.tuple (ms.map .int)) = some (.bool (decide (ns = ms))) := by
  show (if SeqAt.shaped (.tuple (ns.map .int)) = true ∧ SeqAt.shaped (.tuple (ms.map .int)) = true then some (PyData.bool (PyData.eqvAll (ns.map .int) (ms.map .int))) else none) = _
  rw [if_pos ⟨shaped_tup ns, shaped_tup ms⟩, eqv_ints]
theorem gLen_t (xs : List D) : gLen (.tuple xs) = some (.int xs.length) := rfl
theorem gLen_l (xs : List D) : gLen (.list xs) = some (.int xs.length) := rfl
theorem gNe_ll (ns : List Int) : gNe (.list (ns.map .int)) (.list []) = some (.bool (!decide (ns = []))) := by
  show (if SeqAt.shaped (.list (ns.map .int)) = true ∧ SeqAt.shaped (.list []) = true then some (PyData.bool (!PyData.eqvAll (ns.map .int) (([] : List Int).map .int))) else none) = _
  rw [if_pos ⟨PySem.W.ke_shaped_ints ns, PySem.W.ke_shaped_ints []⟩, eqv_ints]
theorem rangeD_nat (n : Nat) : rangeD 0 (n : Int) = (List.range n).map fun i : Nat => PyData.int (i : Int) := by
  unfold rangeD
  rw [show ((n : Int) - 0).toNat = n by omega]
  refine List.map_congr_left fun i _ => ?_
  rw [Int.zero_add]
theorem nSorted_ints (ns : List Int) : nSorted (.list (ns.map .int)) = some ((isort ns).map .int) := by
  show (intsD (ns.map PyData.int)).map _ = _
  rw [ints_of]
  rfl
theorem isort_strict {ns : List Int} (h : ns.Nodup) : (isort ns).Pairwise (· < ·) := by
  have h1 := isort_le ns
  have h2 : (isort ns).Nodup := (isort_perm ns).nodup_iff.mpr h
  exact (h1.and h2).imp fun ⟨a, b⟩ => by
    have b : _ ≠ _ := b
    omega
theorem fnComp_i {fi : FI} {g : FG} {ft : FT} {fe : FE} {vs : List Nat} {ρ : Rho} {k : List D → Rho → Prop} (h : fi ρ fun ds ρ1 => ds.length ≤ 1000000 ∧ compD g ft fe vs ds [] ⟨ρ1.sl.map dropOwn, ρ1.n⟩ fun out ρ2 => k out ⟨ρ1.sl, ρ2.n⟩) : fnComp fi g ft fe vs ρ k := h
/-- a comprehension that draws once for each -/
theorem comp_draw {α : Type} {g : FG} {fe : FE} {vs : List Nat} {k : List D → Rho → Prop} (c : α → D) (t : Int) (N : Nat) (sl : List Sl) : ∀ (xs : List α) (acc : List Int) (n : Nat), n + xs.length ≤ N →
    (∀ x ∈ xs, ∀ n' : Nat, n' < N → ∀ kt : D → Rho → Prop, (∀ r : Int, 0 ≤ r → r < t → ∀ ρ3 : Rho, ρ3.n = n' + 1 → kt (.int r) ρ3) → g (c x) (wipeR vs ⟨sl, n'⟩) fun ρ1 => fe ρ1 kt) →
    (∀ rs : List Int, rs.length = xs.length → (∀ r ∈ rs, 0 ≤ r ∧ r < t) → k ((acc ++ rs).map .int) ⟨sl, n + xs.length⟩) → compD g ftYes fe vs (xs.map c) (acc.map .int) ⟨sl, n⟩ k
  | [], acc, n, _, _, q => by
    have := q [] rfl fun r hr => absurd hr List.not_mem_nil
    simpa [compD] using this
  | x :: xs, acc, n, hn, s, q => by
    rw [List.length_cons] at hn
    rw [List.map_cons]
    unfold compD
    have st := s x List.mem_cons_self n (by omega) (fun y ρ3 => compD g ftYes fe vs (xs.map c) (acc.map .int ++ [y]) ⟨sl, ρ3.n⟩ k) fun r h0 h1 ρ3 e => by
      rw [e]
      have := comp_draw c t N sl xs (acc ++ [r]) (n + 1) (by omega) (fun y hy => s y (List.mem_cons_of_mem _ hy)) fun rs hl hr => by
        have := q (r :: rs) (by rw [List.length_cons, hl, List.length_cons]) fun z hz => by
          rcases List.mem_cons.mp hz with u | u
          · subst u; exact ⟨h0, h1⟩
          · exact hr z u
        rw [List.length_cons] at this
        rw [List.append_assoc, show n + 1 + xs.length = n + (xs.length + 1) by omega]
        exact this
      rw [List.map_append] at this
      exact this
    simpa [ftYes] using st
/-- one whose test draws once for each -/
theorem comp_drawF {α : Type} {g : FG} {ft : FT} {fe : FE} {vs : List Nat} {k : List D → Rho → Prop} (c f : α → D) (N : Nat) (sl : List Sl) : ∀ (xs : List α) (acc : List D) (n : Nat), n + xs.length ≤ N →
    (∀ x ∈ xs, ∀ n' : Nat, n' < N → ∀ (kt : D → Rho → Prop) (kf : Rho → Prop), (∀ ρ3 : Rho, ρ3.n = n' + 1 → kt (f x) ρ3) → (∀ ρ3 : Rho, ρ3.n = n' + 1 → kf ρ3) → g (c x) (wipeR vs ⟨sl, n'⟩) fun ρ1 => ft ρ1 fun b ρ2 => if b = true then fe ρ2 kt else kf ρ2) →
    (∀ ys : List α, ys.length ≤ xs.length → (∀ y ∈ ys, y ∈ xs) → k (acc ++ ys.map f) ⟨sl, n + xs.length⟩) → compD g ft fe vs (xs.map c) acc ⟨sl, n⟩ k
  | [], acc, n, _, _, q => by
    have := q [] (Nat.le_refl _) fun r hr => hr
    simpa [compD] using this
  | x :: xs, acc, n, hn, s, q => by
    rw [List.length_cons] at hn
    rw [List.map_cons]
    unfold compD
    refine s x List.mem_cons_self n (by omega) _ _ (fun ρ3 e => ?_) (fun ρ3 e => ?_)
    · rw [e]
      refine comp_drawF c f N sl xs _ (n + 1) (by omega) (fun y hy => s y (List.mem_cons_of_mem _ hy)) fun ys hl hr => ?_
      have := q (x :: ys) (by rw [List.length_cons, List.length_cons]; omega) fun z hz => by
        rcases List.mem_cons.mp hz with u | u
        · subst u; exact List.mem_cons_self
        · exact List.mem_cons_of_mem _ (hr z u)
      rw [List.length_cons] at this
      rw [List.append_assoc, show n + 1 + xs.length = n + (xs.length + 1) by omega]
      exact this
    · rw [e]
      refine comp_drawF c f N sl xs _ (n + 1) (by omega) (fun y hy => s y (List.mem_cons_of_mem _ hy)) fun ys hl hr => ?_
      have := q ys (by rw [List.length_cons]; omega) fun z hz => List.mem_cons_of_mem _ (hr z hz)
      rw [List.length_cons] at this
      rw [show n + 1 + xs.length = n + (xs.length + 1) by omega]
      exact this
theorem gTuple_l (xs : List D) : gTuple (.list xs) = some (.tuple xs) := rfl
theorem nSortSet_ints {ns : List Int} (h : ns.length < 64) : nSortSet (.list (ns.map .int)) = some ((usort ns).map .int) := by
  show (match intsD (ns.map PyData.int) with | some ns => if ns.length < 64 then some ((usort ns).map PyData.int) else none | none => none) = _
  rw [ints_of]
  show (if ns.length < 64 then some ((usort ns).map PyData.int) else none) = _
  rw [if_pos h]
theorem gAdd_ii (i j : Int) : gAdd (.int i) (.int j) = some (.int (i + j)) := rfl
theorem gAdd_ss (x y : Str) : gAdd (.str x) (.str y) = if x.length + y.length ≤ sizeLine then some (.str (x ++ y)) else none := rfl
theorem gAdd_tt (xs ys : List D) : gAdd (.tuple xs) (.tuple ys) = if xs.length + ys.length ≤ sizeLine then some (.tuple (xs ++ ys)) else none := rfl
theorem gAdd_ll (xs ys : List D) : gAdd (.list xs) (.list ys) = if xs.length + ys.length ≤ sizeLine then some (.list (xs ++ ys)) else none := rfl
theorem fsApp_i {i : Nat} {fa : FE} {ρ : Rho} {P : Post} (h : fa ρ fun d ρ1 => ∃ xs : List D, ρ1.sl[i]? = some (.own xs) ∧ xs.length < 1000000 ∧ P.nx (ρ1.set i (.own (xs ++ [d])))) : fsApp i fa ρ P := h
end PD

namespace PD
open PySem L2 PyProof.Rows PySem.Spec
/-! ### data that repr and == take: small ints, short -/
mutual
def tame : D → Bool
  | .none | .bool _ => true
  | .int i => decide (i.natAbs < 10 ^ 12)
  | .str x => PyData.strOk x
  | .list xs | .tuple xs => tameAll xs
  | .dict _ => false
def tameAll : List D → Bool
  | [] => true
  | x :: xs => tame x && tameAll xs
end
mutual
theorem tame_all : ∀ d : D, tame d = true → d.canLay0 = true ∧ d.showable = true ∧ d.hasDict = false ∧ d.intsShort 13 = true
  | .none, _ => ⟨rfl, rfl, rfl, rfl⟩
  | .bool _, _ => ⟨rfl, rfl, rfl, rfl⟩
  | .int i, h => by
    have h : i.natAbs < 10 ^ 12 := by simpa [tame] using h
    refine ⟨rfl, ?_, rfl, ?_⟩
    · have e : i.natAbs.log2 < 1920 := by
        by_cases z : i.natAbs = 0
        · rw [z]; decide
        · have : i.natAbs.log2 < 40 := (Nat.log2_lt z).mpr (Nat.lt_of_lt_of_le h (by decide))
          omega
      simpa [PyData.showable] using e
    · simpa [PyData.intsShort] using PyData.shown_int_le h
  | .str x, h => ⟨by simpa [tame, PyData.canLay0] using h, rfl, rfl, rfl⟩
  | .list xs, h => by
    obtain ⟨a, b, c, d⟩ := tameAll_all xs (by simpa [tame] using h)
    exact ⟨by simpa [PyData.canLay0] using a, by simpa [PyData.showable] using b, by simpa [PyData.hasDict] using c, by simpa [PyData.intsShort] using d⟩
  | .tuple xs, h => by
    obtain ⟨a, b, c, d⟩ := tameAll_all xs (by simpa [tame] using h)
    exact ⟨by simpa [PyData.canLay0] using a, by simpa [PyData.showable] using b, by simpa [PyData.hasDict] using c, by simpa [PyData.intsShort] using d⟩
theorem tameAll_all : ∀ xs : List D, tameAll xs = true → PyData.canLayAll0 xs = true ∧ PyData.showableAll xs = true ∧ PyData.hasDictAll xs = false ∧ PyData.intsShortAll 13 xs = true
  | [], _ => ⟨rfl, rfl, rfl, rfl⟩
  | x :: xs, h => by
    have h : tame x = true ∧ tameAll xs = true := by simpa [tameAll] using h
    obtain ⟨a, b, c, d⟩ := tame_all x h.1
    obtain ⟨a', b', c', d'⟩ := tameAll_all xs h.2
    refine ⟨?_, ?_, ?_, ?_⟩
    · show (x.canLay0 && _) = true; rw [a, a']; rfl
    · show (x.showable && _) = true; rw [b, b']; rfl
    · show (x.hasDict || _) = false; rw [c, c']; rfl
    · show (x.intsShort 13 && _) = true; rw [d, d']; rfl
end
theorem shaped_tame {d : D} (h : tame d = true) (hd : d.depth ≤ 60) : SeqAt.shaped d = true := by
  unfold SeqAt.shaped
  rw [(tame_all d h).1, decide_eq_true (by omega)]
  rfl
theorem gRepr_tame {d : D} (h : tame d = true) (hd : d.depth ≤ 60) (hw : d.weight ≤ 1000000) : gRepr d = some (.str d.shown) := by
  obtain ⟨a, b, c, e⟩ := tame_all d h
  have hs : d.shown.length ≤ 15728653 := PyData.shown_le_of_layable0 (by
    show (d.canLay0 && decide (d.depth ≤ 64) && decide (d.weight ≤ 2 ^ 20)) = true
    rw [a, decide_eq_true (show d.depth ≤ 64 by omega), decide_eq_true (show d.weight ≤ 2 ^ 20 from Nat.le_trans hw (by decide))]
    rfl) e
  unfold gRepr fits
  rw [b, c, decide_eq_true (show d.shown.length ≤ sizeLine by rw [sizeLine_eq]; omega), decide_eq_true hd]
  rfl
mutual
theorem eqv_self : ∀ d : D, d.hasDict = false → PyData.eqv d d = true
  | .none, _ => rfl
  | .bool b, _ => by simp [PyData.eqv]
  | .int b, _ => by simp [PyData.eqv]
  | .str b, _ => by simp [PyData.eqv]
  | .list xs, h => eqvAll_self xs (by simpa [PyData.hasDict] using h)
  | .tuple xs, h => eqvAll_self xs (by simpa [PyData.hasDict] using h)
  | .dict _, h => by simp [PyData.hasDict] at h
theorem eqvAll_self : ∀ xs : List D, PyData.hasDictAll xs = false → PyData.eqvAll xs xs = true
  | [], _ => rfl
  | x :: xs, h => by
    have h : x.hasDict = false ∧ PyData.hasDictAll xs = false := by simpa [PyData.hasDictAll] using h
    show (PyData.eqv x x && PyData.eqvAll xs xs) = true
    rw [eqv_self x h.1, eqvAll_self xs h.2]
    rfl
end
theorem gNe_self {d : D} (h : tame d = true) (hd : d.depth ≤ 60) : gNe d d = some (.bool false) := by
  unfold gNe
  rw [if_pos ⟨shaped_tame h hd, shaped_tame h hd⟩, eqv_self d (tame_all d h).2.2.1]
  rfl
theorem tame_ints : ∀ {ns : List Int}, (∀ x ∈ ns, x.natAbs < 10 ^ 12) → tameAll (ns.map .int) = true
  | [], _ => rfl
  | x :: xs, h => by
    show (tame (.int x) && tameAll (xs.map .int)) = true
    rw [tame_ints fun y hy => h y (List.mem_cons_of_mem _ hy), show tame (.int x) = true from decide_eq_true (h x List.mem_cons_self)]
    rfl
theorem depth_ints (ns : List Int) : PyData.depthAll (ns.map .int) = 0 := by
  induction ns with
  | nil => rfl
  | cons x xs ih => show max (PyData.depth (.int x)) _ = 0; rw [ih]; rfl
theorem weight_ints : ∀ {ns : List Int}, (∀ x ∈ ns, x.natAbs < 10 ^ 12) → PyData.weightAll (ns.map .int) ≤ 42 * ns.length
  | [], _ => Nat.le_refl _
  | x :: xs, h => by
    have hx := h x List.mem_cons_self
    have := weight_ints fun y hy => h y (List.mem_cons_of_mem _ hy)
    have hw : PyData.weight (.int x) ≤ 41 := by
      show (if x == 0 then 0 else x.natAbs.log2 + 1) ≤ 41
      split
      · omega
      · rename_i z
        have z : x.natAbs ≠ 0 := by simpa using z
        have : x.natAbs.log2 < 40 := (Nat.log2_lt z).mpr (Nat.lt_of_lt_of_le hx (by decide))
        omega
    show PyData.weight (.int x) + 1 + PyData.weightAll (xs.map .int) ≤ 42 * (xs.length + 1)
    omega
end PD

namespace PD
open PySem L2 PyProof.Rows PySem.Spec
open Evl (Ex)
/-! ### the law's head -/
theorem hide_nil2 (H : Hp) : hide [] H = H := by
  funext a
  unfold hide
  simp
theorem R.one {K : Fr0} {M : Mk0} {H : Hp} {v : V} {d : D} (h : Rp K H v d) : R K M none (fun _ => none) [] ⟨[.d d], 0⟩ [some v] H where
  len := rfl
  sl := fun i s o h1 h2 => by
    cases i with
    | zero =>
      cases h1
      cases h2
      exact ⟨v, rfl, by rw [hide_nil2]; exact h⟩
    | succ i => simp at h1
  fr := fun a o h => nomatch h
  tr := fun a h => absurd h List.not_mem_nil
  apart := fun i j xs ys l _ h1 _ _ _ => by
    cases i with
    | zero => cases h1
    | succ i => simp at h1
  ownF := fun i xs l h1 _ => rfl
  m := fun p h => nomatch h
/-- a script of ints, by the promise over data -/
theorem head_of {K : Fr0} {M : Mk0} {W : FE} {H : Hp} {a : Addr} {ns : List Int} (hS : SqL K.f H a (ns.map V.int))
    (hW : ∀ k : KD, (∀ n', k (.bool true) ⟨[.d (.list (ns.map .int))], n'⟩) → W ⟨[.d (.list (ns.map .int))], 0⟩ k) :
    spD K M 1 W [.ref a] H (fun v _ => v = .bl true) fun _ _ _ => False := by
  refine ⟨none, fun _ => none, [], _, R.one (.lst hS (dpa_ints ns)), fun i xs h => ?_, rfl, hW _ fun n' v L' H' e r d => ?_⟩
  · cases i with
    | zero => cases h
    | succ i => simp at h
  · cases d
    rfl
section
variable {K : Fr0} {P : Option Addr} {L L' : List Addr} {H H' F : Hp} {ρ : Rho} {σ : L2.St}
theorem SlOk.hid {s : Sl} {o : Option V} (e : Ex (hide L H) (hide L' H')) (hno : ∀ xs, s ≠ .own xs) (q : SlOk K P L H s o) : SlOk K P L' H' s o := by
  cases s with
  | no => trivial
  | d x =>
    obtain ⟨v, g1, g2⟩ := q
    exact ⟨v, g1, dp_ex e _ _ g2⟩
  | own xs => exact absurd rfl (hno xs)
  | st => exact q
  | raw v => exact q
  | exc a d fl => exact ⟨q.1, q.2.up e⟩
theorem keepF_upd {x : Addr} {u : HO} {H2 : Hp} (hno : ¬ Own ρ σ x) (hH : ∀ a, a ≠ x → H2 a = H a) : keepF ρ σ (upd F x u) H2 = upd (keepF ρ σ F H) x u := by
  funext a
  by_cases ha : a = x
  · subst ha
    rw [keepF_not hno, upd_same, upd_same]
  · rw [upd_ne ha]
    by_cases ho : Own ρ σ a
    · rw [keepF_own ho, keepF_own ho, hH a ha]
    · rw [keepF_not ho, keepF_not ho, upd_ne ha]
end
end PD

namespace PD
open PySem L2 PyProof.Rows PySem.Spec
open Evl (Ex)
/-! ### the draws of the second kind -/
def kvB (c l : Addr) (k : Int) : List (Key × V) := [(.inr "cells", .ref c), (.inr "great", .ref l), (.inr "spot", .int k)]
def MB : Mk0 where
  holds _ p n A H := ∃ (c l : Addr) (cs ls : List Int) (k : Int), A = [p, c, l] ∧ c ≠ l ∧ H p = some (.dK (kvB c l k)) ∧ H c = some (.lst (cs.map V.int)) ∧ H l = some (.lst (ls.map V.int)) ∧ 0 ≤ k ∧ k ≤ n ∧ cs.length ≤ 63 ∧ ls.length ≤ 63
  loc := fun {K p n A H H'} h ⟨c, l, cs, ls, k, eA, n1, h1, h2, h3, r⟩ => by
    subst eA
    exact ⟨c, l, cs, ls, k, rfl, n1, h _ (by simp) _ h1, h _ (by simp) _ h2, h _ (by simp) _ h3, r⟩
  le := fun {K p n m A H} hm ⟨c, l, cs, ls, k, eA, n1, h1, h2, h3, a, b, r⟩ => ⟨c, l, cs, ls, k, eA, n1, h1, h2, h3, a, by omega, r⟩
structure SB (H0 : Hp) (p c l0 : Addr) (cs : List Int) (l : Addr) (ls : List Int) (k : Int) (H : Hp) : Prop where
  hp : H p = some (.dK (kvB c l k))
  hc : H c = some (.lst (cs.map V.int))
  hl : H l = some (.lst (ls.map V.int))
  ncl : c ≠ l
  fresh : l = l0 ∨ H0 l = none
  same : ∀ a o, H0 a = some o → a ≠ p → a ≠ l0 → H a = some o
  h0 : ∃ o, H l0 = some o
  cn : c ≠ l0
  ln : ls.length ≤ 63
section
variable {H0 H : Hp} {p c l0 l : Addr} {cs ls : List Int} {k : Int}
theorem SB.new (S : SB H0 p c l0 cs l ls k H) {t : Addr} {o : HO} (ht : H t = none) : SB H0 p c l0 cs l ls k (upd H t o) :=
  ⟨by rw [upd_ne (ne_of_none S.hp ht)]; exact S.hp, by rw [upd_ne (ne_of_none S.hc ht)]; exact S.hc, by rw [upd_ne (ne_of_none S.hl ht)]; exact S.hl, S.ncl, S.fresh,
   fun a o' h n1 n2 => by have := S.same a o' h n1 n2; rw [upd_ne (ne_of_none this ht)]; exact this, by obtain ⟨o', h⟩ := S.h0; exact ⟨o', by rw [upd_ne (ne_of_none h ht)]; exact h⟩, S.cn, S.ln⟩
theorem SB.np (S : SB H0 p c l0 cs l ls k H) : p ≠ l ∧ p ≠ c := by
  constructor
  · intro e
    have h := S.hp
    rw [e, S.hl] at h
    cases h
  · intro e
    have h := S.hp
    rw [e, S.hc] at h
    cases h
theorem kvB_cells : valV (kvB c l k) (.inr "cells" : Key) = some (.ref c) := rfl
theorem kvB_great : valV (kvB c l k) (.inr "great" : Key) = some (.ref l) := rfl
theorem kvB_spot : valV (kvB c l k) (.inr "spot" : Key) = some (.int k) := rfl
theorem kvB_pgreat {l' : Addr} : putK (kvB c l k) (.inr "great" : Key) (.ref l') = kvB c l' k := rfl
theorem kvB_pspot {k' : Int} : putK (kvB c l k) (.inr "spot" : Key) (.int k') = kvB c l k' := rfl
end
def W_nextB : FE := fun ρ k => ∃ t : Int, ρ.sl = [.st, .d (.int t)] ∧ 0 < t ∧ t < 1073741824 ∧ ρ.n < 1000000000000 ∧ ∀ r : Int, 0 ≤ r → r < t → k (.int r) ⟨ρ.sl, ρ.n + 1⟩
theorem mW_nextB (ρ : Rho) (k k' : KD) (h : ∀ d ρ', k d ρ' → k' d ρ') (q : W_nextB ρ k) : W_nextB ρ k' := by
  obtain ⟨t, e, h1, h0, h2, h3⟩ := q
  exact ⟨t, e, h1, h0, h2, fun r a b => h _ _ (h3 r a b)⟩
/-- the end of a draw -/
theorem endB {K : Fr0} {F : Hp} {L : List Addr} {ρ : Rho} {σ : L2.St} {H Hf : Hp} {p c l0 l : Addr} {cs ls : List Int} {k : Int} {Q : VK} {t x : Int} (r : R K MB (some p) F L ρ σ H)
    (hA : (∀ a ∈ [p, c, l0], a ∈ L ∧ F a = none) ∧ ∀ (i : Nat) (xs : Ow) (l : Addr), ρ.sl[i]? = some (.own xs) → σ[i]? = some (some (.ref l)) → l ∉ [p, c, l0])
    (S : SB H p c l0 cs l ls k Hf) (hH : H p ≠ none ∧ H c ≠ none) (hc : cs.length ≤ 63) (h0 : 0 ≤ k) (h1 : k ≤ (ρ.n + 1 : Nat)) (ht : 0 < t)
    (hk : ∀ r : Int, 0 ≤ r → r < t → KV' K MB (some p) F L σ H Q (.int r) ⟨ρ.sl, ρ.n + 1⟩) : Q (.int (x % t)) Hf := by
  obtain ⟨e, r'⟩ := R.drawn (M := MB) (A' := [p, c, l]) (m := ρ.n + 1) r hA ⟨c, l, cs, ls, k, rfl, S.ncl, S.hp, S.hc, S.hl, h0, h1, hc, S.ln⟩ (fun a o ha n => S.same a o ha (fun e => n (by simp [e])) (fun e => n (by simp [e])))
    (fun a ha => by
      rcases List.mem_cons.mp ha with e | ha
      · exact ⟨_, e ▸ S.hp⟩
      · rcases List.mem_cons.mp ha with e | ha
        · exact ⟨_, e ▸ S.hc⟩
        · rcases List.mem_cons.mp ha with e | ha
          · exact e ▸ S.h0
          · cases ha)
    (fun a ha => by
      rcases List.mem_cons.mp ha with e | ha
      · exact ⟨.inl (by simp [e]), _, e ▸ S.hp⟩
      · rcases List.mem_cons.mp ha with e | ha
        · exact ⟨.inl (by simp [e]), _, e ▸ S.hc⟩
        · rcases List.mem_cons.mp ha with e | ha
          · refine ⟨?_, _, e ▸ S.hl⟩
            rcases S.fresh with f | f
            · exact .inl (by simp [e, f])
            · exact .inr (by rw [e]; exact f)
          · cases ha)
  exact hk (x % t) (Int.emod_nonneg _ (by omega)) (Int.emod_lt_of_pos _ ht) _ _ _ e r' (.int _)
theorem comp_bigB (ns : List Int) : ∀ (acc : List Int) (ρ : Rho) (k : List D → Rho → Prop) (s0 s1 s2 : Sl), ρ.sl = [s0, s1, s2] → (∀ ms : List Int, ms.length ≤ acc.length + ns.length → k (ms.map .int) ρ) →
    compD (fgN 2) (ftB (fOp gGe (fVar 2) (fOp gPow (fC (.int 10)) (fC (.int 18))))) (fVar 2) [2] (ns.map .int) (acc.map .int) ρ k := by
  induction ns with
  | nil => intro acc ρ k s0 s1 s2 e h; exact h acc (by simp)
  | cons x xs ih =>
    intro acc ρ k s0 s1 s2 e h
    obtain ⟨sl, n⟩ := ρ
    simp only at e
    subst e
    refine ⟨.int x, rfl, .int (10 ^ 18), by simp [gPow], _, rfl, _, rfl, ?_⟩
    refine ite2 (fun _ => ?_) (fun _ => ?_)
    · refine ⟨.int x, rfl, ?_⟩
      have := ih (acc ++ [x]) ⟨[s0, s1, s2], n⟩ k s0 s1 s2 rfl fun ms hm => h ms (by simp at hm ⊢; omega)
      rw [List.map_append] at this
      exact this
    · exact ih acc ⟨[s0, s1, s2], n⟩ k s0 s1 s2 rfl fun ms hm => h ms (by simp at hm ⊢; omega)
end PD

namespace PD
open PySem L2 PyProof.Rows PySem.Spec
open Evl (Ex)
/-! ### [e for a in .. for b in ..] -/
def notOwn : Sl → Bool
  | .own _ => false
  | _ => true
theorem bare_of {ρ : Rho} (h : ρ.sl.all notOwn = true) : Bare ρ := fun i xs hi => by
  have := List.all_eq_true.mp h _ (List.mem_of_getElem? hi)
  cases this
/-- R.swap, where another wish is kept by now -/
theorem R.swapF {K : Fr0} {M : Mk0} {P : Option Addr} {F F0 : Hp} {L L' : List Addr} {ρ ρ' : Rho} {σ σ' : L2.St} {H H' : Hp} (r : R K M P F0 L ρ σ H) (hb : Bare ρ) (r' : R K M P F L' ρ' σ' H') (e : Ex (hide L H) (hide L' H')) : R K M P F L' ⟨ρ.sl, ρ'.n⟩ σ H' :=
  ⟨r.len, fun i s o h1 h2 => (r.sl i s o h1 h2).hid e fun xs z => hb i xs (by rw [h1, z]), r'.fr, r'.tr, fun a b xs ys l _ h => absurd h (hb a xs), fun i xs l h => absurd h (hb i xs), fun p hp => let ⟨A, a1, a2, _⟩ := r'.m p hp; ⟨A, a1, a2, fun i xs l h => absurd h (hb i xs)⟩⟩
/-- what is made so far; for each item of the first walk the second one -/
def compD2 (g : FG) (ft : FT) (fi1 : FI) (g1 : FG) (ft1 : FT) (fe : FE) (vs vs1 : List Nat) : List D → List D → Rho → (List D → Rho → Prop) → Prop
  | [], acc, ρ, k => k acc ρ
  | x :: xs, acc, ρ, k => g x (wipeR vs ρ) fun ρ1 => ft ρ1 fun b ρ2 => if b = true then fi1 ρ2 fun ds ρ3 => ρ3.sl.all notOwn = true ∧ acc.length + ds.length ≤ 1000000 ∧ compD g1 ft1 fe vs1 ds acc ρ3 fun acc2 ρ4 => compD2 g ft fi1 g1 ft1 fe vs vs1 xs acc2 ⟨ρ.sl, ρ4.n⟩ k
      else compD2 g ft fi1 g1 ft1 fe vs vs1 xs acc ⟨ρ.sl, ρ2.n⟩ k
section
variable {X : Cx} {M : Mk0} {tg iter tg1 iter1 elt : Expr} {ifs ifs1 : List Expr} {fi fi1 : FI} {g g1 : FG} {ft ft1 : FT} {fe : FE} {pos : Pos} {vs vs0 vs1 : List Nat}
theorem compD2_mono (mg : ∀ d ρ k k', (∀ ρ', k ρ' → k' ρ') → g d ρ k → g d ρ k') (mt : ∀ ρ k k', (∀ d ρ', k d ρ' → k' d ρ') → ft ρ k → ft ρ k') (mi1 : ∀ ρ k k', (∀ d ρ', k d ρ' → k' d ρ') → fi1 ρ k → fi1 ρ k') (mg1 : ∀ d ρ k k', (∀ ρ', k ρ' → k' ρ') → g1 d ρ k → g1 d ρ k')
    (mt1 : ∀ ρ k k', (∀ d ρ', k d ρ' → k' d ρ') → ft1 ρ k → ft1 ρ k') (me : ∀ ρ k k', (∀ d ρ', k d ρ' → k' d ρ') → fe ρ k → fe ρ k') :
    ∀ (ds acc : List D) (ρ : Rho) (k k' : List D → Rho → Prop), (∀ d ρ', k d ρ' → k' d ρ') → compD2 g ft fi1 g1 ft1 fe vs vs1 ds acc ρ k → compD2 g ft fi1 g1 ft1 fe vs vs1 ds acc ρ k'
  | [], acc, ρ, k, k', h, q => h _ _ q
  | d :: ds, acc, ρ, k, k', h, q => mg _ _ _ _ (fun ρ1 q => mt _ _ _ (fun t ρ2 q => by
    cases t with
    | true => exact mi1 _ _ _ (fun ds1 ρ3 ⟨h1, h2, q⟩ => ⟨h1, h2, compD_mono mg1 mt1 me ds1 _ _ _ _ (fun acc2 ρ4 q => compD2_mono mg mt mi1 mg1 mt1 me ds _ _ _ _ h q) q⟩) q
    | false => exact compD2_mono mg mt mi1 mg1 mt1 me ds _ _ _ _ h q) q) q
def fnComp2 (fi : FI) (g : FG) (ft : FT) (fi1 : FI) (g1 : FG) (ft1 : FT) (fe : FE) (vs vs1 : List Nat) : FN := fun ρ k => fi ρ fun ds ρ1 => compD2 g ft fi1 g1 ft1 fe vs vs1 ds [] ⟨ρ1.sl.map dropOwn, ρ1.n⟩ fun out ρ2 => k out ⟨ρ1.sl, ρ2.n⟩
theorem dComp2 (mi : ∀ ρ k k', (∀ d ρ', k d ρ' → k' d ρ') → fi ρ k → fi ρ k') (mg : ∀ d ρ k k', (∀ ρ', k ρ' → k' ρ') → g d ρ k → g d ρ k') (mt : ∀ ρ k k', (∀ d ρ', k d ρ' → k' d ρ') → ft ρ k → ft ρ k') (mi1 : ∀ ρ k k', (∀ d ρ', k d ρ' → k' d ρ') → fi1 ρ k → fi1 ρ k')
    (mg1 : ∀ d ρ k k', (∀ ρ', k ρ' → k' ρ') → g1 d ρ k → g1 d ρ k') (mt1 : ∀ ρ k k', (∀ d ρ', k d ρ' → k' d ρ') → ft1 ρ k → ft1 ρ k') (me : ∀ ρ k k', (∀ d ρ', k d ρ' → k' d ρ') → fe ρ k → fe ρ k') (sub : ∀ i ∈ vs0, i ∈ vs) (σ : L2.St) (H : Hp) (Q : VK)
    (h : DNw X.k0 M (fnComp2 fi g ft fi1 g1 ft1 fe vs vs1) σ H Q) : tLc2 (DI X.k0 M fi) (DGt X.k0 M vs0 g) (DT X.k0 M ft) (DI X.k0 M fi1) (DGt X.k0 M vs1 g1) (DT X.k0 M ft1) (DE X.k0 M fe) vs vs1 σ H Q := by
  obtain ⟨P, F, L, ρ, r, k⟩ := h
  refine ⟨P, F, L, ρ, r, mi _ _ _ (fun ds ρ1 q J L1 H1 e1 r1 w => ?_) k⟩
  intro A hA
  have hFA : F A = none := by
    cases z : F A with
    | none => rfl
    | some u => have := (r1.fr A u z).1; rw [hA] at this; cases this
  have rb := r1.pinNew (o := HO.lst []) hA
  have hno := rb.pinOwn
  have r3 := r1.aside.pinNew (o := HO.lst []) hA
  have e3 : Ex (hide L1 H1) (hide (A :: L1) (upd H1 A (.lst []))) := hide_newex hA
  -- what the end wants, what stands in between
  generalize hKx : (fun (out : List D) (ρ2 : Rho) => ∀ p vs L' H', Ex (hide L H) (hide L' H') → F p = none → R X.k0 M P (upd F p (.lst vs)) L' ⟨ρ1.sl, ρ2.n⟩ σ H' → RpAll X.k0 (hide L' H') vs out → Q (.ref p) H') = Kx at q
  have fin : ∀ {L' H' n' acc us}, Ex (hide L1 H1) (hide L' H') → R X.k0 M P (upd (keepF ρ1 σ F H1) A (.lst us)) L' ⟨ρ1.sl.map dropOwn, n'⟩ σ H' → RpAll X.k0 (hide L' H') us acc → Kx acc ⟨ρ1.sl.map dropOwn, n'⟩ → Q (.ref A) H' := fun {L' H' n' acc us} e' r' d' z => by
    rw [← hKx] at z
    have ex : Ex (hide (A :: L1) (upd (upd H1 A (.lst [])) A (.lst us))) (hide L' H') := fun b ob hb => by
      obtain ⟨h1, h2⟩ := hide_some.mp hb
      have nA : b ≠ A := fun z => h1 (by rw [z]; exact List.mem_cons_self)
      rw [upd_ne nA, upd_ne nA] at h2
      exact e' b ob (hide_some.mpr ⟨fun z => h1 (List.mem_cons_of_mem _ z), h2⟩)
    have rk := (rb.repin (o' := .lst us)).back (ρc := ⟨ρ1.sl.map dropOwn, n'⟩) (by
      rw [keepF_upd (H := H1) hno fun a ha => by rw [upd_ne ha, upd_ne ha]]
      exact r') ex
    exact z A us L' H' (e1.trans e') hFA rk d'
  let St := fun (i : Nat) (H' : Hp) => ∃ L' n' acc us, Ex (hide L1 H1) (hide L' H') ∧ R X.k0 M P (upd (keepF ρ1 σ F H1) A (.lst us)) L' ⟨ρ1.sl.map dropOwn, n'⟩ σ H' ∧ RpAll X.k0 (hide L' H') us acc ∧ compD2 g ft fi1 g1 ft1 fe vs vs1 (ds.drop i) acc ⟨ρ1.sl.map dropOwn, n'⟩ Kx
  refine ⟨fun i m H' => m = ds.length - i ∧ i ≤ ds.length ∧ St i H', ⟨ds.length, by simp, Nat.zero_le _, A :: L1, ρ1.n, [], [], e3, r3, .nil, by simpa using q⟩, ?_⟩
  rintro i m H' ⟨rfl, hi, L', n', acc, us, e', r', d', q'⟩
  have ww := w L' H' e' r'.tr i
  by_cases hlt : i < ds.length
  · have hd : ds[i]? = some ds[i] := List.getElem?_eq_getElem hlt
    obtain ⟨go, yl⟩ := ww.1 _ hd
    rw [List.drop_eq_getElem_cons hlt] at q'
    refine .inr ⟨go, St (i + 1), fun H2 z => ⟨ds.length - (i + 1), by omega, rfl, hlt, z⟩, fun x H2 y => ?_⟩
    obtain ⟨e2, d2⟩ := yl x H2 y
    have r4 := (r'.ex e2).wipe vs
    refine ⟨P, _, L', _, ds[i], r4, d2, mg _ _ _ _ (fun ρ5 q5 σ5 L5 H5 e5 r5 o5 => ?_) q'⟩
    have o5 := o5.mono sub
    refine ⟨by rw [wipe_only o5]; exact wipe_only (wipe_self vs σ), ?_⟩
    have e'5 : Ex (hide L' H') (hide L5 H5) := (hide_ex e2).trans e5
    refine ⟨P, _, L5, ρ5, r5, mt _ _ _ (fun t ρ6 q6 L6 H6 e6 r6 => ?_) q5⟩
    have e'6 := e'5.trans e6
    cases t with
    | false => exact ⟨L6, ρ6.n, acc, us, e'.trans e'6, r'.swap (bare_drop ρ1.sl n') r6 e'6, dpa_ex e'6 _ _ d', q6⟩
    | true =>
      refine ⟨P, _, L6, ρ6, r6, mi1 _ _ _ (fun ds1 ρ7 ⟨hb7, hz7, q7⟩ J1 L7 H7 e7 r7 w7 => ?_) q6⟩
      have bare7 : ∀ n, Bare ⟨ρ7.sl, n⟩ := fun n => bare_of (ρ := ⟨ρ7.sl, n⟩) hb7
      have e'7 := e'6.trans e7
      refine ⟨fun j m H' => m = ds1.length - j ∧ j ≤ ds1.length ∧ ∃ L8 n8 acc8 us8, Ex (hide L7 H7) (hide L8 H') ∧ R X.k0 M P (upd (keepF ρ1 σ F H1) A (.lst us8)) L8 ⟨ρ7.sl, n8⟩ σ5 H' ∧ RpAll X.k0 (hide L8 H') us8 acc8 ∧ acc8.length ≤ acc.length + j ∧
        compD g1 ft1 fe vs1 (ds1.drop j) acc8 ⟨ρ7.sl, n8⟩ (fun acc2 ρ4 => compD2 g ft fi1 g1 ft1 fe vs vs1 (ds.drop (i + 1)) acc2 ⟨ρ1.sl.map dropOwn, ρ4.n⟩ Kx),
        ⟨ds1.length, by simp, Nat.zero_le _, L7, ρ7.n, acc, us, Ex.refl _, r7, dpa_ex e'7 _ _ d', Nat.le_refl _, by simpa using q7⟩, ?_⟩
      rintro j m8 H8 ⟨rfl, hj, L8, n8, acc8, us8, e8, r8, d8, ha8, q8⟩
      have ww8 := w7 L8 H8 e8 r8.tr j
      by_cases hlj : j < ds1.length
      · have hd8 : ds1[j]? = some ds1[j] := List.getElem?_eq_getElem hlj
        obtain ⟨go8, yl8⟩ := ww8.1 _ hd8
        rw [List.drop_eq_getElem_cons hlj] at q8
        refine .inr ⟨go8, fun H9 => ∃ L9 n9 acc9 us9, Ex (hide L7 H7) (hide L9 H9) ∧ R X.k0 M P (upd (keepF ρ1 σ F H1) A (.lst us9)) L9 ⟨ρ7.sl, n9⟩ σ5 H9 ∧ RpAll X.k0 (hide L9 H9) us9 acc9 ∧ acc9.length ≤ acc.length + (j + 1) ∧
          compD g1 ft1 fe vs1 (ds1.drop (j + 1)) acc9 ⟨ρ7.sl, n9⟩ (fun acc2 ρ4 => compD2 g ft fi1 g1 ft1 fe vs vs1 (ds.drop (i + 1)) acc2 ⟨ρ1.sl.map dropOwn, ρ4.n⟩ Kx),
          fun H9 ⟨L9, n9, acc9, us9, z1, z2, z3, z4, z5⟩ => ⟨ds1.length - (j + 1), by omega, rfl, hlj, L9, n9, acc9, us9, z1, z2, z3, z4, z5⟩, fun x9 H9 y9 => ?_⟩
        obtain ⟨e9, d9⟩ := yl8 x9 H9 y9
        have r10 := (r8.ex e9).wipe vs1
        refine ⟨P, _, L8, _, ds1[j], r10, d9, mg1 _ _ _ _ (fun ρ11 q11 σ11 L11 H11 e11 r11 o11 => ?_) q8⟩
        refine ⟨by rw [wipe_only o11]; exact wipe_only (wipe_self vs1 σ5), ?_⟩
        have f11 : Ex (hide L8 H8) (hide L11 H11) := (hide_ex e9).trans e11
        refine ⟨P, _, L11, ρ11, r11, mt1 _ _ _ (fun t ρ12 q12 L12 H12 e12 r12 => ?_) q11⟩
        have f12 := f11.trans e12
        cases t with
        | false => exact ⟨L12, ρ12.n, acc8, us8, e8.trans f12, r8.swap (bare7 n8) r12 f12, dpa_ex f12 _ _ d8, by omega, q12⟩
        | true =>
          refine ⟨P, _, L12, ρ12, r12, me _ _ _ (fun z ρ13 q13 v L13 H13 e13 r13 d13 => ?_) q12⟩
          have f13 := f12.trans e13
          have pin := r13.pinned
          have d14 : RpAll X.k0 (hide L13 H13) us8 acc8 := dpa_ex f13 _ _ d8
          have hh := hide_repin (H := H13) (o' := HO.lst (us8 ++ [v])) pin.2
          exact ⟨us8, pin.1, by rw [dpa_len d14, sizeLine_eq]; omega, L13, ρ13.n, acc8 ++ [z], us8 ++ [v], by rw [hh]; exact e8.trans f13, (r8.swap (bare7 n8) r13 f13).repin, by rw [hh]; exact dpa_app d14 (.cons d13 .nil),
            by rw [List.length_append, List.length_singleton]; omega, q13⟩
      · have e : ds1.length ≤ j := by omega
        rw [List.drop_eq_nil_of_le e] at q8
        exact .inl ⟨ww8.2 e, L8, n8, acc8, us8, e'.trans (e'7.trans e8), r'.swapF (bare_drop ρ1.sl n') r8 (e'7.trans e8), d8, q8⟩
  · have e : ds.length ≤ i := by omega
    rw [List.drop_eq_nil_of_le e] at q'
    exact .inl ⟨ww.2 e, fin e' r' d' q'⟩
theorem pn_lc2 {scope : Scope} {own : List (Str × Nat)} (hc : X.calm = true) (hN : X.N.Nodup) (hi : PDI X M tg iter fi) (ok : BlkOk X.N X.env.scope scope own) (hv : own.map (·.2) = vs) (sub : ∀ i ∈ vs0, i ∈ vs) (sub1 : ∀ i ∈ vs1, i ∈ vs)
    (hg : ∀ s H C cl fp, PG1 (Blk X scope s H C cl fp) M tg vs0 g) (ht : ∀ s H C cl fp, PTn (Blk X scope s H C cl fp) M ifs ft) (hi1 : ∀ s H C cl fp, PDI (Blk X scope s H C cl fp) M tg1 iter1 fi1) (hg1 : ∀ s H C cl fp, PG1 (Blk X scope s H C cl fp) M tg1 vs1 g1)
    (ht1 : ∀ s H C cl fp, PTn (Blk X scope s H C cl fp) M ifs1 ft1) (he : ∀ s H C cl fp, PD (Blk X scope s H C cl fp) M elt fe) (w0 : Shared) (hs : ∀ x, foldedSetIterable iter X.env x = pure x := by intro _; rfl) (hs1 : ∀ env x, foldedSetIterable iter1 env x = pure x := by intro _ _; rfl) :
    PN X M (.ListComp elt [⟨tg, iter, ifs, 0⟩, ⟨tg1, iter1, ifs1, 0⟩] scope pos) (fnComp2 fi g ft fi1 g1 ft1 fe vs vs1) := by
  subst hv
  have h0 := hg w0 (fun _ => none) 0 [] []
  have t0 := ht w0 (fun _ => none) 0 [] []
  have i0 := hi1 w0 (fun _ => none) 0 [] []
  have h1 := hg1 w0 (fun _ => none) 0 [] []
  have t1 := ht1 w0 (fun _ => none) 0 [] []
  have e0 := he w0 (fun _ => none) 0 [] []
  refine ⟨PE.wk (pe_lc2 (te := DE X.k0 M fe) (tt := DT X.k0 M ft) (tt1 := DT X.k0 M ft1) (wi1 := DI X.k0 M fi1) (g := DGt X.k0 M vs0 g) (g1 := DGt X.k0 M vs1 g1) hc hN hi.pi ok sub1 (fun s H C cl fp => (hg s H C cl fp).pg) (fun s H C cl fp => (ht s H C cl fp).pt) (fun s H C cl fp => (hi1 s H C cl fp).pi)
    (fun s H C cl fp => (hg1 s H C cl fp).pg) (fun s H C cl fp => (ht1 s H C cl fp).pt) (fun s H C cl fp => (he s H C cl fp).pe) hs hs1) fun σ H Q h => ?_, fun ρ k k' h q => hi.mono _ _ _ (fun ds ρ1 q => compD2_mono h0.mono t0.mono i0.mono h1.mono t1.mono e0.mono ds _ _ _ _ (fun out ρ2 q => h _ _ q) q) q⟩
  exact dComp2 hi.mono h0.mono t0.mono i0.mono h1.mono t1.mono e0.mono sub σ H Q h
end
end PD

namespace PD
open PySem L2 PyProof.Rows PySem.Spec
open Evl (Ex)
/-! ### texts -/
section
variable {X : Cx} {M : Mk0} {o e a b : Expr} {fo fa fb : FE} {pos : Pos} {K : Fr0}
/-- str(x), of an int or a text -/
def gStr : D → Option D
  | .int i => if i.natAbs.log2 < 1920 then some (.str (toString i : String)) else none
  | .str x => some (.str x)
  | _ => none
def rStr : List V → Hp → VK → Prop := fun xs H Q => (∃ i : Int, xs = [.int i] ∧ i.natAbs.log2 < 1920 ∧ Q (.str (toString i : String)) H) ∨ ∃ x, xs = [.str x] ∧ Q (.str x) H
theorem call_strA : CallR X (.type "str") rStr := fun pins s σ H xs us Q I r h => h.elim (fun z => call_str_int pins s σ H xs us Q I r z) fun z => SkE.call_str_str pins s σ H xs us Q I r z
theorem r1_str : R1D K (fun x => rStr [x]) gStr := by
  intro L H x dx d Q tr h1 hg q
  cases dx with
  | int i =>
    simp only [gStr] at hg
    split at hg
    · rename_i hl
      cases hg
      obtain rfl := rp_int h1
      exact .inl ⟨i, rfl, hl, q _ _ (Ex.refl _) (.str _)⟩
    · cases hg
  | str y =>
    cases hg
    obtain rfl := rp_str h1
    exact .inr ⟨y, rfl, q _ _ (Ex.refl _) (.str _)⟩
  | none => cases hg
  | bool _ => cases hg
  | list _ => cases hg
  | tuple _ => cases hg
  | dict _ => cases hg
/-- int(x), of an int, a bool or a text -/
def gIntA : D → Option D
  | .str x => match PySem.intText? x with
    | some n => if x.length ≤ 640 then some (.int n) else none
    | none => none
  | d => gInt d
def rIntA : List V → Hp → VK → Prop := fun xs H Q => ((∃ i, xs = [V.int i] ∧ Q (.int i) H) ∨ ∃ k, xs = [V.bl k] ∧ Q (.int (if k then 1 else 0)) H) ∨ ∃ a n, xs = [.str a] ∧ PySem.intText? a = some n ∧ a.length ≤ 640 ∧ Q (.int n) H
theorem call_intA : CallR X (.type "int") rIntA := fun pins s σ H xs us Q I r h => h.elim (fun z => call_int1 pins s σ H xs us Q I r z) fun z => call_int_str pins s σ H xs us Q I r z
theorem r1_intA : R1D K (fun x => rIntA [x]) gIntA := by
  intro L H x dx d Q tr h1 hg q
  cases dx with
  | str y =>
    unfold gIntA at hg
    cases e : PySem.intText? y with
    | none => simp only [e] at hg; cases hg
    | some n =>
      simp only [e] at hg
      split at hg
      · rename_i hl
        cases hg
        obtain rfl := rp_str h1
        exact .inr ⟨y, n, rfl, e, hl, q _ _ (Ex.refl _) (.int _)⟩
      · cases hg
  | int i => exact .inl (r1_int L H x _ d Q tr h1 hg q)
  | bool i => exact .inl (r1_int L H x _ d Q tr h1 hg q)
  | none => cases hg
  | list _ => cases hg
  | tuple _ => cases hg
  | dict _ => cases hg
/-! methods of a text -/
def fM0 (g : D → Option D) (fo : FE) : FE := fun ρ k => fo ρ fun x ρ1 => ∃ y, x = .str y ∧ ∃ d, g x = some d ∧ k d ρ1
def fM1 (g : D → D → Option D) (fo fa : FE) : FE := fun ρ k => fo ρ fun x ρ1 => (∃ y, x = .str y) ∧ fa ρ1 fun z ρ2 => ∃ d, g x z = some d ∧ k d ρ2
theorem fM0_mono {g : D → Option D} (mo : ∀ ρ k k', (∀ d ρ', k d ρ' → k' d ρ') → fo ρ k → fo ρ k') (ρ : Rho) (k k' : KD) (h : ∀ d ρ', k d ρ' → k' d ρ') (q : fM0 g fo ρ k) : fM0 g fo ρ k' :=
  mo _ _ _ (fun x ρ1 ⟨y, h0, d, h1, h2⟩ => ⟨y, h0, d, h1, h _ _ h2⟩) q
theorem fM1_mono {g : D → D → Option D} (mo : ∀ ρ k k', (∀ d ρ', k d ρ' → k' d ρ') → fo ρ k → fo ρ k') (ma : ∀ ρ k k', (∀ d ρ', k d ρ' → k' d ρ') → fa ρ k → fa ρ k') (ρ : Rho) (k k' : KD)
    (h : ∀ d ρ', k d ρ' → k' d ρ') (q : fM1 g fo fa ρ k) : fM1 g fo fa ρ k' := mo _ _ _ (fun x ρ1 ⟨h0, q⟩ => ⟨h0, ma _ _ _ (fun y ρ2 ⟨d, h1, h2⟩ => ⟨d, h1, h _ _ h2⟩) q⟩) q
theorem dM0 {r : V → List V → Hp → VK → Prop} {g : D → Option D} (hg : R1D X.k0 (fun x => r x []) g) (ma : ∀ ρ k k', (∀ d ρ', k d ρ' → k' d ρ') → fo ρ k → fo ρ k')
    (σ : L2.St) (H : Hp) (Q : VK) (h : DE X.k0 M (fM0 g fo) σ H Q) : tM0 r (DE X.k0 M fo) σ H Q := by
  obtain ⟨P, F, L, ρ, r0, k⟩ := h
  refine ⟨P, F, L, ρ, r0, ma _ _ _ (fun x ρ1 ⟨y, hy, d, hd, q2⟩ v L1 H1 e1 r1 d1 => ?_) k⟩
  subst hy
  obtain rfl := rp_str d1
  exact ⟨⟨y, rfl⟩, hg L1 H1 (.str y) (.str y) d Q r1.tr d1 hd fun w H3 e3 d3 => q2 w L1 H3 (e1.trans (hide_ex e3)) (r1.ex e3) d3⟩
theorem dM1 {r : V → List V → Hp → VK → Prop} {g : D → D → Option D} (hg : R2D X.k0 (fun x y => r x [y]) g) (mo : ∀ ρ k k', (∀ d ρ', k d ρ' → k' d ρ') → fo ρ k → fo ρ k') (ma : ∀ ρ k k', (∀ d ρ', k d ρ' → k' d ρ') → fa ρ k → fa ρ k')
    (σ : L2.St) (H : Hp) (Q : VK) (h : DE X.k0 M (fM1 g fo fa) σ H Q) : tM1 r (DE X.k0 M fo) (DE X.k0 M fa) σ H Q := by
  obtain ⟨P, F, L, ρ, r0, k⟩ := h
  refine ⟨P, F, L, ρ, r0, mo _ _ _ (fun x ρ1 ⟨⟨y, hy⟩, q⟩ v L1 H1 e1 r1 d1 => ?_) k⟩
  subst hy
  obtain rfl := rp_str d1
  refine ⟨⟨y, rfl⟩, P, F, L1, ρ1, r1, ma _ _ _ (fun z ρ2 ⟨d, hd, q2⟩ u L2 H2 e2 r2 d2 => ?_) q⟩
  exact hg L2 H2 (.str y) u (.str y) z d Q r2.tr (.str y) d2 hd fun w H3 e3 d3 => q2 w L2 H3 ((e1.trans e2).trans (hide_ex e3)) (r2.ex e3) d3
theorem pd_m0 {id : String} {name : Str} {apos : Pos} {r : V → List V → Hp → VK → Prop} {g : D → Option D} (slot : Slot "str" name id) (ty : typeOf (.builtin id) = pure (.type "method_descriptor")) (rule : MtR X id r) (hg : R1D X.k0 (fun x => r x []) g) (ho : PD X M o fo)
    (hbase : attributeBase o name X.env (eval o X.env) = eval o X.env := by rfl) (hline : (apos.endLine == pos.line) = true := by rfl) : PD X M (.Call (.Attribute o name apos) [] [] pos) (fM0 g fo) :=
  ⟨PE.wk (pe_m0 slot ty rule ho.pe hbase hline) (dM0 hg ho.mono), fM0_mono ho.mono⟩
theorem pd_m1 {id : String} {name : Str} {apos : Pos} {r : V → List V → Hp → VK → Prop} {g : D → D → Option D} (slot : Slot "str" name id) (ty : typeOf (.builtin id) = pure (.type "method_descriptor")) (rule : MtR X id r) (hg : R2D X.k0 (fun x y => r x [y]) g) (ho : PD X M o fo) (he : PD X M e fa)
    (hs : starEach [e] X.env = [(false, eval e X.env)] := by rfl) (hbase : attributeBase o name X.env (eval o X.env) = eval o X.env := by rfl) (hline : (apos.endLine == pos.line) = true := by rfl) : PD X M (.Call (.Attribute o name apos) [e] [] pos) (fM1 g fo fa) :=
  ⟨PE.wk (pe_m1 slot ty rule ho.pe he.pe hs hbase hline) (dM1 hg ho.mono he.mono), fM1_mono ho.mono he.mono⟩
def gIsascii : D → Option D
  | .str x => some (.bool (Txt.isascii x))
  | _ => none
def gIsdigit : D → Option D
  | .str x => some (.bool (Txt.isdigit x))
  | _ => none
theorem r1_bl {C : Str → Prop} {g : Str → Bool} {gd : D → Option D} (h : ∀ x d, gd x = some d → ∃ a, x = .str a ∧ C a ∧ d = .bool (g a)) : R1D K (fun x H Q => ∃ a, x = V.str a ∧ ([] : List V) = [] ∧ C a ∧ Q (.bl (g a)) H) gd := by
  intro L H x dx d Q tr h1 hg q
  obtain ⟨a, rfl, hc, rfl⟩ := h _ _ hg
  obtain rfl := rp_str h1
  exact ⟨a, rfl, rfl, hc, q _ _ (Ex.refl _) (.bl _)⟩
theorem r1_isascii : R1D K (fun x H Q => ∃ a, x = V.str a ∧ ([] : List V) = [] ∧ True ∧ Q (.bl (Txt.isascii a)) H) gIsascii := r1_bl (C := fun _ => True) fun x d h => by
  cases x <;> cases h
  exact ⟨_, rfl, trivial, rfl⟩
theorem r1_isdigit : R1D K (fun x H Q => ∃ a, x = V.str a ∧ ([] : List V) = [] ∧ True ∧ Q (.bl (Txt.isdigit a)) H) gIsdigit := r1_bl (C := fun _ => True) fun x d h => by
  cases x <;> cases h
  exact ⟨_, rfl, trivial, rfl⟩
/-! split, partition, join -/
def strsD : List D → Option (List Str)
  | [] => some []
  | .str b :: r => (strsD r).map (b :: ·)
  | _ :: _ => none
theorem strsD_eq : ∀ {ds : List D} {bs : List Str}, strsD ds = some bs → ds = bs.map PyData.str
  | [], _, h => by cases h; rfl
  | .str b :: r, bs, h => by
    unfold strsD at h
    cases e : strsD r with
    | none => rw [e] at h; cases h
    | some cs =>
      rw [e] at h
      cases h
      rw [strsD_eq e]
      rfl
  | .none :: _, _, h => by cases h
  | .int _ :: _, _, h => by cases h
  | .bool _ :: _, _, h => by cases h
  | .list _ :: _, _, h => by cases h
  | .tuple _ :: _, _, h => by cases h
  | .dict _ :: _, _, h => by cases h
theorem strsD_map : ∀ (ns : List Str), strsD (ns.map PyData.str) = some ns
  | [] => rfl
  | n :: ns => by
    show (strsD (ns.map PyData.str)).map (n :: ·) = _
    rw [strsD_map ns]
    rfl
theorem dpa_strs {H : Hp} : ∀ (ns : List Str), RpAll K H (ns.map V.str) (ns.map PyData.str)
  | [] => .nil
  | n :: ns => .cons (.str n) (dpa_strs ns)
theorem dpa_strs_eq {H : Hp} : ∀ {vs : List V} {ns : List Str}, RpAll K H vs (ns.map PyData.str) → vs = ns.map V.str
  | _, [], h => by cases h; rfl
  | _, n :: ns, h => by
    cases h with
    | cons h1 h2 =>
      cases h1
      rw [dpa_strs_eq h2]
      rfl
def gSplit : D → D → Option D
  | .str x, .str y => if (y.length == 0) = false ∧ x.length + 2 ≤ sizeLine then some (.list ((Txt.split x y).map .str)) else none
  | _, _ => none
theorem rd_split : R2D K (fun x y H Q => ∃ a b, x = V.str a ∧ [y] = [V.str b] ∧ (b.length == 0) = false ∧ a.length + 2 ≤ sizeLine ∧ rNewStrs (Txt.split a b) H Q) gSplit := by
  intro L H x y dx dy d Q tr h1 h2 hg q
  unfold gSplit at hg
  split at hg
  · split at hg
    · rename_i c
      cases hg
      obtain rfl := rp_str h1
      obtain rfl := rp_str h2
      exact ⟨_, _, rfl, rfl, c.1, c.2, fun p hp => q _ _ (Ex.new hp) (new_lst tr hp (dpa_strs _))⟩
    · cases hg
  · cases hg
def gPart : D → D → Option D
  | .str x, .str y => if (y.length == 0) = false ∧ x.length ≤ sizeLine then some (.tuple [.str (Txt.partition x y).1, .str (Txt.partition x y).2.1, .str (Txt.partition x y).2.2]) else none
  | _, _ => none
theorem rd_part : R2D K (fun x y H Q => ∃ a b, x = V.str a ∧ [y] = [V.str b] ∧ (b.length == 0) = false ∧ a.length ≤ sizeLine ∧ ∀ p, H p = none → Q (.ref p) (upd H p (.tup [.str (Txt.partition a b).1, .str (Txt.partition a b).2.1, .str (Txt.partition a b).2.2]))) gPart := by
  intro L H x y dx dy d Q tr h1 h2 hg q
  unfold gPart at hg
  split at hg
  · split at hg
    · rename_i c
      cases hg
      obtain rfl := rp_str h1
      obtain rfl := rp_str h2
      exact ⟨_, _, rfl, rfl, c.1, c.2, fun p hp => q _ _ (Ex.new hp) (new_tup tr hp (.cons (.str _) (.cons (.str _) (.cons (.str _) .nil))))⟩
    · cases hg
  · cases hg
def gJoin : D → D → Option D
  | .str x, .list ys => match strsD ys with
    | some bs => if (bs.map (·.length)).sum + bs.length * x.length ≤ 16777216 then some (.str (Txt.join x bs)) else none
    | none => none
  | .str x, .tuple ys => match strsD ys with
    | some bs => if (bs.map (·.length)).sum + bs.length * x.length ≤ 16777216 then some (.str (Txt.join x bs)) else none
    | none => none
  | _, _ => none
theorem rd_join : R2D K (fun x y H Q => ∃ a p, ∃ ys : List Str, x = V.str a ∧ [y] = [V.ref p] ∧ (SqL K.f H p (ys.map V.str) ∨ SqT K.f H p (ys.map V.str)) ∧ (ys.map (·.length)).sum + ys.length * a.length ≤ 16777216 ∧ Q (.str (Txt.join a ys)) H) gJoin := by
  intro L H x y dx dy d Q tr h1 h2 hg q
  unfold gJoin at hg
  split at hg
  · split at hg
    · split at hg
      · rename_i e c
        cases hg
        obtain rfl := rp_str h1
        obtain ⟨p, vs, rfl, g1, g2⟩ := rp_list h2
        rw [strsD_eq e] at g2
        rw [dpa_strs_eq g2] at g1
        exact ⟨_, p, _, rfl, rfl, .inl g1, c, q _ _ (Ex.refl _) (.str _)⟩
      · cases hg
    · cases hg
  · split at hg
    · split at hg
      · rename_i e c
        cases hg
        obtain rfl := rp_str h1
        obtain ⟨p, vs, rfl, g1, g2⟩ := rp_tuple h2
        rw [strsD_eq e] at g2
        rw [dpa_strs_eq g2] at g1
        exact ⟨_, p, _, rfl, rfl, .inr g1, c, q _ _ (Ex.refl _) (.str _)⟩
      · cases hg
    · cases hg
  · cases hg
/-! one sign of a text -/
def gIxS : D → D → Option D
  | .str x, .int i => if x.length ≤ sizeLine then (atI x.cps.toList i).map fun c => .str ⟨#[c]⟩ else none
  | x, y => gIx x y
theorem ix_strA : IxR X (opOr (rIxA X.K) rIxS) := IxR.or ix_any ix_str
theorem rd_ixS : R2D K (opOr (rIxA K.f) rIxS) gIxS := by
  intro L H x y dx dy d Q tr h1 h2 hg q
  unfold gIxS at hg
  split at hg
  · split at hg
    · rename_i c
      obtain rfl := rp_str h1
      obtain rfl := rp_int h2
      obtain ⟨z, hz, rfl⟩ := Option.map_eq_some_iff.mp hg
      exact .inr ⟨_, _, z, rfl, rfl, c, hz, q _ _ (Ex.refl _) (.str _)⟩
    · cases hg
  · exact .inl (rd_ix L H x y _ _ d Q tr h1 h2 hg q)
/-! f-strings -/
def gFmt : D → Option D
  | .str x => if x.length ≤ sizeLine then some (.str x) else none
  | .int i => if i.natAbs.log2 < 1920 then some (.str (toString i : String)) else none
  | _ => none
theorem pd_fmt (ha : PD X M e fa) : PD X M (.FormattedValue e (-1) none pos) (fUn gFmt fa) := by
  refine ⟨PE.wk (pe_fmt ha.pe) fun σ H Q h => ?_, fUn_mono ha.mono⟩
  refine dUn (r := fun x H Q => (∃ y : Str, x = .str y ∧ y.length ≤ sizeLine ∧ Q (.str y) H) ∨ ∃ i : Int, x = .int i ∧ i.natAbs.log2 < 1920 ∧ Q (.str (toString i : String)) H) ?_ ha.mono σ H Q h
  intro L H x dx d Q tr h1 hg q
  unfold gFmt at hg
  split at hg
  · split at hg
    · rename_i c
      cases hg
      obtain rfl := rp_str h1
      exact .inl ⟨_, rfl, c, q _ _ (Ex.refl _) (.str _)⟩
    · cases hg
  · split at hg
    · rename_i c
      cases hg
      obtain rfl := rp_int h1
      exact .inr ⟨_, rfl, c, q _ _ (Ex.refl _) (.str _)⟩
    · cases hg
  · cases hg
def fJ : List FE → Str → Rho → (Str → Rho → Prop) → Prop
  | [], acc, ρ, k => k acc ρ
  | f :: fs, acc, ρ, k => f ρ fun d ρ1 => ∃ y : Str, d = .str y ∧ (acc ++ y).length ≤ sizeLine ∧ fJ fs (acc ++ y) ρ1 k
inductive PDJ (X : Cx) (M : Mk0) : List Expr → List FE → Prop where
  | nil : PDJ X M [] []
  | cons {e : Expr} {f : FE} {es : List Expr} {fs : List FE} (h : PD X M e f) (r : PDJ X M es fs) : PDJ X M (e :: es) (f :: fs)
theorem PDJ.pj {es : List Expr} {fs : List FE} (h : PDJ X M es fs) : PJ X es (fs.map fun f => DE X.k0 M f) := by
  induction h with
  | nil => exact .nil
  | cons h _ ih => exact .cons h.pe ih
theorem PDJ.mono {es : List Expr} {fs : List FE} (h : PDJ X M es fs) : ∀ (acc : Str) (ρ : Rho) (k k' : Str → Rho → Prop), (∀ d ρ', k d ρ' → k' d ρ') → fJ fs acc ρ k → fJ fs acc ρ k' := by
  induction h with
  | nil => exact fun acc ρ k k' g q => g _ _ q
  | cons h _ ih => exact fun acc ρ k k' g q => h.mono _ _ _ (fun d ρ1 ⟨y, h0, h1, q⟩ => ⟨y, h0, h1, ih _ _ _ _ g q⟩) q
theorem dJ {es : List Expr} {fs : List FE} (h : PDJ X M es fs) : ∀ (acc : Str) (σ : L2.St) (H : Hp) (Q : Str → Hp → Prop) (P : Option Addr) (F : Hp) (L : List Addr) (ρ : Rho), R X.k0 M P F L ρ σ H →
    (fJ fs acc ρ fun d ρ' => ∀ L' H', Ex (hide L H) (hide L' H') → R X.k0 M P F L' ρ' σ H' → Q d H') → tJs (fs.map fun f => DE X.k0 M f) acc σ H Q := by
  induction h with
  | nil => exact fun acc σ H Q P F L ρ r k => k L H (Ex.refl _) r
  | @cons e f es fs h hs ih =>
    intro acc σ H Q P F L ρ r k
    refine ⟨P, F, L, ρ, r, h.mono _ _ _ (fun d ρ1 ⟨y, h0, h1, q⟩ v L1 H1 e1 r1 d1 => ?_) k⟩
    subst h0
    obtain rfl := rp_str d1
    exact ⟨y, rfl, h1, ih _ _ _ _ P F L1 ρ1 r1 (hs.mono _ _ _ _ (fun d ρ2 q L2 H2 e2 r2 => q L2 H2 (e1.trans e2) r2) q)⟩
def fJoined (fs : List FE) : FE := fun ρ k => fJ fs Str.empty ρ fun s ρ1 => k (.str s) ρ1
theorem pd_joined {v1 v2 : Expr} {rest : List Expr} {fs : List FE} (h : PDJ X M (v1 :: v2 :: rest) fs) : PD X M (.JoinedStr (v1 :: v2 :: rest) pos) (fJoined fs) :=
  ⟨PE.wk (pe_joined h.pj) fun σ H Q ⟨P, F, L, ρ, r, k⟩ => dJ h _ σ H _ P F L ρ r (h.mono _ _ _ _ (fun d ρ' q L' H' e' r' => q _ L' H' e' r' (.str _)) k), fun ρ k k' g q => h.mono _ _ _ _ (fun d ρ' q => g _ _ q) q⟩
end
end PD

namespace PD
open PySem L2 PyProof.Rows PySem.Spec
open Evl (Ex)
section
variable {X : Cx} {M : Mk0} {a : Expr} {es : List Expr} {fa : FE} {fl : FL} {p pos : Pos}
/-- *e in a display: the items of a tuple or a list -/
def starD : D → Option (List D)
  | .tuple xs => some xs
  | .list xs => some xs
  | _ => none
def flStar (fa : FE) (fl : FL) : FL := fun ρ k => fa ρ fun d ρ1 => ∃ xs, starD d = some xs ∧ fl ρ1 fun ds ρ2 => k (xs ++ ds) ρ2
theorem pdl_star (ha : PD X M a fa) (hl : PDL X M es fl) (hs : starEach (.Starred a p :: es) X.env = (true, eval a X.env) :: starEach es X.env := by rfl) : PDL X M (.Starred a p :: es) (flStar fa fl) := by
  refine ⟨PA.wk (StX.pa_star ha.pe hl.pa hs) fun σ H Q ⟨P, F, L, ρ, r, k⟩ => ?_, fun ρ k k' h q => ha.mono _ _ _ (fun d ρ1 ⟨xs, h1, q⟩ => ⟨xs, h1, hl.mono _ _ _ (fun ds ρ2 q => h _ _ q) q⟩) q⟩
  refine ⟨P, F, L, ρ, r, ha.mono _ _ _ (fun d ρ1 ⟨xs, hx, q⟩ v L1 H1 e1 r1 d1 => ?_) k⟩
  have go : ∀ {b : Addr} {vs : List V}, v = .ref b → (SqT X.K H1 b vs ∨ SqL X.K H1 b vs) → RpAll X.k0 (hide L1 H1) vs xs → ∃ p xs, v = V.ref p ∧ (SqT X.K H1 p xs ∨ SqL X.K H1 p xs) ∧ DL X.k0 M fl σ H1 fun ys H2 => Q (xs ++ ys) H2 := fun {b vs} ev hs hv => by
    refine ⟨b, vs, ev, hs, P, F, L1, ρ1, r1, hl.mono _ _ _ (fun ds ρ2 q ws L2 H2 e2 r2 d2 => ?_) q⟩
    exact q (vs ++ ws) L2 H2 (e1.trans e2) r2 (dpa_app (dpa_ex e2 _ _ hv) d2)
  cases d with
  | tuple ys =>
    cases hx
    obtain ⟨b, vs, ev, h1, h2⟩ := rp_tuple d1
    exact go ev (.inl h1) h2
  | list ys =>
    cases hx
    obtain ⟨b, vs, ev, h1, h2⟩ := rp_list d1
    exact go ev (.inr h1) h2
  | _ => cases hx
end
end PD

namespace PD
open PySem L2 PyProof.Rows PySem.Spec
open Evl (Ex)
/-! ### set of a tuple of ints, sorted -/
section
variable {X : Cx} {M : Mk0} {a e : Expr} {fa : FE} {pos : Pos} {K : Fr0}
def rSetA (K : PySem.W.Frag) (w : World) : List V → Hp → VK → Prop := fun xs H Q => ∃ (l : Addr) (ns : List Int), xs = [V.ref l] ∧ (SqL K H l (ns.map V.int) ∨ SqT K H l (ns.map V.int)) ∧ ns.length < 64 ∧ ∀ p n, H p = none → n ≤ ns.length → Q (.ref p) (upd H p (SetO w p (fun j => decide (j ∈ ns)) n))
theorem cr_setA (hc : X.calm = true) : CallR X (.type "set") (rSetA X.K X.w) := by
  intro pins s σ H xs us Q I r h
  obtain ⟨l, ns, e, hl | hl, h64, q⟩ := h
  · exact cr_setL hc pins s σ H xs us Q I r ⟨l, ns, e, hl, h64, q⟩
  · subst e
    obtain ⟨u, rfl, ru⟩ := vals1 r
    cases ru
    obtain ⟨its, rv, pl, _⟩ := I.tuple hl
    refine call_set_tupI ns (I.ok.hd hc) (by obtain ⟨o, h1, h2, n, h3⟩ := pl; exact ⟨o, h1, h2, n, h3⟩) (by simpa using intsAre_of rv) (Nat.lt_of_le_of_lt (Nat.succ_le_of_lt h64) (by decide : (64 : Nat) < scanBound)) fun h' tk c R hcn hk => ?_
    exact ⟨.ref _, _, I.laid (t' := tk) hk (Nat.le_refl _) (setO_new R), rfl, q _ c (I.hok.fresh (Nat.le_refl _)) hcn⟩
def nSortSetA : D → Option (List D)
  | .list xs => match intsD xs with
    | some ns => if ns.length < 64 then some ((usort ns).map PyData.int) else none
    | none => none
  | .tuple xs => match intsD xs with
    | some ns => if ns.length < 64 then some ((usort ns).map PyData.int) else none
    | none => none
  | _ => none
theorem pn_sortsetA {p p2 pos2 : Pos} (hc : X.calm = true) (hg : Gl X "sorted") (hm : X.mg "sorted" = none) (hg2 : Gl X "set") (hm2 : X.mg "set" = none) (ha : PD X M a fa)
    (hs : starEach [a] X.env = (false, eval a X.env) :: starEach [] X.env := by rfl) (hs2 : starEach [.Call (.Name "set" p2) [a] [] pos2] X.env = (false, eval (.Call (.Name "set" p2) [a] [] pos2) X.env) :: starEach [] X.env := by rfl) :
    PN X M (.Call (.Name "sorted" p) [.Call (.Name "set" p2) [a] [] pos2] [] pos) (fn1 nSortSetA fa) := by
  have inner := pe_callTy (pos := pos2) (p := p2) (cr_setA hc) hg2 hm2 (by decide +kernel) (pa_cons ha.pe pa_nil hs) (by decide) (by decide) hs
  refine ⟨PE.wk (pe_callB (cr_sortedSet hc) hg hm (by decide +kernel) (pa_cons inner pa_nil hs2) (by decide) (by decide) hs2) fun σ H Q ⟨P, F, L, ρ, r, k⟩ => ?_, fun ρ k k' g q => ha.mono _ _ _ (fun d ρ1 ⟨ds, h1, h2⟩ => ⟨ds, h1, g _ _ h2⟩) q⟩
  refine ⟨P, F, L, ρ, r, ha.mono _ _ _ (fun d ρ1 ⟨ds, hd, q⟩ v L1 H1 e1 r1 d1 => ?_) k⟩
  obtain ⟨b, ns, rfl, h1, h64, rfl⟩ : ∃ b ns, v = .ref b ∧ (SqL X.K H1 b (ns.map V.int) ∨ SqT X.K H1 b (ns.map V.int)) ∧ ns.length < 64 ∧ ds = (usort ns).map PyData.int := by
    unfold nSortSetA at hd
    split at hd
    · split at hd
      · split at hd
        · cases hd
          rename_i xs ns hi h64
          obtain ⟨b, vs, rfl, h1, h2⟩ := rp_list d1
          rw [intsD_eq hi] at h2
          rw [dpa_ints_eq h2] at h1
          exact ⟨b, ns, rfl, .inl h1, h64, rfl⟩
        · cases hd
      · cases hd
    · split at hd
      · split at hd
        · cases hd
          rename_i xs ns hi h64
          obtain ⟨b, vs, rfl, h1, h2⟩ := rp_tuple d1
          rw [intsD_eq hi] at h2
          rw [dpa_ints_eq h2] at h1
          exact ⟨b, ns, rfl, .inr h1, h64, rfl⟩
        · cases hd
      · cases hd
    · cases hd
  refine ⟨b, ns, rfl, h1, h64, fun s n hs hn => ?_⟩
  refine ⟨s, _, n, rfl, upd_same, by omega, fun us u hp hmem hlen hu => ?_⟩
  have eu : us = usort ns := usort_of hp fun j => by rw [hmem]; simp
  subst eu
  have fresh : H1 u = none := by
    by_cases z : u = s
    · rw [z, upd_same] at hu
      cases hu
    · rw [upd_ne z] at hu
      exact hu
  have r2 := r1.laid (o := SetO X.w s (fun j => decide (j ∈ ns)) n) hs
  obtain ⟨e3, hF, r3, d3⟩ := new_pin (ds := (usort ns).map PyData.int) r2 (dpa_ints _) hu
  exact q u _ _ _ ((e1.trans (hide_ex (Ex.new hs))).trans e3) hF r3 d3
/-! ### tuple(range(n)) -/
def gTupRg : D → Option D
  | .int n => if 0 ≤ n ∧ n ≤ 1000000 then some (.tuple ((List.range n.toNat).map fun i : Nat => .int (i : Int))) else none
  | _ => none
theorem pd_tupRg {p p2 pos2 : Pos} (hc : X.calm = true) (hg : Gl X "tuple") (hm : X.mg "tuple" = none) (hg2 : Gl X "range") (hm2 : X.mg "range" = none) (ha : PD X M a fa)
    (na : starEach [a] X.env = (false, eval a X.env) :: starEach [] X.env := by rfl) (na2 : starEach [.Call (.Name "range" p2) [a] [] pos2] X.env = (false, eval (.Call (.Name "range" p2) [a] [] pos2) X.env) :: starEach [] X.env := by rfl) :
    PD X M (.Call (.Name "tuple" p) [.Call (.Name "range" p2) [a] [] pos2] [] pos) (fUn gTupRg fa) := by
  refine ⟨PE.wk (pe_tupRg hc hg hm (prg_1 hg2 hm2 ha.pe na) na2) fun σ H Q h => ?_, fUn_mono ha.mono⟩
  refine dUn (r := fun x H Q => ∃ n, x = .int n ∧ RgOk 0 n ∧ ∀ q, H q = none → Q (.ref q) (upd H q (.tup (rgV 0 n)))) ?_ ha.mono σ H Q h
  intro L H x dx d Q tr h1 hg q
  unfold gTupRg at hg
  split at hg
  · split at hg
    · rename_i n c
      cases hg
      obtain rfl := rp_int h1
      refine ⟨n, rfl, ⟨by omega, by omega, by omega, by omega, by omega⟩, fun u hu => q _ _ (Ex.new hu) (new_tup tr hu ?_)⟩
      have e : rgV 0 n = ((List.range n.toNat).map fun i : Nat => (i : Int)).map V.int := by
        unfold rgV
        rw [List.map_map]
        simp
      have e2 : ((List.range n.toNat).map fun i : Nat => PyData.int (i : Int)) = ((List.range n.toNat).map fun i : Nat => (i : Int)).map PyData.int := by
        rw [List.map_map]
        rfl
      rw [e, e2]
      exact dpa_ints _
    · cases hg
  · cases hg
end
/-! ### t[::-1] -/
section
variable {prog : Program} {w : World} {A : Around} {E : Value → Shared → Prop} {s : Shared}
theorem rev_pick (xs : Array Value) : ((List.range xs.size).filterMap fun (k : Nat) => xs[(((xs.size : Int) - 1) + (k : Int) * (-1)).toNat]?).toArray = xs.toList.reverse.toArray := by
  have h := PySem.W.krv_pick xs
  unfold slicePick at h
  rw [PySem.W.krv_bounds] at h
  have h2 : ((sliceRange ((xs.size : Int) - 1) (-1) (-1)).filterMap (xs[·]?)).toArray = xs.toList.reverse.toArray := h
  rw [PySem.W.krv_sliceRange, List.filterMap_map] at h2
  rw [← h2]
  congr 1
  have e : (fun (k : Nat) => xs[(((xs.size : Int) - 1) + (k : Int) * (-1)).toNat]?) = ((fun x => xs[x]?) ∘ fun k => xs.size - 1 - k) := by
    funext k
    show xs[(((xs.size : Int) - 1) + (k : Int) * (-1)).toNat]? = xs[xs.size - 1 - k]?
    congr 1
    omega
  rw [e]
theorem rev_applied {sl : Addr} {vs : Value} {n : Nat} {Q : Int × Int × Nat → Shared → Prop} (hs : s.heap.IsSliceOf sl .none .none vs) (ps : IsPart vs (some (-1)))
    (h : Q ((n : Int) - 1, -1, n) s) : wpAny (model prog w) A (Builtin.Slice.sliceApplied (.ref sl) (pure (n : Int))) Q E s := by
  obtain ⟨os, hos, hcs, hds⟩ := id hs
  unfold Builtin.Slice.sliceApplied Builtin.Slice.sliceFields
  refine wpAny_bind (wpAny_bind (wpAny_field hos hds (x := .none) rfl (wpAny_bind (wpAny_field hos hds (x := .none) rfl (wpAny_bind (wpAny_field hos hds (x := vs) rfl (wpAny_pure ?_)))))))
  refine wpAny_bind (HT.slicePart_ ps ?_)
  show wpAny _ _ (if ((-1 : Int) == 0) = true then _ else _) _ _ s
  rw [if_neg (by decide)]
  refine wpAny_bind (HT.slicePart_ .none (wpAny_bind (HT.slicePart_ .none (wpAny_bind (wpAny_pure ?_)))))
  show wpAny _ _ (match Builtin.Slice.sliceAdjust none none (-1) (n : Int) with | (lo, hi) => pure (lo, (-1 : Int), Builtin.Slice.slicePlaces lo hi (-1))) _ _ s
  have e : Builtin.Slice.sliceAdjust none none (-1) (n : Int) = ((n : Int) - 1, -1) := by
    unfold Builtin.Slice.sliceAdjust
    simp
  rw [e]
  show wpAny _ _ (pure ((n : Int) - 1, (-1 : Int), Builtin.Slice.slicePlaces ((n : Int) - 1) (-1) (-1))) _ _ s
  have e2 : Builtin.Slice.slicePlaces ((n : Int) - 1) (-1) (-1) = n := by
    unfold Builtin.Slice.slicePlaces
    simp
    split <;> omega
  rw [e2]
  exact wpAny_pure h
theorem getItem_tuple_rev {t sl : Addr} {items : Array Value} {vs : Value} {Q : Value → Shared → Prop} (ht : IsTup s.heap t items) (hs : s.heap.IsSliceOf sl .none .none vs) (ps : IsPart vs (some (-1)))
    (h : Q (.ref s.heap.objs.size) { s with heap := s.heap.push { cls := .type "tuple", data := .seq items.toList.reverse.toArray } })
    (hsz : items.size ≤ sizeLine) : wpAny (model prog w) A (getItem (.ref t) (.ref sl)) Q E s := by
  have htake : sizeOk (.seq items.toList.reverse.toArray) := by
    show items.toList.reverse.toArray.size ≤ sizeLine
    rw [List.size_toArray, List.length_reverse, Array.length_toList]
    omega
  obtain ⟨os, hos, hcs, hds⟩ := id hs
  have hTs : s.TypeIs (.ref sl) "slice" := ⟨os, hos, hcs⟩
  unfold getItem
  try with_reducible refine wpAny_holding ?_
  first | refine wpAny_bind (wpAny_pure ?_) | skip
  refine wpAny_bind (wpAny_sequenceKey ht.typeIs (by decide) ?_)
  refine wpAny_bind (wpAny_callSpecial?_slot (name := Str.ofString "__getitem__") ht.typeIs PyProof.Rows.slot_tuple_getitem
    (wpAny_call_entry PyProof.Rows.slot_tuple_getitem ht.typeIs entry_tuple_getitem ?_ (args_tuple_getitem _ _)))
  show wpAny _ _ (Builtin.Tuple.tupleItemsOf (.ref t) >>= _) _ _ s
  refine wpAny_bind (tupleItemsOf_ ht ?_)
  refine wpAny_bind (wpAny_typeOf hTs ?_)
  rw [if_pos (by decide)]
  refine wpAny_bind (rev_applied hs ps ?_)
  have hno : ¬ ((((items.size : Int) - 1) == 0 && (-1 : Int) == 1 && items.size == items.size) = true) := by
    simp
  show wpAny _ _ (if (((items.size : Int) - 1) == 0 && (-1 : Int) == 1 && items.size == items.size) = true then _ else _) _ _ s
  rw [if_neg hno, rev_pick]
  first
    | exact wpAny_bind (m := Builtin.Tuple.tupleExact _) (wpAny_newObj_type (wpAny_pure ⟨_, rfl, wpAny_pure h⟩) htake)
    | exact wpAny_bind (m := Builtin.Tuple.tupleExact _) (wpAny_newObj_type (wpAny_bind (wpAny_pure (wpAny_pure ⟨_, rfl, wpAny_pure h⟩))) htake)
    | exact wpAny_bind (wpAny_bind (m := Builtin.Tuple.tupleExact _) (wpAny_newObj_type (wpAny_pure (wpAny_pure ⟨_, rfl, wpAny_pure h⟩)) htake))
    | exact wpAny_bind (wpAny_bind (m := Builtin.Tuple.tupleExact _) (wpAny_newObj_type (wpAny_pure ⟨_, rfl, wpAny_pure h⟩) htake))
end
section
variable {X : Cx} {M : Mk0} {fa : FE}
theorem vals_rev : ∀ {xs : List V} {us : List Value}, Vals xs us → Vals xs.reverse us.reverse := fun r => r.reverse
def tRevT (K : PySem.W.Frag) (te : TE) : TE := fun σ H Q => te σ H fun x H1 => ∃ a xs, x = .ref a ∧ SqT K H1 a xs ∧ ∀ p, H1 p = none → Q (.ref p) (upd H1 p (.tup xs.reverse))
theorem pe_revT {e : Expr} {te : TE} {k : Nat} {p1 p2 p3 pos : Pos} (he : PE X e te) : PE X (.Subscript e (.Slice none none (some (.UnaryOp .USub (.Constant (.int 1) k p1) p2)) p3) pos) (tRevT X.K te) := by
  refine ⟨fun pins s σ H Q I h => ?_⟩
  refine Subscript_ (thn (he.run pins s σ H _ I h) fun v s1 ⟨x, H1, I1, r1, q1⟩ => ?_)
  obtain ⟨a, xs, ex, hx, q⟩ := q1
  subst ex
  cases r1
  have hst : PO X (some (.UnaryOp .USub (.Constant (.int 1) k p1) p2)) (tPart (tUn (rU fun i => .int (-i)) (tC (.int 1)))) := po_some (pe_un un_neg pe_int)
  refine wpAny_Slice (thn (po_none.run pins s1 σ H1 (fun o H2 => o = none ∧ H2 = H1) I1 ⟨rfl, rfl⟩) fun vl s2 ⟨l, H2, I2, pl, el, e2⟩ => ?_)
  subst el e2
  refine thn (po_none.run pins s2 σ H2 (fun o H3 => o = none ∧ H3 = H2) I2 ⟨rfl, rfl⟩) fun vu s3 ⟨u, H3, I3, pu, eu, e3⟩ => ?_
  subst eu e3
  refine thn (hst.run pins s3 σ H3 (fun o H4 => o = some (-1) ∧ H4 = H3) I3 ⟨1, rfl, -1, rfl, rfl, rfl⟩) fun vs s4 ⟨o, H4, I4, ps, eo, e4⟩ => ?_
  subst eo e4
  cases pl
  cases pu
  have I5 : Inv X pins σ H4 { s4 with heap := s4.heap.push { cls := .type "slice", data := .fields #[.none, .none, vs] } } := I4.kept (t' := s4.toks) fun b ob q => Heap.get?_push_of_some _ q
  obtain ⟨its, r, ht, hz⟩ := I5.tuple hx
  have hlen := r.length
  show wpAny (model X.prog X.w) X.A (subscriptTail e (.Slice none none (some (.UnaryOp .USub (.Constant (.int 1) k p1) p2)) p3) (.ref a) (.ref s4.heap.objs.size)) (EP X pins σ Q) X.xe { s4 with heap := s4.heap.push { cls := .type "slice", data := .fields #[.none, .none, vs] } }
  refine tail_any (ops := [.ref a, .ref s4.heap.objs.size]) ht.typeIs (PyProof.Rows.slot_tuple_getitem.lookup) ?_ (by with_unfolding_all rfl)
  refine getItem_tuple_rev ht (Heap.IsSliceOf.new _ .none .none vs) ps ?_ (by rw [List.size_toArray]; omega)
  refine ⟨.ref _, _, I5.laid (t' := s4.toks) (o := .tup xs.reverse) (fun b ob q => Heap.get?_push_of_some _ q) (Nat.le_refl _) ?_, rfl, q _ (I5.hok.fresh (Nat.le_refl _))⟩
  exact ⟨by rw [List.length_reverse]; exact hz, _, r.reverse, IsTup.new _ _⟩
theorem dpa_rev {K : Fr0} {H : Hp} : ∀ {vs : List V} {ds : List D}, RpAll K H vs ds → RpAll K H vs.reverse ds.reverse
  | _, [], h => by cases h; exact .nil
  | _, d :: ds, h => by
    cases h with
    | cons h1 h2 =>
      rw [List.reverse_cons, List.reverse_cons]
      exact dpa_app (dpa_rev h2) (.cons h1 .nil)
def gRevT : D → Option D
  | .tuple xs => some (.tuple xs.reverse)
  | _ => none
theorem pd_revT {e : Expr} {k : Nat} {p1 p2 p3 pos : Pos} (he : PD X M e fa) : PD X M (.Subscript e (.Slice none none (some (.UnaryOp .USub (.Constant (.int 1) k p1) p2)) p3) pos) (fUn gRevT fa) := by
  refine ⟨PE.wk (pe_revT he.pe) fun σ H Q h => ?_, fUn_mono he.mono⟩
  refine dUn (r := fun x H Q => ∃ a xs, x = .ref a ∧ SqT X.K H a xs ∧ ∀ p, H p = none → Q (.ref p) (upd H p (.tup xs.reverse))) ?_ he.mono σ H Q h
  intro L H x dx d Q tr h1 hg q
  unfold gRevT at hg
  split at hg
  · cases hg
    obtain ⟨a, xs, rfl, g1, g2⟩ := rp_tuple h1
    exact ⟨a, xs, rfl, g1, fun p hp => q _ _ (Ex.new hp) (new_tup tr hp (dpa_rev g2))⟩
  · cases hg
end
end PD

namespace PD
open PySem L2 PyProof.Rows PySem.Spec
open Evl (Ex)
section
variable {X : Cx} {M : Mk0} {body : List Stmt} {h₀ : ExceptHandler} {hs : List ExceptHandler} {fs : FS} {pos : Pos}
/-- a try whose body raises nothing -/
theorem pds_try0 (hb : PDs X.nox M body fs) : PDS X M (.Try body (h₀ :: hs) [] [] pos) fs := ⟨PS.wk (ps_try_thru0 hb.ps) fun D σ H h => h, hb.mono⟩
end
section
variable {X : Cx} {M : Mk0} {tg iter tg1 iter1 elt : Expr} {ifs ifs1 : List Expr} {pos : Pos} {fi fi1 : FI} {g g1 : FG} {ft ft1 : FT} {fe : FE} {vs vs0 vs1 : List Nat}
/-- y = [.. for .. for ..] on one line -/
theorem pds_setLc2 {i : Nat} {y : Str} {py spos : Pos} {scope : Scope} {own : List (Str × Nat)} (hc : X.calm = true) (hN : X.N.Nodup) (hy : X.N[i]? = some y) (hyl : X.env.scope.names.lookup y = some .local)
    (hsw : swapsWith (.ListComp elt [⟨tg, iter, ifs, 0⟩, ⟨tg1, iter1, ifs1, 0⟩] scope pos) (some (.Name y py)) spos.line X.env = pure true) (hi : PDI X M tg iter fi) (ok : BlkOk X.N X.env.scope scope own) (hv : own.map (·.2) = vs) (sub : ∀ i ∈ vs0, i ∈ vs) (sub1 : ∀ i ∈ vs1, i ∈ vs)
    (hg : ∀ s H C cl fp, PG1 (Blk X scope s H C cl fp) M tg vs0 g) (ht : ∀ s H C cl fp, PTn (Blk X scope s H C cl fp) M ifs ft) (hi1 : ∀ s H C cl fp, PDI (Blk X scope s H C cl fp) M tg1 iter1 fi1) (hg1 : ∀ s H C cl fp, PG1 (Blk X scope s H C cl fp) M tg1 vs1 g1)
    (ht1 : ∀ s H C cl fp, PTn (Blk X scope s H C cl fp) M ifs1 ft1) (he : ∀ s H C cl fp, PD (Blk X scope s H C cl fp) M elt fe) (w0 : Shared) (hs : ∀ x, foldedSetIterable iter X.env x = pure x := by intro _; rfl) (hs1 : ∀ env x, foldedSetIterable iter1 env x = pure x := by intro _ _; rfl) :
    PDS X M (.Assign [.Name y py] (.ListComp elt [⟨tg, iter, ifs, 0⟩, ⟨tg1, iter1, ifs1, 0⟩] scope pos) spos) (fsAsg (fOfN (fnComp2 fi g ft fi1 g1 ft1 fe vs vs1)) (fgN i)) := by
  subst hv
  have h0 := hg w0 (fun _ => none) 0 [] []
  have t0 := ht w0 (fun _ => none) 0 [] []
  have i0 := hi1 w0 (fun _ => none) 0 [] []
  have h1 := hg1 w0 (fun _ => none) 0 [] []
  have t1 := ht1 w0 (fun _ => none) 0 [] []
  have e0 := he w0 (fun _ => none) 0 [] []
  have mN : ∀ (ρ : Rho) (k k' : List D → Rho → Prop), (∀ d ρ', k d ρ' → k' d ρ') → fnComp2 fi g ft fi1 g1 ft1 fe (own.map (·.2)) vs1 ρ k → fnComp2 fi g ft fi1 g1 ft1 fe (own.map (·.2)) vs1 ρ k' :=
    fun ρ k k' h q => hi.mono _ _ _ (fun ds ρ1 q => compD2_mono h0.mono t0.mono i0.mono h1.mono t1.mono e0.mono ds _ _ _ _ (fun out ρ2 q => h _ _ q) q) q
  refine ⟨PS.wk (ps_setLc2 (te := DE X.k0 M fe) (tt := DT X.k0 M ft) (tt1 := DT X.k0 M ft1) (wi1 := DI X.k0 M fi1) (g := DGt X.k0 M vs0 g) (g1 := DGt X.k0 M vs1 g1) hc hN hy hyl hsw hi.pi ok sub1 (fun s H C cl fp => (hg s H C cl fp).pg) (fun s H C cl fp => (ht s H C cl fp).pt) (fun s H C cl fp => (hi1 s H C cl fp).pi)
    (fun s H C cl fp => (hg1 s H C cl fp).pg) (fun s H C cl fp => (ht1 s H C cl fp).pt) (fun s H C cl fp => (he s H C cl fp).pe) hs hs1) fun D' σ H h => ?_, fsAsg_mono (fun ρ k k' h q => mN _ _ _ (fun ds ρ1 q => h _ _ q) q) fun d ρ k k' h q => h _ q⟩
  obtain ⟨P, F, L, ρ, r, k⟩ := h
  refine dComp2 hi.mono h0.mono t0.mono i0.mono h1.mono t1.mono e0.mono sub σ H _ ?_
  refine dOfN mN σ H _ ⟨P, F, L, ρ, r, mN _ _ _ (fun ds ρ1 q v L1 H1 e1 r1 d1 => ?_) k⟩
  exact q (σ.set i (some v)) L1 H1 e1 (r1.setD i (.d (.list ds)) (some v) ⟨v, rfl, d1⟩ fun xs z => nomatch z)
end
section
variable {X : Cx} {M : Mk0} {k : Nat} {f : Addr} {fd : FuncData} {ps : List Str} {n : Nat} {W : FE} {x : Str} {p pos : Pos}
/-- a call without arguments -/
def fCall0 (W : FE) : FE := fun ρ k => W ⟨[], ρ.n⟩ fun d ρ2 => k d ⟨ρ.sl, ρ2.n⟩
theorem pd_call0 (mW : ∀ ρ k k', (∀ d ρ', k d ρ' → k' d ρ') → W ρ k → W ρ k') (G : FnG X.prog X.w X.K X.mg X.base (L2.CX X.prog X.w) k f fd ps (spD X.k0 M 0 W)) (hgd : X.A.guards = some []) (hr : Room k X.A) (hg : Gl X x) (hm : X.mg x = some (.ref f)) (hk : PySem.W.keepIn X.K (.ref f) = true) (hb : Binds X.K fd ps [])
    (hdb : (x == ("__debug__" : Str)) = false := by decide) : PD X M (.Call (.Name x p) [] [] pos) (fCall0 W) := by
  refine ⟨PE.wk (pe_callG0 (E := E0) G hgd hr hg hm hk hb passF hdb) fun σ H Q ⟨P, F, L, ρ, r, q⟩ => ?_, fun ρ k k' g q => mW _ _ _ (fun d ρ2 q => g _ _ q) q⟩
  have bare : Bare ⟨[], ρ.n⟩ := fun i xs h => by simp at h
  have r2 : R X.k0 M P (keepF ρ σ F H) L ⟨[], ρ.n⟩ (([] : List V).map some) H := r.frame bare rfl rfl fun i s o g1 g2 => by simp at g1
  refine ⟨P, _, L, _, r2, bare, rfl, mW _ _ _ (fun d ρ2 q2 v L2 H2 e2 r3 d2 => ?_) q⟩
  exact q2 v L2 H2 e2 (r.back r3 e2) d2
end
end PD

namespace PD
open PySem L2 PyProof.Rows PySem.Spec TL
open Evl (Ex)
/-! ### trees of ints and tuples: == is = -/
mutual
def itree : D → Bool
  | .int _ => true
  | .tuple xs => itreeAll xs
  | _ => false
def itreeAll : List D → Bool
  | [] => true
  | x :: xs => itree x && itreeAll xs
end
mutual
theorem eqv_itree : ∀ a b : D, itree a = true → itree b = true → (PyData.eqv a b = true ↔ a = b)
  | .int i, .int j, _, _ => by simp [PyData.eqv]
  | .tuple xs, .tuple ys, ha, hb => by
    have := eqv_itreeAll xs ys (by simpa [itree] using ha) (by simpa [itree] using hb)
    simpa [PyData.eqv] using this
  | .int _, .tuple _, _, _ => by simp [PyData.eqv]
  | .tuple _, .int _, _, _ => by simp [PyData.eqv]
  | .none, _, h, _ => by simp [itree] at h
  | .bool _, _, h, _ => by simp [itree] at h
  | .str _, _, h, _ => by simp [itree] at h
  | .list _, _, h, _ => by simp [itree] at h
  | .dict _, _, h, _ => by simp [itree] at h
  | .int _, .none, _, h => by simp [itree] at h
  | .int _, .bool _, _, h => by simp [itree] at h
  | .int _, .str _, _, h => by simp [itree] at h
  | .int _, .list _, _, h => by simp [itree] at h
  | .int _, .dict _, _, h => by simp [itree] at h
  | .tuple _, .none, _, h => by simp [itree] at h
  | .tuple _, .bool _, _, h => by simp [itree] at h
  | .tuple _, .str _, _, h => by simp [itree] at h
  | .tuple _, .list _, _, h => by simp [itree] at h
  | .tuple _, .dict _, _, h => by simp [itree] at h
theorem eqv_itreeAll : ∀ as bs : List D, itreeAll as = true → itreeAll bs = true → (PyData.eqvAll as bs = true ↔ as = bs)
  | [], [], _, _ => by simp [PyData.eqvAll]
  | [], _ :: _, _, _ => by simp [PyData.eqvAll]
  | _ :: _, [], _, _ => by simp [PyData.eqvAll]
  | a :: as, b :: bs, ha, hb => by
    have ha : itree a = true ∧ itreeAll as = true := by simpa [itreeAll] using ha
    have hb : itree b = true ∧ itreeAll bs = true := by simpa [itreeAll] using hb
    have h1 := eqv_itree a b ha.1 hb.1
    have h2 := eqv_itreeAll as bs ha.2 hb.2
    simp [PyData.eqvAll, h1, h2]
end
theorem itreeAll_map {α : Type} {f : α → D} : ∀ {xs : List α}, (∀ x ∈ xs, itree (f x) = true) → itreeAll (xs.map f) = true
  | [], _ => rfl
  | x :: xs, h => by
    rw [List.map_cons]
    show (itree (f x) && itreeAll (xs.map f)) = true
    rw [h x List.mem_cons_self, itreeAll_map fun y hy => h y (List.mem_cons_of_mem _ hy)]
    rfl
theorem itree_ints (ns : List Int) : itree (.tuple (ns.map .int)) = true := by
  show itreeAll _ = true
  exact itreeAll_map fun _ _ => rfl
/-! tame trees, their depth and weight, by parts -/
theorem tameAll_map {α : Type} {f : α → D} : ∀ {xs : List α}, (∀ x ∈ xs, tame (f x) = true) → tameAll (xs.map f) = true
  | [], _ => rfl
  | x :: xs, h => by
    rw [List.map_cons]
    show (tame (f x) && tameAll (xs.map f)) = true
    rw [h x List.mem_cons_self, tameAll_map fun y hy => h y (List.mem_cons_of_mem _ hy)]
    rfl
theorem depthAll_map {α : Type} {f : α → D} (n : Nat) : ∀ {xs : List α}, (∀ x ∈ xs, (f x).depth ≤ n) → PyData.depthAll (xs.map f) ≤ n
  | [], _ => by simp [PyData.depthAll]
  | x :: xs, h => by
    rw [List.map_cons]
    show max (f x).depth (PyData.depthAll (xs.map f)) ≤ n
    have h1 := h x List.mem_cons_self
    have h2 := depthAll_map n fun y (hy : y ∈ xs) => h y (List.mem_cons_of_mem _ hy)
    omega
/-- a list of draws, each of what P tells -/
theorem comp_st {α β : Type} {g : FG} {fe : FE} {vs : List Nat} {k : List D → Rho → Prop} (c : α → D) (f : β → D) (Pb : β → Prop) (cost N : Nat) (sl : List Sl) : ∀ (xs : List α) (acc : List D) (n : Nat), n + cost * xs.length ≤ N →
    (∀ x ∈ xs, ∀ n' : Nat, n' + cost ≤ N → ∀ kt : D → Rho → Prop, (∀ (r : β) (ρ3 : Rho), Pb r → ρ3.n ≤ n' + cost → kt (f r) ρ3) → g (c x) (wipeR vs ⟨sl, n'⟩) fun ρ1 => fe ρ1 kt) →
    (∀ (rs : List β) (m : Nat), rs.length = xs.length → (∀ r ∈ rs, Pb r) → m ≤ n + cost * xs.length → k (acc ++ rs.map f) ⟨sl, m⟩) → compD g ftYes fe vs (xs.map c) acc ⟨sl, n⟩ k
  | [], acc, n, _, _, q => by
    have := q [] n rfl (fun r hr => absurd hr List.not_mem_nil) (by simp)
    simpa [compD] using this
  | x :: xs, acc, n, hn, s, q => by
    rw [List.length_cons, Nat.mul_succ] at hn
    rw [List.map_cons]
    unfold compD
    have st := s x List.mem_cons_self n (by omega) (fun y ρ3 => compD g ftYes fe vs (xs.map c) (acc ++ [y]) ⟨sl, ρ3.n⟩ k) fun r ρ3 hr hm => by
      refine comp_st c f Pb cost N sl xs (acc ++ [f r]) ρ3.n (by omega) (fun y hy => s y (List.mem_cons_of_mem _ hy)) fun rs m hl hp hm2 => ?_
      have := q (r :: rs) m (by rw [List.length_cons, hl, List.length_cons]) (fun z hz => by
          rcases List.mem_cons.mp hz with u | u
          · subst u; exact hr
          · exact hp z u) (by rw [List.length_cons, Nat.mul_succ]; omega)
      rw [List.append_assoc]
      exact this
    simpa [ftYes] using st
/-! ### texts of digits -/
/-- the text of an int -/
abbrev dg (i : Int) : Str := (toString i : String)
theorem tl_dg {i : Int} (h0 : 0 ≤ i) (h1 : i < 10) : tl (dg i) = [48 + i.toNat] := by
  obtain ⟨n, rfl⟩ := Int.eq_ofNat_of_zero_le h0
  rw [show tl (dg (n : Int)) = numL n from tl_num n, numL_lt (by omega)]
  rfl
theorem len_dg {i : Int} (h0 : 0 ≤ i) (h1 : i < 10) : (dg i).length = 1 := by
  rw [len_tl, tl_dg h0 h1]
  rfl
theorem dg_inj {i j : Int} (hi : 0 ≤ i ∧ i < 10) (hj : 0 ≤ j ∧ j < 10) (h : dg i = dg j) : i = j := by
  have := congrArg tl h
  rw [tl_dg hi.1 hi.2, tl_dg hj.1 hj.2] at this
  simp at this
  omega
theorem log2_small {i : Int} (h0 : 0 ≤ i) (h1 : i < 1000000000000) : i.natAbs.log2 < 1920 := by
  by_cases z : i.natAbs = 0
  · rw [z]; decide
  · have : i.natAbs.log2 < 40 := (Nat.log2_lt z).mpr (Nat.lt_of_lt_of_le (show i.natAbs < 10 ^ 12 by omega) (by decide))
    omega
theorem gStr_int {i : Int} (h0 : 0 ≤ i) (h1 : i < 1000000000000) : gStr (.int i) = some (.str (dg i)) := by
  show (if i.natAbs.log2 < 1920 then _ else _) = _
  rw [if_pos (log2_small h0 h1)]
theorem gFmt_int {i : Int} (h0 : 0 ≤ i) (h1 : i < 1000000000000) : gFmt (.int i) = some (.str (dg i)) := by
  show (if i.natAbs.log2 < 1920 then _ else _) = _
  rw [if_pos (log2_small h0 h1)]
theorem gStr_str (x : Str) : gStr (.str x) = some (.str x) := rfl
theorem dg_ascii {i : Int} (h0 : 0 ≤ i) (h1 : i < 10) : Txt.isascii (dg i) = true := by
  obtain ⟨n, rfl⟩ := Int.eq_ofNat_of_zero_le h0
  have h1 : n < 10 := by omega
  match n, h1 with
  | 0, _ => decide +kernel
  | 1, _ => decide +kernel
  | 2, _ => decide +kernel
  | 3, _ => decide +kernel
  | 4, _ => decide +kernel
  | 5, _ => decide +kernel
  | 6, _ => decide +kernel
  | 7, _ => decide +kernel
  | 8, _ => decide +kernel
  | 9, _ => decide +kernel
theorem dg_digit {i : Int} (h0 : 0 ≤ i) (h1 : i < 10) : Txt.isdigit (dg i) = true := by
  obtain ⟨n, rfl⟩ := Int.eq_ofNat_of_zero_le h0
  have h1 : n < 10 := by omega
  match n, h1 with
  | 0, _ => decide +kernel
  | 1, _ => decide +kernel
  | 2, _ => decide +kernel
  | 3, _ => decide +kernel
  | 4, _ => decide +kernel
  | 5, _ => decide +kernel
  | 6, _ => decide +kernel
  | 7, _ => decide +kernel
  | 8, _ => decide +kernel
  | 9, _ => decide +kernel
theorem dg_first {i : Int} (h0 : 0 ≤ i) (h1 : i < 10) : gIxS (.str (dg i)) (.int 0) = some (.str (dg i)) := by
  have e : (dg i).cps.toList = [48 + i.toNat] := tl_dg h0 h1
  have hl : (dg i).length ≤ sizeLine := by rw [len_dg h0 h1, sizeLine_eq]; omega
  show (if (dg i).length ≤ sizeLine then (atI (dg i).cps.toList 0).map fun c => PyData.str ⟨#[c]⟩ else none) = _
  rw [if_pos hl, e]
  have : (⟨#[48 + i.toNat]⟩ : Str) = dg i := ext_tl (by rw [tl_dg h0 h1])
  show some (PyData.str ⟨#[48 + i.toNat]⟩) = _
  rw [this]
theorem dg_int {i : Int} (h0 : 0 ≤ i) (h1 : i < 10) : gIntA (.str (dg i)) = some (.int i) := by
  obtain ⟨n, rfl⟩ := Int.eq_ofNat_of_zero_le h0
  have hn : (numL n).length ≤ 4300 := by rw [numL_lt (by omega)]; simp
  have e : PySem.intText? (dg (n : Int)) = some (n : Int) := int_num hn
  have hl : (dg (n : Int)).length ≤ 640 := by rw [len_dg h0 h1]; omega
  unfold gIntA
  simp only [e]
  rw [if_pos hl]
theorem dg_zero {i : Int} (h0 : 0 ≤ i) (h1 : i < 10) : decide (dg i = ("0" : Str)) = decide (i = 0) := by
  have e : ("0" : Str) = dg 0 := by decide +kernel
  rw [e]
  by_cases h : i = 0
  · subst h; simp
  · rw [decide_eq_false h, decide_eq_false fun z => h (dg_inj ⟨h0, h1⟩ ⟨by decide, by decide⟩ z)]
/-! signs -/
def nos (c : Nat) (x : Str) : Prop := c ∉ tl x
theorem nos_dg {i : Int} (h0 : 0 ≤ i) (h1 : i < 10) {c : Nat} (hc : c < 48 ∨ 57 < c) : c ∉ tl (dg i) := by
  rw [tl_dg h0 h1]
  simp
  omega
theorem mem_joinL {S : List Nat} {c : Nat} : ∀ {ps : List (List Nat)}, c ∈ joinL S ps → c ∈ S ∨ ∃ p ∈ ps, c ∈ p
  | [], h => by cases h
  | [p], h => .inr ⟨p, List.mem_cons_self, h⟩
  | p :: q :: r, h => by
    have h : c ∈ p ++ (S ++ joinL S (q :: r)) := h
    rcases List.mem_append.mp h with u | u
    · exact .inr ⟨p, List.mem_cons_self, u⟩
    · rcases List.mem_append.mp u with u | u
      · exact .inl u
      · rcases mem_joinL u with v | ⟨z, hz, v⟩
        · exact .inl v
        · exact .inr ⟨z, List.mem_cons_of_mem _ hz, v⟩
theorem tl_tjoin (y : Str) (ps : List Str) : tl (Txt.join y ps) = joinL (tl y) (ps.map tl) := by rw [join_eq, tl_join]
theorem nos_join {y : Str} {ps : List Str} {c : Nat} (hy : c ∉ tl y) (h : ∀ p ∈ ps, c ∉ tl p) : c ∉ tl (Txt.join y ps) := by
  rw [tl_tjoin]
  intro z
  rcases mem_joinL z with u | ⟨p, hp, u⟩
  · exact hy u
  · obtain ⟨x, hx, rfl⟩ := List.mem_map.mp hp
    exact h x hx u
theorem low_join {y : Str} {ps : List Str} (hy : ∀ c ∈ tl y, c < 128) (h : ∀ p ∈ ps, ∀ c ∈ tl p, c < 128) : ∀ c ∈ tl (Txt.join y ps), c < 128 := by
  rw [tl_tjoin]
  intro c z
  rcases mem_joinL z with u | ⟨p, hp, u⟩
  · exact hy c u
  · obtain ⟨x, hx, rfl⟩ := List.mem_map.mp hp
    exact h x hx c u
theorem low_dg {i : Int} (h0 : 0 ≤ i) (h1 : i < 10) : ∀ c ∈ tl (dg i), c < 128 := by
  rw [tl_dg h0 h1]
  simp
  omega
theorem strOk_low {x : Str} (h : ∀ c ∈ tl x, c < 128) : PyData.strOk x = true := by
  unfold PyData.strOk
  rw [Array.all_eq_true']
  intro c hc
  have := h c (Array.mem_toList_iff.mpr hc)
  exact decide_eq_true (by omega)
theorem joinL_len (S : List Nat) : ∀ (ps : List (List Nat)) (m : Nat), (∀ p ∈ ps, p.length ≤ m) → (joinL S ps).length ≤ ps.length * (m + S.length)
  | [], m, _ => by simp [joinL]
  | [p], m, h => by
    have := h p List.mem_cons_self
    simp [joinL]
    omega
  | p :: q :: r, m, h => by
    have h1 := h p List.mem_cons_self
    have h2 := joinL_len S (q :: r) m fun z hz => h z (List.mem_cons_of_mem _ hz)
    show (p ++ (S ++ joinL S (q :: r))).length ≤ (r.length + 1 + 1) * (m + S.length)
    rw [List.length_append, List.length_append]
    have : (q :: r).length = r.length + 1 := rfl
    rw [this] at h2
    rw [Nat.succ_mul]
    omega
theorem len_join (y : Str) (ps : List Str) (m : Nat) (h : ∀ p ∈ ps, p.length ≤ m) : (Txt.join y ps).length ≤ ps.length * (m + y.length) := by
  rw [len_tl, tl_tjoin, len_tl y]
  have := joinL_len (tl y) (ps.map tl) m fun p hp => by
    obtain ⟨x, hx, rfl⟩ := List.mem_map.mp hp
    rw [← len_tl]
    exact h x hx
  rwa [List.length_map] at this
theorem sum_le : ∀ (ps : List Str) (m : Nat), (∀ p ∈ ps, p.length ≤ m) → (ps.map (·.length)).sum ≤ ps.length * m
  | [], m, _ => by simp
  | p :: ps, m, h => by
    have h1 := h p List.mem_cons_self
    have h2 := sum_le ps m fun z hz => h z (List.mem_cons_of_mem _ hz)
    rw [List.map_cons, List.sum_cons, List.length_cons, Nat.succ_mul]
    omega
theorem gJoin_l {y : Str} {ps : List Str} (m : Nat) (h : ∀ p ∈ ps, p.length ≤ m) (hl : ps.length * (m + y.length) ≤ 16777216) : gJoin (.str y) (.list (ps.map .str)) = some (.str (Txt.join y ps)) := by
  unfold gJoin
  simp only [strsD_map]
  have := sum_le ps m h
  rw [Nat.mul_add] at hl
  rw [if_pos (by omega)]
theorem gSplit_join {y : Str} {s : Nat} {S : List Nat} (ey : tl y = s :: S) (hk : y.cps.all (· < 256) = true) {ps : List Str} (hne : ps ≠ []) (hp : ∀ p ∈ ps, s ∉ tl p) (hl : (Txt.join y ps).length ≤ 1000000) :
    gSplit (.str (Txt.join y ps)) (.str y) = some (.list (ps.map .str)) := by
  show (if (y.length == 0) = false ∧ (Txt.join y ps).length + 2 ≤ sizeLine then some (PyData.list ((Txt.split (Txt.join y ps) y).map .str)) else none) = _
  rw [if_pos ⟨by rw [len_tl, ey]; rfl, by rw [sizeLine_eq]; omega⟩, split_join ey hk hne hp]
theorem str_eqv_ll (a b c d : Str) : PyData.eqv (.list [.str a, .str b]) (.list [.str c, .str d]) = (decide (a = c) && decide (b = d)) := by
  simp only [PyData.eqv, PyData.eqvAll, Bool.and_true]
  have e : ∀ x y : Str, (x == y) = decide (x = y) := fun x y => by
    by_cases h : x = y
    · subst h; simp
    · simp [h]
  rw [e, e]
/-- two walks, the inner things as they are -/
theorem comp2_all {α β : Type} {g : FG} {fi1 : FI} {g1 : FG} {ft1 : FT} {fe : FE} {vs vs1 : List Nat} {sl : List Sl} {n : Nat} {k : List D → Rho → Prop} (c : α → D) (ys : α → List β) (f : β → D) : ∀ (xs : List α) (acc : List D),
    (∀ x ∈ xs, ∀ acc : List D, acc.length + (ys x).length ≤ 1000000 → ∀ kt : List D → Rho → Prop, (∀ ρ4 : Rho, ρ4.n = n → kt (acc ++ (ys x).map f) ρ4) → g (c x) (wipeR vs ⟨sl, n⟩) fun ρ1 => fi1 ρ1 fun ds ρ3 => ρ3.sl.all notOwn = true ∧ acc.length + ds.length ≤ 1000000 ∧ compD g1 ft1 fe vs1 ds acc ρ3 kt) →
    acc.length + (xs.map fun x => (ys x).length).sum ≤ 1000000 → k (acc ++ (xs.flatMap ys).map f) ⟨sl, n⟩ → compD2 g ftYes fi1 g1 ft1 fe vs vs1 (xs.map c) acc ⟨sl, n⟩ k
  | [], acc, _, _, q => by simpa [compD2] using q
  | x :: xs, acc, s, hl, q => by
    rw [List.map_cons, List.sum_cons] at hl
    rw [List.map_cons]
    unfold compD2
    have st := s x List.mem_cons_self acc (by omega) (fun acc2 ρ4 => compD2 g ftYes fi1 g1 ft1 fe vs vs1 (xs.map c) acc2 ⟨sl, ρ4.n⟩ k) fun ρ4 e => by
      rw [e]
      refine comp2_all c ys f xs _ (fun y hy => s y (List.mem_cons_of_mem _ hy)) (by rw [List.length_append, List.length_map]; omega) ?_
      rw [List.flatMap_cons, List.map_append] at q
      rw [List.append_assoc]
      exact q
    simpa [ftYes] using st
theorem comp_allD {g : FG} {fe : FE} {vs : List Nat} {ρ : Rho} {k : List D → Rho → Prop} (f : D → D) (xs : List D) (s : ∀ x ∈ xs, ∀ kt : D → Rho → Prop, (∀ ρ3 : Rho, ρ3.n = ρ.n → kt (f x) ρ3) → g x (wipeR vs ρ) fun ρ1 => fe ρ1 kt)
    (q : k (xs.map f) ρ) : compD g ftYes fe vs xs [] ρ k := by
  have := comp_all (g := g) (fe := fe) (vs := vs) (ρ := ρ) (k := k) id f xs s q
  rwa [List.map_id] at this
/-- one whose test draws once for each: what is kept stands in its order -/
theorem comp_drawS {α : Type} {g : FG} {ft : FT} {fe : FE} {vs : List Nat} {k : List D → Rho → Prop} (c f : α → D) (N : Nat) (sl : List Sl) : ∀ (xs : List α) (acc : List D) (n : Nat), n + xs.length ≤ N →
    (∀ x ∈ xs, ∀ n' : Nat, n' < N → ∀ (kt : D → Rho → Prop) (kf : Rho → Prop), (∀ ρ3 : Rho, ρ3.n = n' + 1 → kt (f x) ρ3) → (∀ ρ3 : Rho, ρ3.n = n' + 1 → kf ρ3) → g (c x) (wipeR vs ⟨sl, n'⟩) fun ρ1 => ft ρ1 fun b ρ2 => if b = true then fe ρ2 kt else kf ρ2) →
    (∀ ys : List α, ys.Sublist xs → k (acc ++ ys.map f) ⟨sl, n + xs.length⟩) → compD g ft fe vs (xs.map c) acc ⟨sl, n⟩ k
  | [], acc, n, _, _, q => by
    have := q [] (List.Sublist.refl _)
    simpa [compD] using this
  | x :: xs, acc, n, hn, s, q => by
    rw [List.length_cons] at hn
    rw [List.map_cons]
    unfold compD
    refine s x List.mem_cons_self n (by omega) _ _ (fun ρ3 e => ?_) (fun ρ3 e => ?_)
    · rw [e]
      refine comp_drawS c f N sl xs _ (n + 1) (by omega) (fun y hy => s y (List.mem_cons_of_mem _ hy)) fun ys hl => ?_
      have := q (x :: ys) (hl.cons_cons x)
      rw [List.length_cons] at this
      rw [List.append_assoc, show n + 1 + xs.length = n + (xs.length + 1) by omega]
      exact this
    · rw [e]
      refine comp_drawS c f N sl xs _ (n + 1) (by omega) (fun y hy => s y (List.mem_cons_of_mem _ hy)) fun ys hl => ?_
      have := q ys (hl.cons x)
      rw [List.length_cons] at this
      rw [show n + 1 + xs.length = n + (xs.length + 1) by omega]
      exact this
theorem rangeD_from (lo : Int) (n : Nat) : rangeD lo (lo + (n : Int)) = (List.range n).map fun i : Nat => PyData.int (lo + (i : Int)) := by
  unfold rangeD
  rw [show (lo + (n : Int) - lo).toNat = n by omega]
/-! parts of lists -/
theorem sIx_nat (n d k : Nat) : HT.sIx n d (some (k : Int)) = min k n := by
  show (if (k : Int) < 0 then ((k : Int) + (n : Int)).toNat else min (k : Int).toNat n) = min k n
  rw [if_neg (by omega), Int.toNat_natCast]
theorem cut_to (xs : List D) (k : Nat) : PD.cutD xs none (some (k : Int)) = xs.take k := by
  unfold PD.cutD
  rw [sIx_nat]
  show (xs.drop 0).take (min k xs.length - 0) = _
  rw [List.drop_zero, Nat.sub_zero, List.take_eq_take_iff]
  omega
theorem cut_from (xs : List D) (k : Nat) : PD.cutD xs (some (k : Int)) none = xs.drop k := by
  unfold PD.cutD
  rw [sIx_nat]
  show (xs.drop (min k xs.length)).take (xs.length - min k xs.length) = _
  rw [List.take_of_length_le (by rw [List.length_drop]; omega)]
  by_cases h : k ≤ xs.length
  · rw [Nat.min_eq_left h]
  · rw [Nat.min_eq_right (by omega), List.drop_of_length_le (Nat.le_refl _), List.drop_of_length_le (by omega)]
theorem cut_mid (xs : List D) (i j : Nat) (h : i < xs.length) : PD.cutD xs (some (i : Int)) (some ((i : Int) + 1)) = [xs[i]] := by
  unfold PD.cutD
  rw [show ((i : Int) + 1) = ((i + 1 : Nat) : Int) by omega, sIx_nat, sIx_nat, Nat.min_eq_left (by omega), Nat.min_eq_left (by omega), show i + 1 - i = 1 by omega, List.drop_eq_getElem_cons h]
  rfl
theorem cut_init (xs : List D) : PD.cutD xs none (some (-1)) = xs.dropLast := by
  unfold PD.cutD
  have e : HT.sIx xs.length xs.length (some (-1)) = xs.length - 1 := by
    simp [HT.sIx]
    omega
  rw [e]
  show (xs.drop 0).take (xs.length - 1 - 0) = _
  rw [List.drop_zero, Nat.sub_zero, List.dropLast_eq_take]
theorem gSl_tt (xs : List D) (lo hi : Option Int) : gSl (.tuple xs) lo hi = some (.tuple (PD.cutD xs lo hi)) := rfl
theorem set_cut {α : Type} (xs : List α) (k : Nat) (o : α) (h : k < xs.length) : xs.take k ++ [o] ++ xs.drop (k + 1) = xs.set k o := by
  rw [List.set_eq_take_append_cons_drop, if_pos h]
  simp
theorem gAdd_t (xs ys : List D) (h : xs.length + ys.length ≤ 1000000) : gAdd (.tuple xs) (.tuple ys) = some (.tuple (xs ++ ys)) := by
  rw [gAdd_tt, if_pos (by rw [sizeLine_eq]; omega)]
theorem nSortSetA_ints {ns : List Int} (h : ns.length < 64) : nSortSetA (.tuple (ns.map .int)) = some ((usort ns).map .int) := by
  unfold nSortSetA
  simp only [ints_of]
  rw [if_pos h]
theorem gTupRg_nat (n : Nat) (h : n ≤ 1000000) : gTupRg (.int (n : Int)) = some (.tuple (((List.range n).map fun i : Nat => (i : Int)).map .int)) := by
  unfold gTupRg
  simp only
  rw [if_pos ⟨by omega, by omega⟩, List.map_map]
  rfl
/-! tame data with their depth and weight -/
structure Neat (x : D) (dep wt : Nat) : Prop where
  t : tame x = true
  d : x.depth ≤ dep
  w : x.weight ≤ wt
theorem Neat.mono {d : D} {a b a' b' : Nat} (h : Neat d a b) (ha : a ≤ a') (hb : b ≤ b') : Neat d a' b' := ⟨h.t, Nat.le_trans h.d ha, Nat.le_trans h.w hb⟩
theorem neat_int {i : Int} (h : i.natAbs < 10 ^ 12) : Neat (.int i) 0 41 := by
  refine ⟨decide_eq_true h, Nat.le_refl _, ?_⟩
  show (if i == 0 then 0 else i.natAbs.log2 + 1) ≤ 41
  split
  · omega
  · rename_i z
    have z : i.natAbs ≠ 0 := by simpa using z
    have : i.natAbs.log2 < 40 := (Nat.log2_lt z).mpr (Nat.lt_of_lt_of_le h (by decide))
    omega
theorem neat_str {x : Str} (h : PyData.strOk x = true) : Neat (.str x) 0 x.length := ⟨h, Nat.le_refl _, Nat.le_refl _⟩
structure NeatAll (ds : List D) (dep wt : Nat) : Prop where
  t : tameAll ds = true
  d : PyData.depthAll ds ≤ dep
  w : PyData.weightAll ds ≤ wt
theorem neatAll_nil : NeatAll [] 0 0 := ⟨rfl, Nat.le_refl _, Nat.le_refl _⟩
theorem neatAll_cons {x : D} {xs : List D} {a b w v : Nat} (h : Neat x a w) (h2 : NeatAll xs b v) : NeatAll (x :: xs) (max a b) (w + 1 + v) := by
  refine ⟨?_, ?_, ?_⟩
  · show (tame x && tameAll xs) = true
    rw [h.t, h2.t]
    rfl
  · have h1 := h.d
    have h2 := h2.d
    show max x.depth (PyData.depthAll xs) ≤ max a b
    omega
  · have h1 := h.w
    have h2 := h2.w
    show x.weight + 1 + PyData.weightAll xs ≤ _
    omega
theorem neatAll_map {α : Type} {f : α → D} {a w : Nat} : ∀ {xs : List α}, (∀ x ∈ xs, Neat (f x) a w) → NeatAll (xs.map f) a ((w + 1) * xs.length)
  | [], _ => ⟨rfl, Nat.zero_le _, Nat.zero_le _⟩
  | x :: xs, h => by
    have h1 := h x List.mem_cons_self
    have h2 := neatAll_map fun y (hy : y ∈ xs) => h y (List.mem_cons_of_mem _ hy)
    have := neatAll_cons h1 h2
    refine ⟨this.t, by have := this.d; rw [List.map_cons]; omega, by have := this.w; rw [List.map_cons, List.length_cons, Nat.mul_succ]; omega⟩
theorem neat_tup {xs : List D} {a w : Nat} (h : NeatAll xs a w) : Neat (.tuple xs) (a + 1) w := ⟨h.t, by have := h.d; show PyData.depthAll xs + 1 ≤ _; omega, h.w⟩
theorem neat_lst {xs : List D} {a w : Nat} (h : NeatAll xs a w) : Neat (.list xs) (a + 1) w := ⟨h.t, by have := h.d; show PyData.depthAll xs + 1 ≤ _; omega, h.w⟩
theorem gRepr_neat {d : D} {a w : Nat} (h : Neat d a w) (ha : a ≤ 60) (hw : w ≤ 1000000) : gRepr d = some (.str d.shown) := gRepr_tame h.t (Nat.le_trans h.d ha) (Nat.le_trans h.w hw)
theorem gNe_neat {d : D} {a w : Nat} (h : Neat d a w) (ha : a ≤ 60) : gNe d d = some (.bool false) := gNe_self h.t (Nat.le_trans h.d ha)
theorem gEq_neat {d e : D} {a w b v : Nat} (h : Neat d a w) (ha : a ≤ 60) (h2 : Neat e b v) (hb : b ≤ 60) : gEq d e = some (.bool (PyData.eqv d e)) := by
  unfold gEq
  rw [if_pos ⟨shaped_tame h.t (Nat.le_trans h.d ha), shaped_tame h2.t (Nat.le_trans h2.d hb)⟩]
theorem gNe_neat2 {d e : D} {a w b v : Nat} (h : Neat d a w) (ha : a ≤ 60) (h2 : Neat e b v) (hb : b ≤ 60) : gNe d e = some (.bool (!PyData.eqv d e)) := by
  unfold gNe
  rw [if_pos ⟨shaped_tame h.t (Nat.le_trans h.d ha), shaped_tame h2.t (Nat.le_trans h2.d hb)⟩]
theorem gEq_bb (a b : Bool) : gEq (.bool a) (.bool b) = some (.bool (a == b)) := by
  unfold gEq
  rw [if_pos ⟨rfl, rfl⟩]
  rfl
/-! a joined text tells its parts -/
theorem join_inj {y : Str} {s : Nat} {S : List Nat} (ey : tl y = s :: S) (hk : y.cps.all (· < 256) = true) {ps qs : List Str} (hp : ps ≠ []) (hq : qs ≠ []) (h1 : ∀ p ∈ ps, s ∉ tl p) (h2 : ∀ p ∈ qs, s ∉ tl p) (e : Txt.join y ps = Txt.join y qs) : ps = qs := by
  have := split_join ey hk hp h1
  rw [e, split_join ey hk hq h2] at this
  exact this.symm
theorem map_inj_on {α β : Type} {f : α → β} {Pa : α → Prop} (hf : ∀ a b, Pa a → Pa b → f a = f b → a = b) : ∀ {xs ys : List α}, (∀ x ∈ xs, Pa x) → (∀ x ∈ ys, Pa x) → xs.map f = ys.map f → xs = ys
  | [], [], _, _, _ => rfl
  | [], _ :: _, _, _, h => by cases h
  | _ :: _, [], _, _, h => by cases h
  | x :: xs, y :: ys, h1, h2, h => by
    rw [List.map_cons, List.map_cons] at h
    obtain ⟨e1, e2⟩ := List.cons.inj h
    rw [hf x y (h1 x List.mem_cons_self) (h2 y List.mem_cons_self) e1, map_inj_on hf (fun z hz => h1 z (List.mem_cons_of_mem _ hz)) (fun z hz => h2 z (List.mem_cons_of_mem _ hz)) e2]
end PD

--@opt ixS:number_in
--@opt intA:number_in
--@opt sortA
--@opt try0:read_wish,read_guard
namespace K88
open PySem L2 PyProof.Rows PySem.Spec TL PD
open Evl (Ex)
def top (i : Nat) : Stmt := PySem.Challenge.pw_guardkeeps_k88_whole_texts_there_and_bac.main.body.getD i (.Pass ⟨0, 0, 0, 0⟩)
structure Txt (mg : Str → Option Value) : Prop where
  all : mg "all" = none
  bool : mg "bool" = none
  c_MOST_DEEDS : ∃ t, mg "MOST_DEEDS" = some (.int 4 t)
  c_MOST_FIGURES : ∃ t, mg "MOST_FIGURES" = some (.int 31 t)
  c_MOST_MEMORIES : ∃ t, mg "MOST_MEMORIES" = some (.int 8 t)
  c_MOST_SHOWN : ∃ t, mg "MOST_SHOWN" = some (.int 6 t)
  c_MOST_STATES : ∃ t, mg "MOST_STATES" = some (.int 6 t)
  int : mg "int" = none
  isinstance : mg "isinstance" = none
  len : mg "len" = none
  list : mg "list" = none
  min : mg "min" = none
  range : mg "range" = none
  repr : mg "repr" = none
  set : mg "set" = none
  sorted : mg "sorted" = none
  str : mg "str" = none
  tuple : mg "tuple" = none
  zip : mg "zip" = none
section
variable {P : Program} {w : World} {K : PySem.W.Frag} {mg : Str → Option Value} {base : Heap}
abbrev M : Mk0 := MB
abbrev s_law_next : Stmt := top 39
theorem sc_law_next : FnScope ["m", "total", "rest", "k", "cell", "mixed"] ["m", "total"] (defScope s_law_next) := ⟨rfl, rfl, rfl, by decide +kernel, rfl, by decide +kernel, by decide +kernel⟩
theorem ok_law_next {f : Addr} {fd : FuncData} (F : Fun K "_law_next" "_law_next" s_law_next f fd) (T : Txt mg) : FnG P w K mg base (L2.CX P w) 1 f fd ["m", "total"] (spD ⟨K, w⟩ MB 2 W_nextB) := by
  refine fnG_of F sc_law_next (fun vs H Q E h => spD_len vs H Q E h) fun cdv A outer s H vs Q E hgd hr ⟨P', F', L, ρ, r, hb, hl, hw⟩ => ?_
  have nd := sc_law_next.nd
  have hu : (A.deeper (envOfC "_law_next" (defScope s_law_next) s.heap.objs.size f cdv)).units + 64 < cLine := hr.units
  have hu1 : (A.deeper (envOfC "_law_next" (defScope s_law_next) s.heap.objs.size f cdv)).units + 1 < cLine := by omega
  refine ⟨_, PSs.nox (C8.pss_cut (ps_while PassesOwn.never (PW.pt (pw_and (pt_cmpR (op_neD hu) (pe_dget hu1 (pv 0) pe_str (fun _ _ => rfl)) (pe_lst pa_nil) (nomark _)) (pw_and1 (pt_cmpR op_eq (pe_ix ix_list (pe_dget hu1 (pv 0) pe_str (fun _ _ => rfl)) pe_int (fun _ _ => rfl)) pe_int (nomark _)))))
      (pss_one (ps_dput hu1 (pv 0) pe_str (pe_slice sl_list (pe_dget hu1 (pv 0) pe_str (fun _ _ => rfl)) (po_some pe_int) po_none) rfl)))
    (pss_cons (ps_if (pt_cmpR (op_neD hu) (pe_dget hu1 (pv 0) pe_str (fun _ _ => rfl)) (pe_lst pa_nil) (nomark _))
      (pss_cons (ps_set (i := 2) nd rfl (Or.inl rfl) (pe_callTy call_int1 (by rfl) T.int (by decide +kernel) (pa_cons (pe_ix ix_list (pe_dget hu1 (pv 0) pe_str (fun _ _ => rfl)) pe_int (fun _ _ => rfl)) pa_nil) (by decide) (by decide)))
      (pss_cons (ps_asg (pe_op op_fdiv (pv 2) (pv 1)) (pg_sub (pe_dget hu1 (pv 0) pe_str (fun _ _ => rfl)) pe_int set_list))
      (pss_one (ps_ret (pe_op op_mod (pv 2) (pv 1))))))
      pss_nil)
    (pss_cons (ps_set (i := 3) nd rfl (Or.inl rfl) (pe_op op_add (pe_dget hu1 (pv 0) pe_str (fun _ _ => rfl)) pe_int))
    (pss_cons (ps_dput hu1 (pv 0) pe_str (pv 3) rfl)
    (C8.pss_cut (ps_set (i := 4) nd rfl (Or.inl rfl) (pe_ifExp (pt_cmpR (op_neD hu) (pe_dget hu1 (pv 0) pe_str (fun _ _ => rfl)) (pe_lst pa_nil) (nomark _)) (pe_ix ix_list (pe_dget hu1 (pv 0) pe_str (fun _ _ => rfl)) (pe_op op_mod (pe_callTy call_int1 (by rfl) T.int (by decide +kernel) (pa_cons (pv 3) pa_nil) (by decide) (by decide)) (pe_callB call_len_seq (by rfl) T.len (by decide +kernel) (pa_cons (pe_dget hu1 (pv 0) pe_str (fun _ _ => rfl)) pa_nil) (by decide) (by decide))) (fun _ _ => rfl)) pe_int))
    (pss_cons (ps_set (i := 5) nd rfl (Or.inl rfl) (pe_op op_mul (pe_callTy call_int1 (by rfl) T.int (by decide +kernel) (pa_cons (pe_op op_add (pe_op op_add (pe_op op_mod (pe_callTy call_int1 (by rfl) T.int (by decide +kernel) (pa_cons (pv 4) pa_nil) (by decide) (by decide)) pe_int) (pe_op op_mul pe_int (pv 3))) (pe_op op_mul (pe_op op_mul pe_int (pv 3)) (pv 3))) pa_nil) (by decide) (by decide)) pe_int))
    (pss_cons (ps_set (i := 5) nd rfl (Or.inl rfl) (pe_op op_mul (pe_callTy call_int1 (by rfl) T.int (by decide +kernel) (pa_cons (pe_op op_add (pe_op op_mod (pe_callTy call_int1 (by rfl) T.int (by decide +kernel) (pa_cons (pv 5) pa_nil) (by decide) (by decide)) pe_int) (pe_op op_mul pe_int (pv 3))) pa_nil) (by decide) (by decide)) pe_int))
    (pss_one (ps_ret (pe_op op_mod (pe_callTy call_int1 (by rfl) T.int (by decide +kernel) (pa_cons (pe_op op_fdiv (pe_op op_mod (pe_callTy call_int1 (by rfl) T.int (by decide +kernel) (pa_cons (pv 5) pa_nil) (by decide) (by decide)) pe_int) pe_int) pa_nil) (by decide) (by decide)) (pv 1))))))))))), ?_⟩
  obtain ⟨t, e0, ht, ht2, hn, hk⟩ := hw
  obtain ⟨sl, n⟩ := ρ
  simp only at e0
  subst e0
  obtain ⟨p, eP, e1⟩ := r.getSt (i := 0) rfl
  subst eP
  obtain ⟨c, l0, cs, ls0, k0, eA, ncl, hp, hc, hl0, hk0, hkn, hc63, hl63⟩ : ∃ (c l0 : Addr) (cs ls0 : List Int) (k0 : Int), ((∀ a ∈ [p, c, l0], a ∈ L ∧ F' a = none) ∧ ∀ (i : Nat) (xs : Ow) (l : Addr), ([.st, .d (.int t)] : List Sl)[i]? = some (.own xs) → (vs.map some)[i]? = some (some (.ref l)) → l ∉ [p, c, l0]) ∧ c ≠ l0 ∧ H p = some (.dK (kvB c l0 k0)) ∧ H c = some (.lst (cs.map V.int)) ∧ H l0 = some (.lst (ls0.map V.int)) ∧ 0 ≤ k0 ∧ k0 ≤ n ∧ cs.length ≤ 63 ∧ ls0.length ≤ 63 := by
    obtain ⟨A, ⟨c, l, cs, ls, k, eA, n1, h1, h2, h3, a, b, r1, r2⟩, g1, g2⟩ := r.m p rfl
    subst eA
    exact ⟨c, l, cs, ls, k, ⟨g1, g2⟩, n1, h1, h2, h3, a, b, r1, r2⟩
  have hlen : vs.length = 2 := by have := r.len; simpa using this
  obtain ⟨v1, v2, rfl⟩ : ∃ v1 v2, vs = [v1, v2] := by
    match vs, hlen with
    | [a, b], _ => exact ⟨a, b, rfl⟩
  obtain rfl : v1 = .ref p := by simpa using e1
  obtain ⟨v3, e2, e3⟩ := r.sl 1 (.d (.int t)) (some v2) rfl rfl
  obtain rfl := Option.some.inj e2
  obtain rfl := rp_int e3
  have nl0p : l0 ≠ p := fun e => by rw [e, hp] at hl0; cases hl0
  have SA0 : SB H p c l0 cs l0 ls0 k0 H := ⟨hp, hc, hl0, ncl, .inl rfl, fun a o h _ _ => h, ⟨_, hl0⟩, ncl, hl63⟩
  refine ⟨fun σ H1 => σ = [some (.ref p), some (.int t), none, none, none, none] ∧ ∃ l ls, SB H p c l0 cs l ls k0 H1, ?_, ?_⟩
  · -- the loop
    refine ⟨fun m σ H1 => σ = [some (.ref p), some (.int t), none, none, none, none] ∧ ∃ l ls, ls.length = m ∧ SB H p c l0 cs l ls k0 H1, ⟨_, rfl, l0, ls0, rfl, SA0⟩, ?_⟩
    rintro m σ H1 ⟨rfl, l, ls, hm, S⟩
    refine t_neNil w rfl S.hp kvB_great S.hl fun t1 ht1 => ?_
    have S1 := S.new (o := HO.lst []) ht1
    cases ls with
    | nil => exact ⟨rfl, l, [], S1⟩
    | cons x xs =>
      refine iteT (t_get rfl S1.hp kvB_great ⟨l, _, 0, .int x, rfl, rfl, .inl (.inl S1.hl), at0, rfl, _, rfl, ?_⟩)
      by_cases hx : x = 0
      · subst hx
        rw [decide_eq_true rfl]
        refine iteT ⟨fun σ H1 => σ = [some (.ref p), some (.int t), none, none, none, none] ∧ ∃ l, SB H p c l0 cs l xs k0 H1, ?_, ?_⟩
        · rintro σ' H' ⟨rfl, l', S'⟩
          exact ⟨xs.length, by rw [← hm]; exact Nat.lt_succ_self _, rfl, l', xs, rfl, S'⟩
        · refine t_get rfl S1.hp kvB_great ⟨1, rfl, l, _, rfl, .inl (.inl S1.hl), fun t2 ht2' => ?_⟩
          have S2 := S1.new (o := HO.lst (cutV (((0 : Int) :: xs).map V.int) (some 1) none)) ht2'
          refine ⟨_, rfl, ?_⟩
          have hput := DPut.k (k := (.inr "great" : Key)) (v := .ref t2) S2.hp (by show 3 < sizeLine; rw [sizeLine_eq]; omega)
          rw [kvB_pgreat] at hput
          refine ⟨p, _, rfl, hput, rfl, t2, ?_⟩
          have ntp : t2 ≠ p := (ne_of_none S1.hp ht2').symm
          have ntc : t2 ≠ c := (ne_of_none S1.hc ht2').symm
          refine ⟨upd_same, by rw [upd_ne S2.np.2.symm]; exact S2.hc, by rw [upd_ne ntp, upd_same]; exact congrArg (fun z => some (HO.lst z)) cut1, ntc.symm, .inr ?_, fun a o h n1 n2 => by rw [upd_ne n1]; exact S2.same a o h n1 n2, ?_, S.cn, by have := S.ln; simp at this; omega⟩
          · cases z : H t2 with
            | none => rfl
            | some o =>
              have := S1.same t2 o z ntp (fun e => by obtain ⟨o', h'⟩ := S1.h0; rw [← e, ht2'] at h'; cases h')
              rw [ht2'] at this
              cases this
          · obtain ⟨o, ho⟩ := S2.h0
            exact ⟨o, by rw [upd_ne nl0p]; exact ho⟩
      · rw [decide_eq_false (fun e => hx (V.int.inj e))]
        exact ⟨rfl, l, _, S1⟩
  · -- behind it
    rintro σ H1 ⟨rfl, l, ls, S⟩
    refine t_neNil w rfl S.hp kvB_great S.hl fun t1 ht1 => ?_
    have S1 := S.new (o := HO.lst []) ht1
    cases ls with
    | cons x xs =>
      refine iteT (t_get rfl S1.hp kvB_great ⟨l, _, 0, .int x, rfl, rfl, .inl (.inl S1.hl), at0, .inl ⟨x, rfl, ?_⟩⟩)
      refine ⟨_, rfl, _, rfl, x, t, rfl, rfl, ⟨ht, ht2⟩, t_get rfl S1.hp kvB_great ⟨l, _, 0, 0, rfl, rfl, S1.hl, by unfold ixN; simp, ?_⟩⟩
      refine ⟨_, rfl, _, rfl, x, t, rfl, rfl, ht, ?_⟩
      have S2 : SB H p c l0 cs l ((x / t) :: xs) k0 (upd (upd H1 t1 (.lst [])) l (.lst (((x :: xs).map V.int).set 0 (.int (x / t))))) :=
        ⟨by rw [upd_ne S1.np.1]; exact S1.hp, by rw [upd_ne S1.ncl]; exact S1.hc, by rw [upd_same]; rfl, S1.ncl, S1.fresh, fun a o h n1 n2 => ?_, ?_, S1.cn, by have := S1.ln; simpa using this⟩
      · exact endB r eA S2 ⟨by rw [hp]; simp, by rw [hc]; simp⟩ hc63 hk0 (by show k0 ≤ ((n + 1 : Nat) : Int); omega) ht hk
      · have := S1.same a o h n1 n2
        rw [upd_ne (fun e => by
          rcases S1.fresh with f | f
          · exact n2 (e.trans f)
          · rw [e, f] at h; cases h)]
        exact this
      · by_cases e : l0 = l
        · exact ⟨_, by rw [e]; exact upd_same⟩
        · obtain ⟨o, ho⟩ := S1.h0
          exact ⟨o, by rw [upd_ne e]; exact ho⟩
    | nil =>
      refine iteF ?_
      refine t_get rfl S1.hp kvB_spot ⟨_, _, rfl, rfl, ?_⟩
      have hput := DPut.k (k := (.inr "spot" : Key)) (v := .int (k0 + 1)) S1.hp (by show 3 < sizeLine; rw [sizeLine_eq]; omega)
      rw [kvB_pspot] at hput
      refine ⟨_, rfl, _, rfl, p, _, rfl, hput, ?_⟩
      have S2 : SB H p c l0 cs l [] (k0 + 1) (upd (upd H1 t1 (.lst [])) p (.dK (kvB c l (k0 + 1)))) :=
        ⟨upd_same, by rw [upd_ne S1.np.2.symm]; exact S1.hc, by rw [upd_ne S1.np.1.symm]; exact S1.hl, S1.ncl, S1.fresh, fun a o h n1 n2 => by rw [upd_ne n1]; exact S1.same a o h n1 n2, by
          obtain ⟨o, ho⟩ := S1.h0
          exact ⟨o, by rw [upd_ne nl0p]; exact ho⟩, S1.cn, by simp⟩
      refine ⟨fun σ H1 => ∃ cl : Int, σ = [some (.ref p), some (.int t), none, some (.int (k0 + 1)), some (.int cl), none] ∧ SB H p c l0 cs l [] (k0 + 1) H1, ?_, ?_⟩
      · refine t_neNil w rfl S2.hp kvB_cells S2.hc fun t2 ht2' => ?_
        have S3 := S2.new (o := HO.lst []) ht2'
        by_cases hcs : cs = []
        · rw [decide_eq_true hcs]
          exact iteF ⟨61, rfl, S3⟩
        · rw [decide_eq_false hcs]
          have hpos : 0 < cs.length := List.length_pos_iff.mpr hcs
          have g0 : 0 ≤ (k0 + 1) % (cs.length : Int) := Int.emod_nonneg _ (by omega)
          have g1 : (k0 + 1) % (cs.length : Int) < cs.length := Int.emod_lt_of_pos _ (by omega)
          obtain ⟨j, hj⟩ := Int.eq_ofNat_of_zero_le g0
          have hjl : j < cs.length := by omega
          refine iteT (t_get rfl S3.hp kvB_cells ⟨_, rfl, .inl ⟨_, rfl, t_get rfl S3.hp kvB_cells ⟨c, _, rfl, .inl (.inl (.inl S3.hc)), _, _, rfl, rfl, ?_, ?_⟩⟩⟩)
          · show (0 : Int) < ((cs.map V.int).length : Int)
            rw [List.length_map]
            omega
          · refine ⟨c, _, _, .int cs[j], rfl, rfl, .inl (.inl S3.hc), ?_, cs[j], rfl, S3⟩
            show atI (cs.map V.int) ((k0 + 1) % ((cs.map V.int).length : Int)) = some (V.int cs[j])
            rw [List.length_map, hj]
            exact atI_nat (by rw [List.getElem?_map, List.getElem?_eq_getElem hjl]; rfl)
      · rintro σ H2 ⟨cl, rfl, S⟩
        have hkb : -(2 ^ 64) < k0 + 1 ∧ k0 + 1 < 2 ^ 64 := by
          have hn' : n < 1000000000000 := hn
          constructor
          · have : (0 : Int) ≤ 2 ^ 64 := by decide
            omega
          · have : (1000000000001 : Int) < 2 ^ 64 := by decide
            omega
        refine ⟨_, rfl, .inl ⟨cl, rfl, cl, 2147483563, rfl, rfl, (by decide : (0 : Int) < 2147483563), _, rfl, 6089, k0 + 1, rfl, rfl, .inr hkb, _, _, rfl, rfl, _, rfl, 71, k0 + 1, rfl, rfl, .inr hkb, _, rfl, _, k0 + 1, rfl, rfl, .inr hkb, _, _, rfl, rfl, .inl ⟨_, rfl, ?_⟩⟩⟩
        refine ⟨_, 40014, rfl, rfl, .inr (by decide), ?_⟩
        refine ⟨_, rfl, .inl ⟨_, rfl, _, 2147483563, rfl, rfl, (by decide : (0 : Int) < 2147483563), _, rfl, 89017, k0 + 1, rfl, rfl, .inr hkb, _, _, rfl, rfl, .inl ⟨_, rfl, ?_⟩⟩⟩
        refine ⟨_, 742938285, rfl, rfl, .inr (by decide), ?_⟩
        refine ⟨_, rfl, .inl ⟨_, rfl, _, 2147483549, rfl, rfl, (by decide : (0 : Int) < 2147483549), _, 17, rfl, rfl, (by decide : (0 : Int) < 17 ∧ (17 : Int) < 1073741824), .inl ⟨_, rfl, ?_⟩⟩⟩
        refine ⟨_, rfl, _, t, rfl, rfl, ht, ?_⟩
        exact endB r eA S ⟨by rw [hp]; simp, by rw [hc]; simp⟩ hc63 (by omega) (by show k0 + 1 ≤ ((n + 1 : Nat) : Int); omega) ht hk
abbrev s_law_begun : Stmt := top 38
theorem sc_law_begun : FnScope ["script", "great", "cell"] ["script"] (defScope s_law_begun) := ⟨rfl, rfl, rfl, by decide +kernel, rfl, by decide +kernel, by decide +kernel⟩
theorem ok_law_begun {f : Addr} {fd : FuncData} (F : Fun K "_law_begun" "_law_begun" s_law_begun f fd) (T : Txt mg) : FnG P w K mg base (L2.CX P w) 1 f fd ["script"] (spB ⟨K, w⟩ MB 1 B_law) := by
  refine fnG_of F sc_law_begun (fun vs H Q E h => h.1) fun cdv A outer s H vs Q E hgd hr ⟨hlen, ds, hd, ⟨ns, e, h63⟩, q⟩ => ?_
  have nd := sc_law_begun.nd
  refine ⟨_, PSs.nox (pss_cons (pds_ownLc (M := MB) (i := 1) (own := [("cell", 2)]) (vs := [2]) rfl nd rfl rfl (sw_true rfl rfl rfl (by decide +kernel)) (pdi_seq (pd_var (pv 0))) (blkOk_by (own := [("cell", 2)]) (N := ["script", "great", "cell"]) (sc := defScope s_law_begun) (by decide +kernel)) rfl (fun _ _ _ _ _ => pg1_name (i := 2) (pg_name (i := 2) nd rfl (by first | exact Or.inl rfl | exact Or.inr rfl))) (fun _ _ _ _ _ => ptn_one (pdt_cmp op_ge rd_cmp (pd_var (pv 2)) (pd_op op_pow rd_pow (pd_int) (pd_int)) (by first | exact nomark _ | rfl))) (fun _ _ _ _ _ => pd_var (pv 2)) s).ps
    (pss_one (ps_ret (pe_disp (pps_cons pe_str (pe_callTy call_list_of (by rfl) T.list (by decide +kernel) (pa_cons (pv 0) pa_nil) (by decide) (by decide))
    (pps_cons pe_str (pv 1)
    (pps_cons pe_str pe_int pps_nil))) rfl rfl (by simp) (by decide))))), ?_⟩
  subst e
  cases hd with
  | cons h1 h2 =>
    cases h2
    obtain ⟨a, us, rfl, g1, g2⟩ : ∃ a us, _ = V.ref a ∧ SqL K H a us ∧ RpAll ⟨K, w⟩ H us (ns.map .int) := by
      have h3 := h1
      rw [← hide_nil H] at h3
      have := rp_list h3
      rw [hide_nil] at this
      exact this
    have eu := dpa_ints_eq g2
    subst eu
    have sg : R ⟨K, w⟩ MB none (fun _ => none) [] ⟨[.d (.list (ns.map .int)), .no, .no], 0⟩ [some (.ref a), none, none] H := by
      refine ⟨rfl, fun i s o e1 e2 => ?_, fun a o z => (by cases z), fun a z => absurd z List.not_mem_nil, fun i j xs ys l _ z => ?_, fun i xs l z => ?_, fun q z => (by cases z)⟩
      · match i, e1, e2 with
        | 0, e1, e2 => cases e1; cases e2; exact ⟨_, rfl, by rw [hide_nil]; exact h1⟩
        | 1, e1, e2 => cases e1; trivial
        | 2, e1, e2 => cases e1; trivial
      · match i, z with
        | 0, z => cases z
        | 1, z => cases z
        | 2, z => cases z
      · match i, z with
        | 0, z => cases z
        | 1, z => cases z
        | 2, z => cases z
    refine ⟨none, fun _ => none, [], _, sg, ⟨.list (ns.map .int), rfl, ns.map .int, rfl, by rw [List.length_map]; omega, comp_bigB ns [] _ _ _ _ _ rfl fun ms hm => ?_⟩⟩
    intro σ' L' H' e3 r3
    rw [hide_nil] at e3
    have x3 : Ex H H' := fun a o ho => (hide_some.mp (e3 a o ho)).2
    obtain ⟨v0, ev0, _⟩ := r3.get (i := 0) (x := .list (ns.map .int)) rfl
    obtain ⟨l, u, ev1, hlL, hl, u0, eu, du⟩ := r3.getOwn (i := 1) (xs := .l (ms.map .int)) rfl
    subst eu
    obtain rfl := dpa_ints_eq du
    have hlH : H l = none := by
      cases z : H l with
      | none => rfl
      | some o => exact absurd hlL (hide_some.mp (e3 l o z)).1
    obtain ⟨v0', ev0', dv0⟩ := r3.get (i := 0) (x := .list (ns.map .int)) rfl
    obtain ⟨a2, us2, rfl, g3, g4⟩ := rp_list dv0
    have eu2 := dpa_ints_eq g4
    subst eu2
    intro p hp
    have x1 : Ex H' (upd H' p (.dK [])) := Ex.new hp
    refine ⟨_, ev0', a2, _, rfl, .inl (Evl.ex_l x1 g3), fun c hc => ?_⟩
    have x2 := Ex.new (o := HO.lst (ns.map V.int)) hc
    generalize hH2 : upd (upd H' p (.dK [])) c (.lst (ns.map V.int)) = H2 at x2
    have hp2 : H2 p = some (.dK []) := x2 _ _ upd_same
    have hc2 : H2 c = some (.lst (ns.map V.int)) := by rw [← hH2]; exact upd_same
    have hl2 : H2 l = some (.lst (ms.map V.int)) := x2 _ _ (x1 _ _ hl)
    have npc : p ≠ c := ne_of_none upd_same hc
    have npl : p ≠ l := (ne_of_none hl hp).symm
    have ncl : c ≠ l := (ne_of_none (x1 _ _ hl) hc).symm
    have hcH : H c = none := by
      cases z : H c with
      | none => rfl
      | some o => rw [x1 _ _ (x3 _ _ z)] at hc; cases hc
    have hpH : H p = none := by
      cases z : H p with
      | none => rfl
      | some o => rw [x3 _ _ z] at hp; cases hp
    refine ⟨_, ev1, hp2, [(.inr "cells", .ref c), (.inr "great", .ref l), (.inr "spot", .int 0)], rfl, (by show 3 ≤ 15; omega), ?_⟩
    refine q p [p, c, l] _ (fun b o hb => ?_) (fun b hb => ?_) ⟨c, l, ns, ms, 0, rfl, ncl, upd_same, by rw [upd_ne npc.symm]; exact hc2, by rw [upd_ne npl.symm]; exact hl2, Int.le_refl _, by omega, h63, by simpa using Nat.le_trans hm (by simpa using h63)⟩
    · rw [upd_ne (ne_of_none hb hpH)]
      exact x2 _ _ (x1 _ _ (x3 _ _ hb))
    · have hz := hb
      rcases List.mem_cons.mp hz with z | hz
      · subst z; exact ⟨hpH, _, upd_same⟩
      · rcases List.mem_cons.mp hz with z | hz
        · subst z
          exact ⟨hcH, _, by rw [upd_ne npc.symm]; exact hc2⟩
        · rcases List.mem_cons.mp hz with z | hz
          · subst z
            exact ⟨hlH, _, by rw [upd_ne npl.symm]; exact hl2⟩
          · cases hz
abbrev W_law_next := W_nextB
abbrev mW_law_next := mW_nextB
abbrev tupI (ns : List Int) : D := .tuple (ns.map .int)
abbrev s_is_count : Stmt := top 6
theorem sc_is_count : FnScope ["thing"] ["thing"] (defScope s_is_count) := ⟨rfl, rfl, rfl, by decide +kernel, rfl, by decide +kernel, by decide +kernel⟩
def w_is_count : FS := fsSeq (fsIf (ftOr (ftT (fUn (gIsT "bool") (fVar 0))) (ftNot (ftT (fUn (gIsT "int") (fVar 0))))) (fsRet (fC (.bool false))) (fsNext))
  (fsRet (fOp gGe (fVar 0) (fC (.int 0))))
theorem raw_is_count {f : Addr} {fd : FuncData} (F : Fun K "is_count" "is_count" s_is_count f fd) (T : Txt mg) : FnG P w K mg base (L2.CX P w) 1 f fd ["thing"] (spD ⟨K, w⟩ M 1 (fBody 1 w_is_count)) := by
  refine fnD F sc_is_count fun cdv A outer s H E hgd hr => ?_
  have nd := (sc_is_count).nd
  have hu : (A.deeper (envOfC "is_count" (defScope s_is_count) s.heap.objs.size f cdv)).units + 64 < cLine := hr.units
  exact pds_cons (pds_if (PDW.pt (pdw_or (pdt_truth (pd_isi (T := "bool") (by decide) (by rfl) T.isinstance (pe_tyName (by rfl) T.bool (by decide +kernel)) (pd_var (pv 0)))) (pdw_or1 (pdt_not (pdt_truth (pd_isi (T := "int") (by decide) (by rfl) T.isinstance (pe_tyName (by rfl) T.int (by decide +kernel)) (pd_var (pv 0)))))))) (pds_one (pds_ret (pd_bl))) (pds_nil))
    (pds_one (pds_ret (pd_cmp op_ge rd_cmp (pd_var (pv 0)) (pd_int) (by first | exact nomark _ | rfl))))
def W_is_count : FE := fun ρ k => ∃ x : Int, ρ.sl = [.d (.int x)] ∧ k (.bool (decide (0 ≤ x))) ρ
theorem mW_is_count (ρ : Rho) (k k' : KD) (h : ∀ d ρ', k d ρ' → k' d ρ') (q : W_is_count ρ k) : W_is_count ρ k' := by
  obtain ⟨x, e, q⟩ := q
  exact ⟨x, e, h _ _ q⟩
theorem ok_is_count : ∀ ρ k, W_is_count ρ k → fBody 1 w_is_count ρ k := by
  rintro ⟨sl, n⟩ k ⟨x, e, q⟩
  simp only at e
  subst e
  simp [w_is_count]
  simp [and_assoc, Rho.set, dropOwn, ftLend, fLend, lendR, frz, ow, fsApp, nList, -forall_exists_index, fBody, fsSeq, fsIf, fsRet, fsNext, fsDrop, fsAsg, fsNever, fsFor, fsOwn, fsPar2, fsPar_od, fsPar_do, fsPar_oo, fVar, fC, fUn, fOp, fChain, fTup, fLst, fCall, faD, faSt, flCons, flNil, fSl, foSome, foNone, fAnd, fOr, fNot, fIf, fOfN, fn1, fnLst, fnCat, fgN, fgTup, fgCons, fgNil, fiSeq, fiRange1, fiRange2, fiEnumA, fiZip, ftOr, ftAnd, ftNot, ftB, ftT, ftYes, truD_b, truD_i, truD_l, truD_t, truD_n, gIx_t0, gIx_t1, gIx_t2, gSl_t, gSl_l, gIsT, notDict, isT, isN, tyName, gLen_t, gLen_l, gTuple_l, gCmp, gAdd_ii, gAdd_ss, gAdd_tt, gAdd_ll, PD.gSub, gNeg, gMod, seqD, forD, wipeR, gEqA, gNeA, gEq_ii, gNe_ii, gEq_tt, gIn_ints, gIn_intsL, gNotIn_ints, gNotIn_intsL]
  exact q
abbrev s_is_integer : Stmt := top 7
theorem sc_is_integer : FnScope ["thing", "least", "most"] ["thing", "least", "most"] (defScope s_is_integer) := ⟨rfl, rfl, rfl, by decide +kernel, rfl, by decide +kernel, by decide +kernel⟩
def w_is_integer : FS := fsRet (fAnd (fCall 1 W_is_count (faD (flCons (fVar 0) (flNil)))) (fChain gLe gLe (fVar 1) (fVar 0) (fVar 2)))
theorem raw_is_integer {f : Addr} {fd : FuncData} {a_is_count : Addr} {d_is_count : FuncData} (F : Fun K "is_integer" "is_integer" s_is_integer f fd) (T : Txt mg) (g_is_count : mg "is_count" = some (.ref a_is_count)) (G_is_count : FnG P w K mg base (L2.CX P w) 1 a_is_count d_is_count ["thing"] (spD ⟨K, w⟩ M 1 W_is_count)) (b_is_count : Binds K d_is_count ["thing"] []) (k_is_count : PySem.W.keepIn K (.ref a_is_count) = true) : FnG P w K mg base (L2.CX P w) 2 f fd ["thing", "least", "most"] (spD ⟨K, w⟩ M 3 (fBody 3 w_is_integer)) := by
  refine fnD F sc_is_integer fun cdv A outer s H E hgd hr => ?_
  have nd := (sc_is_integer).nd
  have hu : (A.deeper (envOfC "is_integer" (defScope s_is_integer) s.heap.objs.size f cdv)).units + 64 < cLine := hr.units
  exact pds_one (pds_ret (pd_and (pd_call mW_is_count (G_is_count.mono (by decide)) hgd hr (by rfl) g_is_count k_is_count b_is_count (pda_d (pdl_cons (pd_var (pv 0)) (pdl_nil)))) (pd_one (pd_chain op_le op_le rd_cmp rd_cmp (pd_var (pv 1)) (pd_var (pv 0)) (pd_var (pv 2))))))
def W_is_integer : FE := fun ρ k => ∃ x a b : Int, ρ.sl = [.d (.int x), .d (.int a), .d (.int b)] ∧ 0 ≤ a ∧ k (.bool (decide (a ≤ x ∧ x ≤ b))) ρ
theorem mW_is_integer (ρ : Rho) (k k' : KD) (h : ∀ d ρ', k d ρ' → k' d ρ') (q : W_is_integer ρ k) : W_is_integer ρ k' := by
  obtain ⟨x, a, b, e, ha, q⟩ := q
  exact ⟨x, a, b, e, ha, h _ _ q⟩
theorem ok_is_integer : ∀ ρ k, W_is_integer ρ k → fBody 3 w_is_integer ρ k := by
  rintro ⟨sl, n⟩ k ⟨x, a, b, e, ha, q⟩
  simp only at e
  subst e
  simp [w_is_integer]
  simp [and_assoc, Rho.set, dropOwn, ftLend, fLend, lendR, frz, ow, fsApp, nList, -forall_exists_index, fBody, fsSeq, fsIf, fsRet, fsNext, fsDrop, fsAsg, fsNever, fsFor, fsOwn, fsPar2, fsPar_od, fsPar_do, fsPar_oo, fVar, fC, fUn, fOp, fChain, fTup, fLst, fCall, faD, faSt, flCons, flNil, fSl, foSome, foNone, fAnd, fOr, fNot, fIf, fOfN, fn1, fnLst, fnCat, fgN, fgTup, fgCons, fgNil, fiSeq, fiRange1, fiRange2, fiEnumA, fiZip, ftOr, ftAnd, ftNot, ftB, ftT, ftYes, truD_b, truD_i, truD_l, truD_t, truD_n, gIx_t0, gIx_t1, gIx_t2, gSl_t, gSl_l, gIsT, notDict, isT, isN, tyName, gLen_t, gLen_l, gTuple_l, gCmp, gAdd_ii, gAdd_ss, gAdd_tt, gAdd_ll, PD.gSub, gNeg, gMod, seqD, forD, wipeR, gEqA, gNeA, gEq_ii, gNe_ii, gEq_tt, gIn_ints, gIn_intsL, gNotIn_ints, gNotIn_intsL]
  refine ⟨x, rfl, ?_⟩
  by_cases h1 : a ≤ x <;> by_cases h2 : x ≤ b <;> by_cases h3 : 0 ≤ x <;> simp [h1, h2] at q <;> simp [h1, h2, h3, q] <;> omega
abbrev s_is_pair : Stmt := top 8
theorem sc_is_pair : FnScope ["thing"] ["thing"] (defScope s_is_pair) := ⟨rfl, rfl, rfl, by decide +kernel, rfl, by decide +kernel, by decide +kernel⟩
def w_is_pair : FS := fsRet (fAnd (fUn (gIsT "tuple") (fVar 0)) (fOp gEqA (fUn gLen (fVar 0)) (fC (.int 2))))
theorem raw_is_pair {f : Addr} {fd : FuncData} (F : Fun K "is_pair" "is_pair" s_is_pair f fd) (T : Txt mg) : FnG P w K mg base (L2.CX P w) 1 f fd ["thing"] (spD ⟨K, w⟩ M 1 (fBody 1 w_is_pair)) := by
  refine fnD F sc_is_pair fun cdv A outer s H E hgd hr => ?_
  have nd := (sc_is_pair).nd
  have hu : (A.deeper (envOfC "is_pair" (defScope s_is_pair) s.heap.objs.size f cdv)).units + 64 < cLine := hr.units
  exact pds_one (pds_ret (pd_and (pd_isi (T := "tuple") (by decide) (by rfl) T.isinstance (pe_tyName (by rfl) T.tuple (by decide +kernel)) (pd_var (pv 0))) (pd_one (pd_cmp (op_eqA hu) rd_eqA (pd_b1 call_lenA r1_len (by rfl) T.len (by decide +kernel) (pd_var (pv 0))) (pd_int) (by first | exact nomark _ | rfl)))))
def W_is_pair : FE := fun ρ k => ∃ a b, ρ.sl = [.d (.tuple [a, b])] ∧ (True) ∧ k (.bool true) ρ
theorem mW_is_pair (ρ : Rho) (k k' : KD) (h : ∀ d ρ', k d ρ' → k' d ρ') (q : W_is_pair ρ k) : W_is_pair ρ k' := by
  obtain ⟨a, b, e1, e2, e3⟩ := q
  exact ⟨a, b, e1, e2, h _ _ e3⟩
theorem ok_is_pair : ∀ ρ k, W_is_pair ρ k → fBody 1 w_is_pair ρ k := by
  rintro ⟨sl, n⟩ k ⟨a, b, e, _, q⟩
  simp only at e
  subst e
  simp [w_is_pair]
  simp [and_assoc, Rho.set, dropOwn, ftLend, fLend, lendR, frz, ow, fsApp, nList, -forall_exists_index, fBody, fsSeq, fsIf, fsRet, fsNext, fsDrop, fsAsg, fsNever, fsFor, fsOwn, fsPar2, fsPar_od, fsPar_do, fsPar_oo, fVar, fC, fUn, fOp, fChain, fTup, fLst, fCall, faD, faSt, flCons, flNil, fSl, foSome, foNone, fAnd, fOr, fNot, fIf, fOfN, fn1, fnLst, fnCat, fgN, fgTup, fgCons, fgNil, fiSeq, fiRange1, fiRange2, fiEnumA, fiZip, ftOr, ftAnd, ftNot, ftB, ftT, ftYes, truD_b, truD_i, truD_l, truD_t, truD_n, gIx_t0, gIx_t1, gIx_t2, gSl_t, gSl_l, gIsT, notDict, isT, isN, tyName, gLen_t, gLen_l, gTuple_l, gCmp, gAdd_ii, gAdd_ss, gAdd_tt, gAdd_ll, PD.gSub, gNeg, gMod, seqD, forD, wipeR, gEqA, gNeA, gEq_ii, gNe_ii, gEq_tt, gIn_ints, gIn_intsL, gNotIn_ints, gNotIn_intsL]
  exact q
abbrev s_is_triple : Stmt := top 9
theorem sc_is_triple : FnScope ["thing"] ["thing"] (defScope s_is_triple) := ⟨rfl, rfl, rfl, by decide +kernel, rfl, by decide +kernel, by decide +kernel⟩
def w_is_triple : FS := fsRet (fAnd (fUn (gIsT "tuple") (fVar 0)) (fOp gEqA (fUn gLen (fVar 0)) (fC (.int 3))))
theorem raw_is_triple {f : Addr} {fd : FuncData} (F : Fun K "is_triple" "is_triple" s_is_triple f fd) (T : Txt mg) : FnG P w K mg base (L2.CX P w) 1 f fd ["thing"] (spD ⟨K, w⟩ M 1 (fBody 1 w_is_triple)) := by
  refine fnD F sc_is_triple fun cdv A outer s H E hgd hr => ?_
  have nd := (sc_is_triple).nd
  have hu : (A.deeper (envOfC "is_triple" (defScope s_is_triple) s.heap.objs.size f cdv)).units + 64 < cLine := hr.units
  exact pds_one (pds_ret (pd_and (pd_isi (T := "tuple") (by decide) (by rfl) T.isinstance (pe_tyName (by rfl) T.tuple (by decide +kernel)) (pd_var (pv 0))) (pd_one (pd_cmp (op_eqA hu) rd_eqA (pd_b1 call_lenA r1_len (by rfl) T.len (by decide +kernel) (pd_var (pv 0))) (pd_int) (by first | exact nomark _ | rfl)))))
def W_is_triple : FE := fun ρ k => ∃ a b c, ρ.sl = [.d (.tuple [a, b, c])] ∧ k (.bool true) ρ
theorem mW_is_triple (ρ : Rho) (k k' : KD) (h : ∀ d ρ', k d ρ' → k' d ρ') (q : W_is_triple ρ k) : W_is_triple ρ k' := by
  obtain ⟨x, a, b, e, q⟩ := q
  exact ⟨x, a, b, e, h _ _ q⟩
theorem ok_is_triple : ∀ ρ k, W_is_triple ρ k → fBody 1 w_is_triple ρ k := by
  rintro ⟨sl, n⟩ k ⟨a, b, c, e, q⟩
  simp only at e
  subst e
  simp [w_is_triple]
  simp [and_assoc, Rho.set, dropOwn, ftLend, fLend, lendR, frz, ow, fsApp, nList, -forall_exists_index, fBody, fsSeq, fsIf, fsRet, fsNext, fsDrop, fsAsg, fsNever, fsFor, fsOwn, fsPar2, fsPar_od, fsPar_do, fsPar_oo, fVar, fC, fUn, fOp, fChain, fTup, fLst, fCall, faD, faSt, flCons, flNil, fSl, foSome, foNone, fAnd, fOr, fNot, fIf, fOfN, fn1, fnLst, fnCat, fgN, fgTup, fgCons, fgNil, fiSeq, fiRange1, fiRange2, fiEnumA, fiZip, ftOr, ftAnd, ftNot, ftB, ftT, ftYes, truD_b, truD_i, truD_l, truD_t, truD_n, gIx_t0, gIx_t1, gIx_t2, gSl_t, gSl_l, gIsT, notDict, isT, isN, tyName, gLen_t, gLen_l, gTuple_l, gCmp, gAdd_ii, gAdd_ss, gAdd_tt, gAdd_ll, PD.gSub, gNeg, gMod, seqD, forD, wipeR, gEqA, gNeA, gEq_ii, gNe_ii, gEq_tt, gIn_ints, gIn_intsL, gNotIn_ints, gNotIn_intsL]
  exact q
abbrev s_are_numbers : Stmt := top 10
theorem sc_are_numbers : FnScope ["thing", "many", "one"] ["thing", "many"] (defScope s_are_numbers) := ⟨rfl, rfl, rfl, by decide +kernel, rfl, by decide +kernel, by decide +kernel⟩
def w_are_numbers : FS := fsSeq (fsIf (ftNot (ftT (fUn (gIsT "tuple") (fVar 0)))) (fsRet (fC (.bool false))) (fsNext))
  (fsRet (fUn gAll (fOfN (fnComp (fiSeq (fVar 0)) (fgN 2) (ftYes) (fCall 3 W_is_integer (faD (flCons (fVar 2) (flCons (fC (.int 0)) (flCons (fOp gSub (fVar 1) (fC (.int 1))) (flNil)))))) [2]))))
theorem raw_are_numbers {f : Addr} {fd : FuncData} {a_is_integer : Addr} {d_is_integer : FuncData} (F : Fun K "are_numbers" "are_numbers" s_are_numbers f fd) (T : Txt mg) (g_is_integer : mg "is_integer" = some (.ref a_is_integer)) (G_is_integer : FnG P w K mg base (L2.CX P w) 2 a_is_integer d_is_integer ["thing", "least", "most"] (spD ⟨K, w⟩ M 3 W_is_integer)) (b_is_integer : Binds K d_is_integer ["thing", "least", "most"] []) (k_is_integer : PySem.W.keepIn K (.ref a_is_integer) = true) : FnG P w K mg base (L2.CX P w) 3 f fd ["thing", "many"] (spD ⟨K, w⟩ M 2 (fBody 3 w_are_numbers)) := by
  refine fnD F sc_are_numbers fun cdv A outer s H E hgd hr => ?_
  have nd := (sc_are_numbers).nd
  have hu : (A.deeper (envOfC "are_numbers" (defScope s_are_numbers) s.heap.objs.size f cdv)).units + 64 < cLine := hr.units
  exact pds_cons (pds_if (pdt_not (pdt_truth (pd_isi (T := "tuple") (by decide) (by rfl) T.isinstance (pe_tyName (by rfl) T.tuple (by decide +kernel)) (pd_var (pv 0))))) (pds_one (pds_ret (pd_bl))) (pds_nil))
    (pds_one (pds_ret (pd_b1 (cr_all rfl) r1_all (by rfl) T.all (by decide +kernel) (pd_ofN (pn_lc rfl nd (own := [("one", 2)]) (vs := [2]) (pdi_seq (pd_var (pv 0))) (blkOk_by (own := [("one", 2)]) (N := ["thing", "many", "one"]) (sc := defScope s_are_numbers) (by decide +kernel)) rfl (fun _ _ _ _ _ => pg1_name (i := 2) (pg_name (i := 2) nd rfl (by first | exact Or.inl rfl | exact Or.inr rfl))) (fun _ _ _ _ _ => ptn_nil) (fun _ _ _ _ _ => pd_call mW_is_integer (G_is_integer.mono (by decide)) hgd hr (by rfl) g_is_integer k_is_integer b_is_integer (pda_d (pdl_cons (pd_var (pv 2)) (pdl_cons (pd_int) (pdl_cons (pd_op op_sub rd_sub (pd_var (pv 1)) (pd_int)) (pdl_nil)))))) s)))))
def W_are_numbers : FE := fun ρ k => ∃ (ns : List Int) (b : Int), ρ.sl = [.d (tupI ns), .d (.int b)] ∧ ns.length ≤ 1000 ∧ k (.bool (ns.all fun x => decide (0 ≤ x ∧ x ≤ b - 1))) ρ
theorem mW_are_numbers (ρ : Rho) (k k' : KD) (h : ∀ d ρ', k d ρ' → k' d ρ') (q : W_are_numbers ρ k) : W_are_numbers ρ k' := by
  obtain ⟨ns, b, e, hl, q⟩ := q
  exact ⟨ns, b, e, hl, h _ _ q⟩
theorem ok_are_numbers : ∀ ρ k, W_are_numbers ρ k → fBody 3 w_are_numbers ρ k := by
  rintro ⟨sl, n⟩ k ⟨ns, b, e, hl, q⟩
  simp only at e
  subst e
  simp [w_are_numbers]
  simp [and_assoc, Rho.set, dropOwn, ftLend, fLend, lendR, frz, ow, fsApp, nList, -forall_exists_index, fBody, fsSeq, fsIf, fsRet, fsNext, fsDrop, fsAsg, fsNever, fsFor, fsOwn, fsPar2, fsPar_od, fsPar_do, fsPar_oo, fVar, fC, fUn, fOp, fChain, fTup, fLst, fCall, faD, faSt, flCons, flNil, fSl, foSome, foNone, fAnd, fOr, fNot, fIf, fOfN, fn1, fnLst, fnCat, fgN, fgTup, fgCons, fgNil, fiSeq, fiRange1, fiRange2, fiEnumA, fiZip, ftOr, ftAnd, ftNot, ftB, ftT, ftYes, truD_b, truD_i, truD_l, truD_t, truD_n, gIx_t0, gIx_t1, gIx_t2, gSl_t, gSl_l, gIsT, notDict, isT, isN, tyName, gLen_t, gLen_l, gTuple_l, gCmp, gAdd_ii, gAdd_ss, gAdd_tt, gAdd_ll, PD.gSub, gNeg, gMod, seqD, forD, wipeR, gEqA, gNeA, gEq_ii, gNe_ii, gEq_tt, gIn_ints, gIn_intsL, gNotIn_ints, gNotIn_intsL]
  refine ⟨_, rfl, _, rfl, by simp; omega, comp_all PyData.int (fun x => .bool (decide (0 ≤ x ∧ x ≤ b - 1))) ns (fun x hx kt h => ?_) ?_⟩
  · simp [and_assoc, Rho.set, dropOwn, ftLend, fLend, lendR, frz, ow, fsApp, nList, -forall_exists_index, fBody, fsSeq, fsIf, fsRet, fsNext, fsDrop, fsAsg, fsNever, fsFor, fsOwn, fsPar2, fsPar_od, fsPar_do, fsPar_oo, fVar, fC, fUn, fOp, fChain, fTup, fLst, fCall, faD, faSt, flCons, flNil, fSl, foSome, foNone, fAnd, fOr, fNot, fIf, fOfN, fn1, fnLst, fnCat, fgN, fgTup, fgCons, fgNil, fiSeq, fiRange1, fiRange2, fiEnumA, fiZip, ftOr, ftAnd, ftNot, ftB, ftT, ftYes, truD_b, truD_i, truD_l, truD_t, truD_n, gIx_t0, gIx_t1, gIx_t2, gSl_t, gSl_l, gIsT, notDict, isT, isN, tyName, gLen_t, gLen_l, gTuple_l, gCmp, gAdd_ii, gAdd_ss, gAdd_tt, gAdd_ll, PD.gSub, gNeg, gMod, seqD, forD, wipeR, gEqA, gNeA, gEq_ii, gNe_ii, gEq_tt, gIn_ints, gIn_intsL, gNotIn_ints, gNotIn_intsL]
    exact ⟨x, 0, b - 1, rfl, Int.le_refl 0, h _ rfl⟩
  · have e : ns.map (fun x => PyData.bool (decide (0 ≤ x ∧ x ≤ b - 1))) = (ns.map fun x => decide (0 ≤ x ∧ x ≤ b - 1)).map .bool := by rw [List.map_map]; rfl
    refine ⟨_, by rw [e]; exact gAll_bs _, ?_⟩
    rw [List.all_map]
    exact q
abbrev s_are_rising : Stmt := top 12
theorem sc_are_rising : FnScope ["things", "low", "high"] ["things"] (defScope s_are_rising) := ⟨rfl, rfl, rfl, by decide +kernel, rfl, by decide +kernel, by decide +kernel⟩
def w_are_rising : FS := fsRet (fUn gAll (fOfN (fnComp (fiZip (flCons (fVar 0) (flCons (fSl gSl (fVar 0) (foSome (fC (.int 1))) (foNone)) (flNil)))) (fgTup 2 (fgCons (fgN 1) (fgCons (fgN 2) (fgNil)))) (ftYes) (fOp gLt (fVar 1) (fVar 2)) [1, 2])))
theorem raw_are_rising {f : Addr} {fd : FuncData} (F : Fun K "are_rising" "are_rising" s_are_rising f fd) (T : Txt mg) : FnG P w K mg base (L2.CX P w) 1 f fd ["things"] (spD ⟨K, w⟩ M 1 (fBody 3 w_are_rising)) := by
  refine fnD F sc_are_rising fun cdv A outer s H E hgd hr => ?_
  have nd := (sc_are_rising).nd
  have hu : (A.deeper (envOfC "are_rising" (defScope s_are_rising) s.heap.objs.size f cdv)).units + 64 < cLine := hr.units
  exact pds_one (pds_ret (pd_b1 (cr_all rfl) r1_all (by rfl) T.all (by decide +kernel) (pd_ofN (pn_lc rfl nd (own := [("low", 1), ("high", 2)]) (vs := [1, 2]) (pdi_zip (by rfl) T.zip (pdl_cons (pd_var (pv 0)) (pdl_cons (pd_slice (pd_var (pv 0)) (pdo_some (pd_int)) (pdo_none)) (pdl_nil)))) (blkOk_by (own := [("low", 1), ("high", 2)]) (N := ["things", "low", "high"]) (sc := defScope s_are_rising) (by decide +kernel)) rfl (fun _ _ _ _ _ => pg1_tup (pgn_cons (pg1_name (i := 1) (pg_name (i := 1) nd rfl (by first | exact Or.inl rfl | exact Or.inr rfl))) (pgn_cons (pg1_name (i := 2) (pg_name (i := 2) nd rfl (by first | exact Or.inl rfl | exact Or.inr rfl))) (pgn_nil) (pgs_cons (pg1_name (i := 2) (pg_name (i := 2) nd rfl (by first | exact Or.inl rfl | exact Or.inr rfl))).pg (pgn_nil).pg)) (pgs_cons (pg1_name (i := 1) (pg_name (i := 1) nd rfl (by first | exact Or.inl rfl | exact Or.inr rfl))).pg (pgn_cons (pg1_name (i := 2) (pg_name (i := 2) nd rfl (by first | exact Or.inl rfl | exact Or.inr rfl))) (pgn_nil) (pgs_cons (pg1_name (i := 2) (pg_name (i := 2) nd rfl (by first | exact Or.inl rfl | exact Or.inr rfl))).pg (pgn_nil).pg)).pg)) (pg_tup rfl (pgn_cons (pg1_name (i := 1) (pg_name (i := 1) nd rfl (by first | exact Or.inl rfl | exact Or.inr rfl))) (pgn_cons (pg1_name (i := 2) (pg_name (i := 2) nd rfl (by first | exact Or.inl rfl | exact Or.inr rfl))) (pgn_nil) (pgs_cons (pg1_name (i := 2) (pg_name (i := 2) nd rfl (by first | exact Or.inl rfl | exact Or.inr rfl))).pg (pgn_nil).pg)) (pgs_cons (pg1_name (i := 1) (pg_name (i := 1) nd rfl (by first | exact Or.inl rfl | exact Or.inr rfl))).pg (pgn_cons (pg1_name (i := 2) (pg_name (i := 2) nd rfl (by first | exact Or.inl rfl | exact Or.inr rfl))) (pgn_nil) (pgs_cons (pg1_name (i := 2) (pg_name (i := 2) nd rfl (by first | exact Or.inl rfl | exact Or.inr rfl))).pg (pgn_nil).pg)).pg)).pg)) (fun _ _ _ _ _ => ptn_nil) (fun _ _ _ _ _ => pd_cmp op_lt rd_cmp (pd_var (pv 1)) (pd_var (pv 2)) (by first | exact nomark _ | rfl)) s))))
def W_are_rising : FE := fun ρ k => ∃ (ns : List Int), ρ.sl = [.d (tupI ns)] ∧ ns.length ≤ 1000 ∧ ns.Pairwise (· < ·) ∧ k (.bool true) ρ
theorem mW_are_rising (ρ : Rho) (k k' : KD) (h : ∀ d ρ', k d ρ' → k' d ρ') (q : W_are_rising ρ k) : W_are_rising ρ k' := by
  obtain ⟨ns, e, hl, h2, q⟩ := q
  exact ⟨ns, e, hl, h2, h _ _ q⟩
theorem ok_are_rising : ∀ ρ k, W_are_rising ρ k → fBody 3 w_are_rising ρ k := by
  rintro ⟨sl, n⟩ k ⟨ns, e, hl, h2, q⟩
  simp only at e
  subst e
  simp [w_are_rising]
  simp [and_assoc, Rho.set, dropOwn, ftLend, fLend, lendR, frz, ow, fsApp, nList, -forall_exists_index, fBody, fsSeq, fsIf, fsRet, fsNext, fsDrop, fsAsg, fsNever, fsFor, fsOwn, fsPar2, fsPar_od, fsPar_do, fsPar_oo, fVar, fC, fUn, fOp, fChain, fTup, fLst, fCall, faD, faSt, flCons, flNil, fSl, foSome, foNone, fAnd, fOr, fNot, fIf, fOfN, fn1, fnLst, fnCat, fgN, fgTup, fgCons, fgNil, fiSeq, fiRange1, fiRange2, fiEnumA, fiZip, ftOr, ftAnd, ftNot, ftB, ftT, ftYes, truD_b, truD_i, truD_l, truD_t, truD_n, gIx_t0, gIx_t1, gIx_t2, gSl_t, gSl_l, gIsT, notDict, isT, isN, tyName, gLen_t, gLen_l, gTuple_l, gCmp, gAdd_ii, gAdd_ss, gAdd_tt, gAdd_ll, PD.gSub, gNeg, gMod, seqD, forD, wipeR, gEqA, gNeA, gEq_ii, gNe_ii, gEq_tt, gIn_ints, gIn_intsL, gNotIn_ints, gNotIn_intsL]
  unfold fnComp
  simp [and_assoc, Rho.set, dropOwn, ftLend, fLend, lendR, frz, ow, fsApp, nList, -forall_exists_index, fBody, fsSeq, fsIf, fsRet, fsNext, fsDrop, fsAsg, fsNever, fsFor, fsOwn, fsPar2, fsPar_od, fsPar_do, fsPar_oo, fVar, fC, fUn, fOp, fChain, fTup, fLst, fCall, faD, faSt, flCons, flNil, fSl, foSome, foNone, fAnd, fOr, fNot, fIf, fOfN, fn1, fnLst, fnCat, fgN, fgTup, fgCons, fgNil, fiSeq, fiRange1, fiRange2, fiEnumA, fiZip, ftOr, ftAnd, ftNot, ftB, ftT, ftYes, truD_b, truD_i, truD_l, truD_t, truD_n, gIx_t0, gIx_t1, gIx_t2, gSl_t, gSl_l, gIsT, notDict, isT, isN, tyName, gLen_t, gLen_l, gTuple_l, gCmp, gAdd_ii, gAdd_ss, gAdd_tt, gAdd_ll, PD.gSub, gNeg, gMod, seqD, forD, wipeR, gEqA, gNeA, gEq_ii, gNe_ii, gEq_tt, gIn_ints, gIn_intsL, gNotIn_ints, gNotIn_intsL]
  refine ⟨_, by rw [← List.map_tail]; exact zip_ints ns ns.tail, by simp; omega, comp_all (fun p => PyData.tuple [.int p.1, .int p.2]) (fun p => .bool (decide (p.1 < p.2))) (ns.zip ns.tail) (fun p hp kt h => ?_) ?_⟩
  · simp [and_assoc, Rho.set, dropOwn, ftLend, fLend, lendR, frz, ow, fsApp, nList, -forall_exists_index, fBody, fsSeq, fsIf, fsRet, fsNext, fsDrop, fsAsg, fsNever, fsFor, fsOwn, fsPar2, fsPar_od, fsPar_do, fsPar_oo, fVar, fC, fUn, fOp, fChain, fTup, fLst, fCall, faD, faSt, flCons, flNil, fSl, foSome, foNone, fAnd, fOr, fNot, fIf, fOfN, fn1, fnLst, fnCat, fgN, fgTup, fgCons, fgNil, fiSeq, fiRange1, fiRange2, fiEnumA, fiZip, ftOr, ftAnd, ftNot, ftB, ftT, ftYes, truD_b, truD_i, truD_l, truD_t, truD_n, gIx_t0, gIx_t1, gIx_t2, gSl_t, gSl_l, gIsT, notDict, isT, isN, tyName, gLen_t, gLen_l, gTuple_l, gCmp, gAdd_ii, gAdd_ss, gAdd_tt, gAdd_ll, PD.gSub, gNeg, gMod, seqD, forD, wipeR, gEqA, gNeA, gEq_ii, gNe_ii, gEq_tt, gIn_ints, gIn_intsL, gNotIn_ints, gNotIn_intsL]
    exact h _ rfl
  · refine ⟨.bool true, ?_, q⟩
    rw [show (ns.zip ns.tail).map (fun p => PyData.bool (decide (p.1 < p.2))) = ((ns.zip ns.tail).map fun p => decide (p.1 < p.2)).map .bool by rw [List.map_map]; rfl, gAll_bs, List.all_map]
    refine congrArg (fun z => some (PyData.bool z)) (List.all_eq_true.mpr fun p hp => decide_eq_true ?_)
    clear q hl
    induction ns with
    | nil => simp at hp
    | cons a as ih =>
      cases as with
      | nil => simp at hp
      | cons c cs =>
        rw [List.tail_cons, List.zip_cons_cons] at hp
        have h3 := List.pairwise_cons.mp h2
        rcases List.mem_cons.mp hp with z | z
        · subst z; exact h3.1 c List.mem_cons_self
        · exact ih h3.2 z
abbrev s_are_ascending : Stmt := top 11
theorem sc_are_ascending : FnScope ["thing", "many"] ["thing", "many"] (defScope s_are_ascending) := ⟨rfl, rfl, rfl, by decide +kernel, rfl, by decide +kernel, by decide +kernel⟩
def w_are_ascending : FS := fsSeq (fsIf (ftNot (ftT (fCall 2 W_are_numbers (faD (flCons (fVar 0) (flCons (fVar 1) (flNil))))))) (fsRet (fC (.bool false))) (fsNext))
  (fsRet (fCall 1 W_are_rising (faD (flCons (fVar 0) (flNil)))))
theorem raw_are_ascending {f : Addr} {fd : FuncData} {a_are_numbers : Addr} {d_are_numbers : FuncData} {a_are_rising : Addr} {d_are_rising : FuncData} (F : Fun K "are_ascending" "are_ascending" s_are_ascending f fd) (T : Txt mg) (g_are_numbers : mg "are_numbers" = some (.ref a_are_numbers)) (g_are_rising : mg "are_rising" = some (.ref a_are_rising)) (G_are_numbers : FnG P w K mg base (L2.CX P w) 3 a_are_numbers d_are_numbers ["thing", "many"] (spD ⟨K, w⟩ M 2 W_are_numbers)) (b_are_numbers : Binds K d_are_numbers ["thing", "many"] []) (k_are_numbers : PySem.W.keepIn K (.ref a_are_numbers) = true) (G_are_rising : FnG P w K mg base (L2.CX P w) 1 a_are_rising d_are_rising ["things"] (spD ⟨K, w⟩ M 1 W_are_rising)) (b_are_rising : Binds K d_are_rising ["things"] []) (k_are_rising : PySem.W.keepIn K (.ref a_are_rising) = true) : FnG P w K mg base (L2.CX P w) 4 f fd ["thing", "many"] (spD ⟨K, w⟩ M 2 (fBody 2 w_are_ascending)) := by
  refine fnD F sc_are_ascending fun cdv A outer s H E hgd hr => ?_
  have nd := (sc_are_ascending).nd
  have hu : (A.deeper (envOfC "are_ascending" (defScope s_are_ascending) s.heap.objs.size f cdv)).units + 64 < cLine := hr.units
  exact pds_cons (pds_if (pdt_not (pdt_truth (pd_call mW_are_numbers (G_are_numbers.mono (by decide)) hgd hr (by rfl) g_are_numbers k_are_numbers b_are_numbers (pda_d (pdl_cons (pd_var (pv 0)) (pdl_cons (pd_var (pv 1)) (pdl_nil))))))) (pds_one (pds_ret (pd_bl))) (pds_nil))
    (pds_one (pds_ret (pd_call mW_are_rising (G_are_rising.mono (by decide)) hgd hr (by rfl) g_are_rising k_are_rising b_are_rising (pda_d (pdl_cons (pd_var (pv 0)) (pdl_nil))))))
def W_are_ascending : FE := fun ρ k => ∃ (ns : List Int) (b : Int), ρ.sl = [.d (tupI ns), .d (.int b)] ∧ ns.length ≤ 1000 ∧ (∀ x ∈ ns, 0 ≤ x ∧ x ≤ b - 1) ∧ ns.Pairwise (· < ·) ∧ k (.bool true) ρ
theorem mW_are_ascending (ρ : Rho) (k k' : KD) (h : ∀ d ρ', k d ρ' → k' d ρ') (q : W_are_ascending ρ k) : W_are_ascending ρ k' := by
  obtain ⟨ns, b, e, hl, h1, h2, q⟩ := q
  exact ⟨ns, b, e, hl, h1, h2, h _ _ q⟩
theorem ok_are_ascending : ∀ ρ k, W_are_ascending ρ k → fBody 2 w_are_ascending ρ k := by
  rintro ⟨sl, n⟩ k ⟨ns, b, e, hl, h1, h2, q⟩
  simp only at e
  subst e
  have e : (ns.all fun x => decide (0 ≤ x ∧ x ≤ b - 1)) = true := List.all_eq_true.mpr fun x hx => decide_eq_true (h1 x hx)
  simp [w_are_ascending]
  simp [and_assoc, Rho.set, dropOwn, ftLend, fLend, lendR, frz, ow, fsApp, nList, -forall_exists_index, fBody, fsSeq, fsIf, fsRet, fsNext, fsDrop, fsAsg, fsNever, fsFor, fsOwn, fsPar2, fsPar_od, fsPar_do, fsPar_oo, fVar, fC, fUn, fOp, fChain, fTup, fLst, fCall, faD, faSt, flCons, flNil, fSl, foSome, foNone, fAnd, fOr, fNot, fIf, fOfN, fn1, fnLst, fnCat, fgN, fgTup, fgCons, fgNil, fiSeq, fiRange1, fiRange2, fiEnumA, fiZip, ftOr, ftAnd, ftNot, ftB, ftT, ftYes, truD_b, truD_i, truD_l, truD_t, truD_n, gIx_t0, gIx_t1, gIx_t2, gSl_t, gSl_l, gIsT, notDict, isT, isN, tyName, gLen_t, gLen_l, gTuple_l, gCmp, gAdd_ii, gAdd_ss, gAdd_tt, gAdd_ll, PD.gSub, gNeg, gMod, seqD, forD, wipeR, gEqA, gNeA, gEq_ii, gNe_ii, gEq_tt, gIn_ints, gIn_intsL, gNotIn_ints, gNotIn_intsL]
  refine ⟨ns, b, rfl, hl, ?_⟩
  rw [e]
  exact .inr ⟨rfl, ns, rfl, hl, h2, q⟩
abbrev tupT (T : List (List Int)) : D := .tuple (T.map tupI)
abbrev wishD (q : Int) (T : List (List Int)) (G : List Int) : D := .tuple [.int q, tupT T, tupI G]
structure WOK (q : Int) (T : List (List Int)) (G : List Int) : Prop where
  q1 : 1 ≤ q
  q4 : q ≤ 4
  t1 : 1 ≤ T.length
  t6 : T.length ≤ 6
  row : ∀ r ∈ T, (r.length : Int) = q ∧ ∀ x ∈ r, 0 ≤ x ∧ x ≤ (T.length : Int) - 1
  gs : G.Pairwise (· < ·)
  gr : ∀ x ∈ G, 0 ≤ x ∧ x ≤ (T.length : Int) - 1
  g0 : 0 ∈ G
theorem asc_len : ∀ {G : List Int} {lo hi : Int}, G.Pairwise (· < ·) → (∀ x ∈ G, lo ≤ x ∧ x ≤ hi) → (G.length : Int) ≤ max 0 (hi - lo + 1)
  | [], _, _, _, _ => by simp; omega
  | x :: xs, lo, hi, h, hr => by
    have h' := List.pairwise_cons.mp h
    have hx := hr x List.mem_cons_self
    have := asc_len (lo := x + 1) (hi := hi) h'.2 fun y hy => ⟨by have := h'.1 y hy; omega, (hr y (List.mem_cons_of_mem _ hy)).2⟩
    rw [List.length_cons]
    omega
abbrev s_are_steps : Stmt := top 17
theorem sc_are_steps : FnScope ["thing", "deeds", "row"] ["thing", "deeds"] (defScope s_are_steps) := ⟨rfl, rfl, rfl, by decide +kernel, rfl, by decide +kernel, by decide +kernel⟩
def w_are_steps : FS := fsSeq (fsIf (ftOr (ftNot (ftT (fUn (gIsT "tuple") (fVar 0)))) (ftNot (ftB (fChain gLe gLe (fC (.int 1)) (fUn gLen (fVar 0)) (fC (.int 6)))))) (fsRet (fC (.bool false))) (fsNext))
  (fsRet (fUn gAll (fOfN (fnComp (fiSeq (fVar 0)) (fgN 2) (ftYes) (fAnd (fCall 2 W_are_numbers (faD (flCons (fVar 2) (flCons (fUn gLen (fVar 0)) (flNil))))) (fOp gEqA (fUn gLen (fVar 2)) (fVar 1))) [2]))))
theorem raw_are_steps {f : Addr} {fd : FuncData} {a_are_numbers : Addr} {d_are_numbers : FuncData} (F : Fun K "_are_steps" "_are_steps" s_are_steps f fd) (T : Txt mg) (g_are_numbers : mg "are_numbers" = some (.ref a_are_numbers)) (G_are_numbers : FnG P w K mg base (L2.CX P w) 3 a_are_numbers d_are_numbers ["thing", "many"] (spD ⟨K, w⟩ M 2 W_are_numbers)) (b_are_numbers : Binds K d_are_numbers ["thing", "many"] []) (k_are_numbers : PySem.W.keepIn K (.ref a_are_numbers) = true) : FnG P w K mg base (L2.CX P w) 4 f fd ["thing", "deeds"] (spD ⟨K, w⟩ M 2 (fBody 3 w_are_steps)) := by
  refine fnD F sc_are_steps fun cdv A outer s H E hgd hr => ?_
  have nd := (sc_are_steps).nd
  have hu : (A.deeper (envOfC "_are_steps" (defScope s_are_steps) s.heap.objs.size f cdv)).units + 64 < cLine := hr.units
  exact pds_cons (pds_if (PDW.pt (pdw_or (pdt_not (pdt_truth (pd_isi (T := "tuple") (by decide) (by rfl) T.isinstance (pe_tyName (by rfl) T.tuple (by decide +kernel)) (pd_var (pv 0))))) (pdw_or1 (pdt_not (pdt_chain op_le op_le rd_cmp rd_cmp (pd_int) (pd_b1 call_lenA r1_len (by rfl) T.len (by decide +kernel) (pd_var (pv 0))) (pd_gint (by rfl) T.c_MOST_STATES)))))) (pds_one (pds_ret (pd_bl))) (pds_nil))
    (pds_one (pds_ret (pd_b1 (cr_all rfl) r1_all (by rfl) T.all (by decide +kernel) (pd_ofN (pn_lc rfl nd (own := [("row", 2)]) (vs := [2]) (pdi_seq (pd_var (pv 0))) (blkOk_by (own := [("row", 2)]) (N := ["thing", "deeds", "row"]) (sc := defScope s_are_steps) (by decide +kernel)) rfl (fun _ _ _ _ _ => pg1_name (i := 2) (pg_name (i := 2) nd rfl (by first | exact Or.inl rfl | exact Or.inr rfl))) (fun _ _ _ _ _ => ptn_nil) (fun _ _ _ _ _ => pd_and (pd_call mW_are_numbers (G_are_numbers.mono (by decide)) hgd hr (by rfl) g_are_numbers k_are_numbers b_are_numbers (pda_d (pdl_cons (pd_var (pv 2)) (pdl_cons (pd_b1 call_lenA r1_len (by rfl) T.len (by decide +kernel) (pd_var (pv 0))) (pdl_nil))))) (pd_one (pd_cmp (op_eqA hu) rd_eqA (pd_b1 call_lenA r1_len (by rfl) T.len (by decide +kernel) (pd_var (pv 2))) (pd_var (pv 1)) (by first | exact nomark _ | rfl)))) s)))))
def W_are_steps : FE := fun ρ k => ∃ (T : List (List Int)) (q : Int), ρ.sl = [.d (tupT T), .d (.int q)] ∧ 1 ≤ T.length ∧ T.length ≤ 6 ∧ q ≤ 4 ∧ (∀ r ∈ T, (r.length : Int) = q ∧ ∀ x ∈ r, 0 ≤ x ∧ x ≤ (T.length : Int) - 1) ∧ k (.bool true) ρ
theorem mW_are_steps (ρ : Rho) (k k' : KD) (h : ∀ d ρ', k d ρ' → k' d ρ') (q : W_are_steps ρ k) : W_are_steps ρ k' := by
  obtain ⟨T, q, e, h1, h2, h4, h3, z⟩ := q
  exact ⟨T, q, e, h1, h2, h4, h3, h _ _ z⟩
theorem ok_are_steps : ∀ ρ k, W_are_steps ρ k → fBody 3 w_are_steps ρ k := by
  rintro ⟨sl, n⟩ k ⟨T, q, e, h1, h2, h4, h3, z⟩
  simp only at e
  subst e
  simp [w_are_steps]
  simp [and_assoc, Rho.set, dropOwn, ftLend, fLend, lendR, frz, ow, fsApp, nList, -forall_exists_index, fBody, fsSeq, fsIf, fsRet, fsNext, fsDrop, fsAsg, fsNever, fsFor, fsOwn, fsPar2, fsPar_od, fsPar_do, fsPar_oo, fVar, fC, fUn, fOp, fChain, fTup, fLst, fCall, faD, faSt, flCons, flNil, fSl, foSome, foNone, fAnd, fOr, fNot, fIf, fOfN, fn1, fnLst, fnCat, fgN, fgTup, fgCons, fgNil, fiSeq, fiRange1, fiRange2, fiEnumA, fiZip, ftOr, ftAnd, ftNot, ftB, ftT, ftYes, truD_b, truD_i, truD_l, truD_t, truD_n, gIx_t0, gIx_t1, gIx_t2, gSl_t, gSl_l, gIsT, notDict, isT, isN, tyName, gLen_t, gLen_l, gTuple_l, gCmp, gAdd_ii, gAdd_ss, gAdd_tt, gAdd_ll, PD.gSub, gNeg, gMod, seqD, forD, wipeR, gEqA, gNeA, gEq_ii, gNe_ii, gEq_tt, gIn_ints, gIn_intsL, gNotIn_ints, gNotIn_intsL]
  refine .inr ⟨by omega, .inr ⟨by omega, ?_⟩⟩
  unfold fnComp
  simp [and_assoc, Rho.set, dropOwn, ftLend, fLend, lendR, frz, ow, fsApp, nList, -forall_exists_index, fBody, fsSeq, fsIf, fsRet, fsNext, fsDrop, fsAsg, fsNever, fsFor, fsOwn, fsPar2, fsPar_od, fsPar_do, fsPar_oo, fVar, fC, fUn, fOp, fChain, fTup, fLst, fCall, faD, faSt, flCons, flNil, fSl, foSome, foNone, fAnd, fOr, fNot, fIf, fOfN, fn1, fnLst, fnCat, fgN, fgTup, fgCons, fgNil, fiSeq, fiRange1, fiRange2, fiEnumA, fiZip, ftOr, ftAnd, ftNot, ftB, ftT, ftYes, truD_b, truD_i, truD_l, truD_t, truD_n, gIx_t0, gIx_t1, gIx_t2, gSl_t, gSl_l, gIsT, notDict, isT, isN, tyName, gLen_t, gLen_l, gTuple_l, gCmp, gAdd_ii, gAdd_ss, gAdd_tt, gAdd_ll, PD.gSub, gNeg, gMod, seqD, forD, wipeR, gEqA, gNeA, gEq_ii, gNe_ii, gEq_tt, gIn_ints, gIn_intsL, gNotIn_ints, gNotIn_intsL]
  refine ⟨by omega, comp_all tupI (fun r => .bool true) T (fun r hr kt h => ?_) ?_⟩
  · obtain ⟨g1, g2⟩ := h3 r hr
    have e : (r.all fun y => decide (0 ≤ y ∧ y ≤ (T.length : Int) - 1)) = true := List.all_eq_true.mpr fun y hy => decide_eq_true (g2 y hy)
    simp [and_assoc, Rho.set, dropOwn, ftLend, fLend, lendR, frz, ow, fsApp, nList, -forall_exists_index, fBody, fsSeq, fsIf, fsRet, fsNext, fsDrop, fsAsg, fsNever, fsFor, fsOwn, fsPar2, fsPar_od, fsPar_do, fsPar_oo, fVar, fC, fUn, fOp, fChain, fTup, fLst, fCall, faD, faSt, flCons, flNil, fSl, foSome, foNone, fAnd, fOr, fNot, fIf, fOfN, fn1, fnLst, fnCat, fgN, fgTup, fgCons, fgNil, fiSeq, fiRange1, fiRange2, fiEnumA, fiZip, ftOr, ftAnd, ftNot, ftB, ftT, ftYes, truD_b, truD_i, truD_l, truD_t, truD_n, gIx_t0, gIx_t1, gIx_t2, gSl_t, gSl_l, gIsT, notDict, isT, isN, tyName, gLen_t, gLen_l, gTuple_l, gCmp, gAdd_ii, gAdd_ss, gAdd_tt, gAdd_ll, PD.gSub, gNeg, gMod, seqD, forD, wipeR, gEqA, gNeA, gEq_ii, gNe_ii, gEq_tt, gIn_ints, gIn_intsL, gNotIn_ints, gNotIn_intsL]
    refine ⟨r, T.length, rfl, by omega, ?_⟩
    rw [e]
    simp [and_assoc, Rho.set, dropOwn, ftLend, fLend, lendR, frz, ow, fsApp, nList, -forall_exists_index, fBody, fsSeq, fsIf, fsRet, fsNext, fsDrop, fsAsg, fsNever, fsFor, fsOwn, fsPar2, fsPar_od, fsPar_do, fsPar_oo, fVar, fC, fUn, fOp, fChain, fTup, fLst, fCall, faD, faSt, flCons, flNil, fSl, foSome, foNone, fAnd, fOr, fNot, fIf, fOfN, fn1, fnLst, fnCat, fgN, fgTup, fgCons, fgNil, fiSeq, fiRange1, fiRange2, fiEnumA, fiZip, ftOr, ftAnd, ftNot, ftB, ftT, ftYes, truD_b, truD_i, truD_l, truD_t, truD_n, gIx_t0, gIx_t1, gIx_t2, gSl_t, gSl_l, gIsT, notDict, isT, isN, tyName, gLen_t, gLen_l, gTuple_l, gCmp, gAdd_ii, gAdd_ss, gAdd_tt, gAdd_ll, PD.gSub, gNeg, gMod, seqD, forD, wipeR, gEqA, gNeA, gEq_ii, gNe_ii, gEq_tt, gIn_ints, gIn_intsL, gNotIn_ints, gNotIn_intsL]
    rw [decide_eq_true g1]
    exact h _ rfl
  · refine ⟨.bool true, ?_, z⟩
    rw [show T.map (fun r => PyData.bool true) = (T.map fun r => true).map .bool by rw [List.map_map]; rfl, gAll_bs]
    simp
abbrev s_need_wish : Stmt := top 16
theorem sc_need_wish : FnScope ["thing", "deeds", "steps", "good"] ["thing"] (defScope s_need_wish) := ⟨rfl, rfl, rfl, by decide +kernel, rfl, by decide +kernel, by decide +kernel⟩
def w_need_wish : FS := fsSeq (fsIf (ftNot (ftT (fCall 1 W_is_triple (faD (flCons (fVar 0) (flNil)))))) (fsNever) (fsNext))
  (fsSeq (fsAsg (fVar 0) (fgTup 3 (fgCons (fgN 1) (fgCons (fgN 2) (fgCons (fgN 3) (fgNil))))))
  (fsSeq (fsIf (ftNot (ftT (fCall 3 W_is_integer (faD (flCons (fVar 1) (flCons (fC (.int 1)) (flCons (fC (.int 4)) (flNil)))))))) (fsNever) (fsNext))
  (fsSeq (fsIf (ftNot (ftT (fCall 2 W_are_steps (faD (flCons (fVar 2) (flCons (fVar 1) (flNil))))))) (fsNever) (fsNext))
  (fsSeq (fsIf (ftOr (ftNot (ftT (fCall 2 W_are_ascending (faD (flCons (fVar 3) (flCons (fUn gLen (fVar 2)) (flNil))))))) (ftB (fOp gNotIn (fC (.int 0)) (fVar 3)))) (fsNever) (fsNext))
  (fsRet (fVar 0))))))
theorem raw_need_wish {f : Addr} {fd : FuncData} {a_is_integer : Addr} {d_is_integer : FuncData} {a_is_triple : Addr} {d_is_triple : FuncData} {a_are_ascending : Addr} {d_are_ascending : FuncData} {a_are_steps : Addr} {d_are_steps : FuncData} (F : Fun K "need_wish" "need_wish" s_need_wish f fd) (T : Txt mg) (g_is_integer : mg "is_integer" = some (.ref a_is_integer)) (g_is_triple : mg "is_triple" = some (.ref a_is_triple)) (g_are_ascending : mg "are_ascending" = some (.ref a_are_ascending)) (g_are_steps : mg "_are_steps" = some (.ref a_are_steps)) (G_is_integer : FnG P w K mg base (L2.CX P w) 2 a_is_integer d_is_integer ["thing", "least", "most"] (spD ⟨K, w⟩ M 3 W_is_integer)) (b_is_integer : Binds K d_is_integer ["thing", "least", "most"] []) (k_is_integer : PySem.W.keepIn K (.ref a_is_integer) = true) (G_is_triple : FnG P w K mg base (L2.CX P w) 1 a_is_triple d_is_triple ["thing"] (spD ⟨K, w⟩ M 1 W_is_triple)) (b_is_triple : Binds K d_is_triple ["thing"] []) (k_is_triple : PySem.W.keepIn K (.ref a_is_triple) = true) (G_are_ascending : FnG P w K mg base (L2.CX P w) 4 a_are_ascending d_are_ascending ["thing", "many"] (spD ⟨K, w⟩ M 2 W_are_ascending)) (b_are_ascending : Binds K d_are_ascending ["thing", "many"] []) (k_are_ascending : PySem.W.keepIn K (.ref a_are_ascending) = true) (G_are_steps : FnG P w K mg base (L2.CX P w) 4 a_are_steps d_are_steps ["thing", "deeds"] (spD ⟨K, w⟩ M 2 W_are_steps)) (b_are_steps : Binds K d_are_steps ["thing", "deeds"] []) (k_are_steps : PySem.W.keepIn K (.ref a_are_steps) = true) : FnG P w K mg base (L2.CX P w) 5 f fd ["thing"] (spD ⟨K, w⟩ M 1 (fBody 4 w_need_wish)) := by
  refine fnD F sc_need_wish fun cdv A outer s H E hgd hr => ?_
  have nd := (sc_need_wish).nd
  have hu : (A.deeper (envOfC "need_wish" (defScope s_need_wish) s.heap.objs.size f cdv)).units + 64 < cLine := hr.units
  exact pds_cons (pds_if (pdt_not (pdt_truth (pd_call mW_is_triple (G_is_triple.mono (by decide)) hgd hr (by rfl) g_is_triple k_is_triple b_is_triple (pda_d (pdl_cons (pd_var (pv 0)) (pdl_nil)))))) (pds_one (pds_never)) (pds_nil))
    (pds_cons (pds_asg (pd_var (pv 0)) (pg1_tup (pgn_cons (pg1_name (i := 1) (pg_name (i := 1) nd rfl (by first | exact Or.inl rfl | exact Or.inr rfl))) (pgn_cons (pg1_name (i := 2) (pg_name (i := 2) nd rfl (by first | exact Or.inl rfl | exact Or.inr rfl))) (pgn_cons (pg1_name (i := 3) (pg_name (i := 3) nd rfl (by first | exact Or.inl rfl | exact Or.inr rfl))) (pgn_nil) (pgs_cons (pg1_name (i := 3) (pg_name (i := 3) nd rfl (by first | exact Or.inl rfl | exact Or.inr rfl))).pg (pgn_nil).pg)) (pgs_cons (pg1_name (i := 2) (pg_name (i := 2) nd rfl (by first | exact Or.inl rfl | exact Or.inr rfl))).pg (pgn_cons (pg1_name (i := 3) (pg_name (i := 3) nd rfl (by first | exact Or.inl rfl | exact Or.inr rfl))) (pgn_nil) (pgs_cons (pg1_name (i := 3) (pg_name (i := 3) nd rfl (by first | exact Or.inl rfl | exact Or.inr rfl))).pg (pgn_nil).pg)).pg)) (pgs_cons (pg1_name (i := 1) (pg_name (i := 1) nd rfl (by first | exact Or.inl rfl | exact Or.inr rfl))).pg (pgn_cons (pg1_name (i := 2) (pg_name (i := 2) nd rfl (by first | exact Or.inl rfl | exact Or.inr rfl))) (pgn_cons (pg1_name (i := 3) (pg_name (i := 3) nd rfl (by first | exact Or.inl rfl | exact Or.inr rfl))) (pgn_nil) (pgs_cons (pg1_name (i := 3) (pg_name (i := 3) nd rfl (by first | exact Or.inl rfl | exact Or.inr rfl))).pg (pgn_nil).pg)) (pgs_cons (pg1_name (i := 2) (pg_name (i := 2) nd rfl (by first | exact Or.inl rfl | exact Or.inr rfl))).pg (pgn_cons (pg1_name (i := 3) (pg_name (i := 3) nd rfl (by first | exact Or.inl rfl | exact Or.inr rfl))) (pgn_nil) (pgs_cons (pg1_name (i := 3) (pg_name (i := 3) nd rfl (by first | exact Or.inl rfl | exact Or.inr rfl))).pg (pgn_nil).pg)).pg)).pg)) (pg_tup rfl (pgn_cons (pg1_name (i := 1) (pg_name (i := 1) nd rfl (by first | exact Or.inl rfl | exact Or.inr rfl))) (pgn_cons (pg1_name (i := 2) (pg_name (i := 2) nd rfl (by first | exact Or.inl rfl | exact Or.inr rfl))) (pgn_cons (pg1_name (i := 3) (pg_name (i := 3) nd rfl (by first | exact Or.inl rfl | exact Or.inr rfl))) (pgn_nil) (pgs_cons (pg1_name (i := 3) (pg_name (i := 3) nd rfl (by first | exact Or.inl rfl | exact Or.inr rfl))).pg (pgn_nil).pg)) (pgs_cons (pg1_name (i := 2) (pg_name (i := 2) nd rfl (by first | exact Or.inl rfl | exact Or.inr rfl))).pg (pgn_cons (pg1_name (i := 3) (pg_name (i := 3) nd rfl (by first | exact Or.inl rfl | exact Or.inr rfl))) (pgn_nil) (pgs_cons (pg1_name (i := 3) (pg_name (i := 3) nd rfl (by first | exact Or.inl rfl | exact Or.inr rfl))).pg (pgn_nil).pg)).pg)) (pgs_cons (pg1_name (i := 1) (pg_name (i := 1) nd rfl (by first | exact Or.inl rfl | exact Or.inr rfl))).pg (pgn_cons (pg1_name (i := 2) (pg_name (i := 2) nd rfl (by first | exact Or.inl rfl | exact Or.inr rfl))) (pgn_cons (pg1_name (i := 3) (pg_name (i := 3) nd rfl (by first | exact Or.inl rfl | exact Or.inr rfl))) (pgn_nil) (pgs_cons (pg1_name (i := 3) (pg_name (i := 3) nd rfl (by first | exact Or.inl rfl | exact Or.inr rfl))).pg (pgn_nil).pg)) (pgs_cons (pg1_name (i := 2) (pg_name (i := 2) nd rfl (by first | exact Or.inl rfl | exact Or.inr rfl))).pg (pgn_cons (pg1_name (i := 3) (pg_name (i := 3) nd rfl (by first | exact Or.inl rfl | exact Or.inr rfl))) (pgn_nil) (pgs_cons (pg1_name (i := 3) (pg_name (i := 3) nd rfl (by first | exact Or.inl rfl | exact Or.inr rfl))).pg (pgn_nil).pg)).pg)).pg)).pg)))
    (pds_cons (pds_if (pdt_not (pdt_truth (pd_call mW_is_integer (G_is_integer.mono (by decide)) hgd hr (by rfl) g_is_integer k_is_integer b_is_integer (pda_d (pdl_cons (pd_var (pv 1)) (pdl_cons (pd_int) (pdl_cons (pd_gint (by rfl) T.c_MOST_DEEDS) (pdl_nil)))))))) (pds_one (pds_never)) (pds_nil))
    (pds_cons (pds_if (pdt_not (pdt_truth (pd_call mW_are_steps (G_are_steps.mono (by decide)) hgd hr (by rfl) g_are_steps k_are_steps b_are_steps (pda_d (pdl_cons (pd_var (pv 2)) (pdl_cons (pd_var (pv 1)) (pdl_nil))))))) (pds_one (pds_never)) (pds_nil))
    (pds_cons (pds_if (PDW.pt (pdw_or (pdt_not (pdt_truth (pd_call mW_are_ascending (G_are_ascending.mono (by decide)) hgd hr (by rfl) g_are_ascending k_are_ascending b_are_ascending (pda_d (pdl_cons (pd_var (pv 3)) (pdl_cons (pd_b1 call_lenA r1_len (by rfl) T.len (by decide +kernel) (pd_var (pv 2))) (pdl_nil))))))) (pdw_or1 (pdt_cmp op_notIn_seq rd_notIn (pd_int) (pd_var (pv 3)) (by first | exact nomark _ | rfl))))) (pds_one (pds_never)) (pds_nil))
    (pds_one (pds_ret (pd_var (pv 0))))))))
def W_need_wish : FE := fun ρ k => ∃ q T G, ρ.sl = [.d (wishD q T G)] ∧ WOK q T G ∧ k (wishD q T G) ρ
theorem mW_need_wish (ρ : Rho) (k k' : KD) (h : ∀ d ρ', k d ρ' → k' d ρ') (q : W_need_wish ρ k) : W_need_wish ρ k' := by
  obtain ⟨q, T, G, e, h1, z⟩ := q
  exact ⟨q, T, G, e, h1, h _ _ z⟩
theorem ok_need_wish : ∀ ρ k, W_need_wish ρ k → fBody 4 w_need_wish ρ k := by
  rintro ⟨sl, n⟩ k ⟨q, T, G, e, h1, z⟩
  simp only at e
  subst e
  simp [w_need_wish]
  simp [and_assoc, Rho.set, dropOwn, ftLend, fLend, lendR, frz, ow, fsApp, nList, -forall_exists_index, fBody, fsSeq, fsIf, fsRet, fsNext, fsDrop, fsAsg, fsNever, fsFor, fsOwn, fsPar2, fsPar_od, fsPar_do, fsPar_oo, fVar, fC, fUn, fOp, fChain, fTup, fLst, fCall, faD, faSt, flCons, flNil, fSl, foSome, foNone, fAnd, fOr, fNot, fIf, fOfN, fn1, fnLst, fnCat, fgN, fgTup, fgCons, fgNil, fiSeq, fiRange1, fiRange2, fiEnumA, fiZip, ftOr, ftAnd, ftNot, ftB, ftT, ftYes, truD_b, truD_i, truD_l, truD_t, truD_n, gIx_t0, gIx_t1, gIx_t2, gSl_t, gSl_l, gIsT, notDict, isT, isN, tyName, gLen_t, gLen_l, gTuple_l, gCmp, gAdd_ii, gAdd_ss, gAdd_tt, gAdd_ll, PD.gSub, gNeg, gMod, seqD, forD, wipeR, gEqA, gNeA, gEq_ii, gNe_ii, gEq_tt, gIn_ints, gIn_intsL, gNotIn_ints, gNotIn_intsL]
  refine ⟨_, _, _, rfl, rfl, q, 1, 4, rfl, by omega, by rw [decide_eq_true ⟨h1.q1, h1.q4⟩]; rfl, T, q, rfl, h1.t1, h1.t6, h1.q4, h1.row, rfl, G, T.length, rfl, ?_, h1.gr, h1.gs, rfl, h1.g0, z⟩
  have := asc_len h1.gs h1.gr
  have := h1.t6
  omega
/-! guards -/
abbrev pairD (p : Int × List Int) : D := .tuple [.int p.1, tupI p.2]
abbrev memD (m : List (Int × List Int)) : D := .tuple (m.map pairD)
abbrev guardD (g : List (List (Int × List Int))) : D := .tuple (g.map memD)
structure GOK (q : Int) (g : List (List (Int × List Int))) : Prop where
  q1 : 1 ≤ q
  q4 : q ≤ 4
  g1 : 1 ≤ g.length
  g8 : g.length ≤ 8
  row : ∀ m ∈ g, (m.length : Int) = q
  nx : ∀ m ∈ g, ∀ p ∈ m, 0 ≤ p.1 ∧ p.1 ≤ (g.length : Int) - 1
  sh : ∀ m ∈ g, ∀ p ∈ m, p.2.length ≤ 6 ∧ ∀ x ∈ p.2, 0 ≤ x ∧ x ≤ q - 1
abbrev s_need_deeds : Stmt := top 22
theorem sc_need_deeds : FnScope ["thing"] ["thing"] (defScope s_need_deeds) := ⟨rfl, rfl, rfl, by decide +kernel, rfl, by decide +kernel, by decide +kernel⟩
def w_need_deeds : FS := fsSeq (fsIf (ftNot (ftT (fCall 3 W_is_integer (faD (flCons (fVar 0) (flCons (fC (.int 1)) (flCons (fC (.int 4)) (flNil)))))))) (fsNever) (fsNext))
  (fsRet (fVar 0))
theorem raw_need_deeds {f : Addr} {fd : FuncData} {a_is_integer : Addr} {d_is_integer : FuncData} (F : Fun K "need_deeds" "need_deeds" s_need_deeds f fd) (T : Txt mg) (g_is_integer : mg "is_integer" = some (.ref a_is_integer)) (G_is_integer : FnG P w K mg base (L2.CX P w) 2 a_is_integer d_is_integer ["thing", "least", "most"] (spD ⟨K, w⟩ M 3 W_is_integer)) (b_is_integer : Binds K d_is_integer ["thing", "least", "most"] []) (k_is_integer : PySem.W.keepIn K (.ref a_is_integer) = true) : FnG P w K mg base (L2.CX P w) 3 f fd ["thing"] (spD ⟨K, w⟩ M 1 (fBody 1 w_need_deeds)) := by
  refine fnD F sc_need_deeds fun cdv A outer s H E hgd hr => ?_
  have nd := (sc_need_deeds).nd
  have hu : (A.deeper (envOfC "need_deeds" (defScope s_need_deeds) s.heap.objs.size f cdv)).units + 64 < cLine := hr.units
  exact pds_cons (pds_if (pdt_not (pdt_truth (pd_call mW_is_integer (G_is_integer.mono (by decide)) hgd hr (by rfl) g_is_integer k_is_integer b_is_integer (pda_d (pdl_cons (pd_var (pv 0)) (pdl_cons (pd_int) (pdl_cons (pd_gint (by rfl) T.c_MOST_DEEDS) (pdl_nil)))))))) (pds_one (pds_never)) (pds_nil))
    (pds_one (pds_ret (pd_var (pv 0))))
def W_need_deeds : FE := fun ρ k => ∃ (q : Int), ρ.sl = [.d (.int q)] ∧ (1 ≤ q ∧ q ≤ 4) ∧ k (.int q) ρ
theorem mW_need_deeds (ρ : Rho) (k k' : KD) (h : ∀ d ρ', k d ρ' → k' d ρ') (q : W_need_deeds ρ k) : W_need_deeds ρ k' := by
  obtain ⟨q, e1, e2, e3⟩ := q
  exact ⟨q, e1, e2, h _ _ e3⟩
theorem ok_need_deeds : ∀ ρ k, W_need_deeds ρ k → fBody 1 w_need_deeds ρ k := by
  rintro ⟨sl, n⟩ k ⟨q, e, h, z⟩
  simp only at e
  subst e
  simp [w_need_deeds]
  simp [and_assoc, Rho.set, dropOwn, ftLend, fLend, lendR, frz, ow, fsApp, nList, -forall_exists_index, fBody, fsSeq, fsIf, fsRet, fsNext, fsDrop, fsAsg, fsNever, fsFor, fsOwn, fsPar2, fsPar_od, fsPar_do, fsPar_oo, fVar, fC, fUn, fOp, fChain, fTup, fLst, fCall, faD, faSt, flCons, flNil, fSl, foSome, foNone, fAnd, fOr, fNot, fIf, fOfN, fn1, fnLst, fnCat, fgN, fgTup, fgCons, fgNil, fiSeq, fiRange1, fiRange2, fiEnumA, fiZip, ftOr, ftAnd, ftNot, ftB, ftT, ftYes, truD_b, truD_i, truD_l, truD_t, truD_n, gIx_t0, gIx_t1, gIx_t2, gSl_t, gSl_l, gIsT, notDict, isT, isN, tyName, gLen_t, gLen_l, gTuple_l, gCmp, gAdd_ii, gAdd_ss, gAdd_tt, gAdd_ll, PD.gSub, gNeg, gMod, seqD, forD, wipeR, gEqA, gNeA, gEq_ii, gNe_ii, gEq_tt, gIn_ints, gIn_intsL, gNotIn_ints, gNotIn_intsL]
  exact ⟨q, 1, 4, rfl, by omega, by rw [decide_eq_true h]; rfl, z⟩
abbrev s_is_shown : Stmt := top 23
theorem sc_is_shown : FnScope ["thing", "deeds"] ["thing", "deeds"] (defScope s_is_shown) := ⟨rfl, rfl, rfl, by decide +kernel, rfl, by decide +kernel, by decide +kernel⟩
def w_is_shown : FS := fsRet (fAnd (fCall 2 W_are_numbers (faD (flCons (fVar 0) (flCons (fVar 1) (flNil))))) (fOp gLe (fUn gLen (fVar 0)) (fC (.int 6))))
theorem raw_is_shown {f : Addr} {fd : FuncData} {a_are_numbers : Addr} {d_are_numbers : FuncData} (F : Fun K "is_shown" "is_shown" s_is_shown f fd) (T : Txt mg) (g_are_numbers : mg "are_numbers" = some (.ref a_are_numbers)) (G_are_numbers : FnG P w K mg base (L2.CX P w) 3 a_are_numbers d_are_numbers ["thing", "many"] (spD ⟨K, w⟩ M 2 W_are_numbers)) (b_are_numbers : Binds K d_are_numbers ["thing", "many"] []) (k_are_numbers : PySem.W.keepIn K (.ref a_are_numbers) = true) : FnG P w K mg base (L2.CX P w) 4 f fd ["thing", "deeds"] (spD ⟨K, w⟩ M 2 (fBody 2 w_is_shown)) := by
  refine fnD F sc_is_shown fun cdv A outer s H E hgd hr => ?_
  have nd := (sc_is_shown).nd
  have hu : (A.deeper (envOfC "is_shown" (defScope s_is_shown) s.heap.objs.size f cdv)).units + 64 < cLine := hr.units
  exact pds_one (pds_ret (pd_and (pd_call mW_are_numbers (G_are_numbers.mono (by decide)) hgd hr (by rfl) g_are_numbers k_are_numbers b_are_numbers (pda_d (pdl_cons (pd_var (pv 0)) (pdl_cons (pd_var (pv 1)) (pdl_nil))))) (pd_one (pd_cmp op_le rd_cmp (pd_b1 call_lenA r1_len (by rfl) T.len (by decide +kernel) (pd_var (pv 0))) (pd_gint (by rfl) T.c_MOST_SHOWN) (by first | exact nomark _ | rfl)))))
def W_is_shown : FE := fun ρ k => ∃ (ns : List Int) (q : Int), ρ.sl = [.d (tupI ns), .d (.int q)] ∧ (ns.length ≤ 6 ∧ ∀ x ∈ ns, 0 ≤ x ∧ x ≤ q - 1) ∧ k (.bool true) ρ
theorem mW_is_shown (ρ : Rho) (k k' : KD) (h : ∀ d ρ', k d ρ' → k' d ρ') (q : W_is_shown ρ k) : W_is_shown ρ k' := by
  obtain ⟨ns, q, e1, e2, e3⟩ := q
  exact ⟨ns, q, e1, e2, h _ _ e3⟩
theorem ok_is_shown : ∀ ρ k, W_is_shown ρ k → fBody 2 w_is_shown ρ k := by
  rintro ⟨sl, n⟩ k ⟨ns, q, e, h, z⟩
  simp only at e
  subst e
  have e : (ns.all fun y => decide (0 ≤ y ∧ y ≤ q - 1)) = true := List.all_eq_true.mpr fun y hy => decide_eq_true (h.2 y hy)
  simp [w_is_shown]
  simp [and_assoc, Rho.set, dropOwn, ftLend, fLend, lendR, frz, ow, fsApp, nList, -forall_exists_index, fBody, fsSeq, fsIf, fsRet, fsNext, fsDrop, fsAsg, fsNever, fsFor, fsOwn, fsPar2, fsPar_od, fsPar_do, fsPar_oo, fVar, fC, fUn, fOp, fChain, fTup, fLst, fCall, faD, faSt, flCons, flNil, fSl, foSome, foNone, fAnd, fOr, fNot, fIf, fOfN, fn1, fnLst, fnCat, fgN, fgTup, fgCons, fgNil, fiSeq, fiRange1, fiRange2, fiEnumA, fiZip, ftOr, ftAnd, ftNot, ftB, ftT, ftYes, truD_b, truD_i, truD_l, truD_t, truD_n, gIx_t0, gIx_t1, gIx_t2, gSl_t, gSl_l, gIsT, notDict, isT, isN, tyName, gLen_t, gLen_l, gTuple_l, gCmp, gAdd_ii, gAdd_ss, gAdd_tt, gAdd_ll, PD.gSub, gNeg, gMod, seqD, forD, wipeR, gEqA, gNeA, gEq_ii, gNe_ii, gEq_tt, gIn_ints, gIn_intsL, gNotIn_ints, gNotIn_intsL]
  refine ⟨ns, q, rfl, by omega, ?_⟩
  rw [e]
  have e2 : decide ((ns.length : Int) ≤ 6) = true := decide_eq_true (by omega)
  simp [e2]
  exact z
abbrev s_are_memories : Stmt := top 24
theorem sc_are_memories : FnScope ["thing", "deeds", "memory"] ["thing", "deeds"] (defScope s_are_memories) := ⟨rfl, rfl, rfl, by decide +kernel, rfl, by decide +kernel, by decide +kernel⟩
def w_are_memories : FS := fsSeq (fsIf (ftOr (ftNot (ftT (fUn (gIsT "tuple") (fVar 0)))) (ftNot (ftB (fChain gLe gLe (fC (.int 1)) (fUn gLen (fVar 0)) (fC (.int 8)))))) (fsRet (fC (.bool false))) (fsNext))
  (fsRet (fUn gAll (fOfN (fnComp (fiSeq (fVar 0)) (fgN 2) (ftYes) (fAnd (fUn (gIsT "tuple") (fVar 2)) (fOp gEqA (fUn gLen (fVar 2)) (fVar 1))) [2]))))
theorem raw_are_memories {f : Addr} {fd : FuncData} (F : Fun K "_are_memories" "_are_memories" s_are_memories f fd) (T : Txt mg) : FnG P w K mg base (L2.CX P w) 1 f fd ["thing", "deeds"] (spD ⟨K, w⟩ M 2 (fBody 3 w_are_memories)) := by
  refine fnD F sc_are_memories fun cdv A outer s H E hgd hr => ?_
  have nd := (sc_are_memories).nd
  have hu : (A.deeper (envOfC "_are_memories" (defScope s_are_memories) s.heap.objs.size f cdv)).units + 64 < cLine := hr.units
  exact pds_cons (pds_if (PDW.pt (pdw_or (pdt_not (pdt_truth (pd_isi (T := "tuple") (by decide) (by rfl) T.isinstance (pe_tyName (by rfl) T.tuple (by decide +kernel)) (pd_var (pv 0))))) (pdw_or1 (pdt_not (pdt_chain op_le op_le rd_cmp rd_cmp (pd_int) (pd_b1 call_lenA r1_len (by rfl) T.len (by decide +kernel) (pd_var (pv 0))) (pd_gint (by rfl) T.c_MOST_MEMORIES)))))) (pds_one (pds_ret (pd_bl))) (pds_nil))
    (pds_one (pds_ret (pd_b1 (cr_all rfl) r1_all (by rfl) T.all (by decide +kernel) (pd_ofN (pn_lc rfl nd (own := [("memory", 2)]) (vs := [2]) (pdi_seq (pd_var (pv 0))) (blkOk_by (own := [("memory", 2)]) (N := ["thing", "deeds", "memory"]) (sc := defScope s_are_memories) (by decide +kernel)) rfl (fun _ _ _ _ _ => pg1_name (i := 2) (pg_name (i := 2) nd rfl (by first | exact Or.inl rfl | exact Or.inr rfl))) (fun _ _ _ _ _ => ptn_nil) (fun _ _ _ _ _ => pd_and (pd_isi (T := "tuple") (by decide) (by rfl) T.isinstance (pe_tyName (by rfl) T.tuple (by decide +kernel)) (pd_var (pv 2))) (pd_one (pd_cmp (op_eqA hu) rd_eqA (pd_b1 call_lenA r1_len (by rfl) T.len (by decide +kernel) (pd_var (pv 2))) (pd_var (pv 1)) (by first | exact nomark _ | rfl)))) s)))))
def W_are_memories : FE := fun ρ k => ∃ (g : List (List (Int × List Int))) (q : Int), ρ.sl = [.d (guardD g), .d (.int q)] ∧ (GOK q g) ∧ k (.bool true) ρ
theorem mW_are_memories (ρ : Rho) (k k' : KD) (h : ∀ d ρ', k d ρ' → k' d ρ') (q : W_are_memories ρ k) : W_are_memories ρ k' := by
  obtain ⟨g, q, e1, e2, e3⟩ := q
  exact ⟨g, q, e1, e2, h _ _ e3⟩
theorem ok_are_memories : ∀ ρ k, W_are_memories ρ k → fBody 3 w_are_memories ρ k := by
  rintro ⟨sl, n⟩ k ⟨g, q, e, h, z⟩
  simp only at e
  subst e
  have h1 := h.g1
  have h8 := h.g8
  simp [w_are_memories]
  simp [and_assoc, Rho.set, dropOwn, ftLend, fLend, lendR, frz, ow, fsApp, nList, -forall_exists_index, fBody, fsSeq, fsIf, fsRet, fsNext, fsDrop, fsAsg, fsNever, fsFor, fsOwn, fsPar2, fsPar_od, fsPar_do, fsPar_oo, fVar, fC, fUn, fOp, fChain, fTup, fLst, fCall, faD, faSt, flCons, flNil, fSl, foSome, foNone, fAnd, fOr, fNot, fIf, fOfN, fn1, fnLst, fnCat, fgN, fgTup, fgCons, fgNil, fiSeq, fiRange1, fiRange2, fiEnumA, fiZip, ftOr, ftAnd, ftNot, ftB, ftT, ftYes, truD_b, truD_i, truD_l, truD_t, truD_n, gIx_t0, gIx_t1, gIx_t2, gSl_t, gSl_l, gIsT, notDict, isT, isN, tyName, gLen_t, gLen_l, gTuple_l, gCmp, gAdd_ii, gAdd_ss, gAdd_tt, gAdd_ll, PD.gSub, gNeg, gMod, seqD, forD, wipeR, gEqA, gNeA, gEq_ii, gNe_ii, gEq_tt, gIn_ints, gIn_intsL, gNotIn_ints, gNotIn_intsL]
  refine .inr ⟨by omega, .inr ⟨by omega, ?_⟩⟩
  unfold fnComp
  simp [and_assoc, Rho.set, dropOwn, ftLend, fLend, lendR, frz, ow, fsApp, nList, -forall_exists_index, fBody, fsSeq, fsIf, fsRet, fsNext, fsDrop, fsAsg, fsNever, fsFor, fsOwn, fsPar2, fsPar_od, fsPar_do, fsPar_oo, fVar, fC, fUn, fOp, fChain, fTup, fLst, fCall, faD, faSt, flCons, flNil, fSl, foSome, foNone, fAnd, fOr, fNot, fIf, fOfN, fn1, fnLst, fnCat, fgN, fgTup, fgCons, fgNil, fiSeq, fiRange1, fiRange2, fiEnumA, fiZip, ftOr, ftAnd, ftNot, ftB, ftT, ftYes, truD_b, truD_i, truD_l, truD_t, truD_n, gIx_t0, gIx_t1, gIx_t2, gSl_t, gSl_l, gIsT, notDict, isT, isN, tyName, gLen_t, gLen_l, gTuple_l, gCmp, gAdd_ii, gAdd_ss, gAdd_tt, gAdd_ll, PD.gSub, gNeg, gMod, seqD, forD, wipeR, gEqA, gNeA, gEq_ii, gNe_ii, gEq_tt, gIn_ints, gIn_intsL, gNotIn_ints, gNotIn_intsL]
  refine ⟨by omega, comp_all memD (fun r => .bool true) g (fun m hm kt h3 => ?_) ?_⟩
  · simp [and_assoc, Rho.set, dropOwn, ftLend, fLend, lendR, frz, ow, fsApp, nList, -forall_exists_index, fBody, fsSeq, fsIf, fsRet, fsNext, fsDrop, fsAsg, fsNever, fsFor, fsOwn, fsPar2, fsPar_od, fsPar_do, fsPar_oo, fVar, fC, fUn, fOp, fChain, fTup, fLst, fCall, faD, faSt, flCons, flNil, fSl, foSome, foNone, fAnd, fOr, fNot, fIf, fOfN, fn1, fnLst, fnCat, fgN, fgTup, fgCons, fgNil, fiSeq, fiRange1, fiRange2, fiEnumA, fiZip, ftOr, ftAnd, ftNot, ftB, ftT, ftYes, truD_b, truD_i, truD_l, truD_t, truD_n, gIx_t0, gIx_t1, gIx_t2, gSl_t, gSl_l, gIsT, notDict, isT, isN, tyName, gLen_t, gLen_l, gTuple_l, gCmp, gAdd_ii, gAdd_ss, gAdd_tt, gAdd_ll, PD.gSub, gNeg, gMod, seqD, forD, wipeR, gEqA, gNeA, gEq_ii, gNe_ii, gEq_tt, gIn_ints, gIn_intsL, gNotIn_ints, gNotIn_intsL]
    rw [decide_eq_true (h.row m hm)]
    exact h3 _ rfl
  · refine ⟨.bool true, ?_, z⟩
    rw [show g.map (fun r => PyData.bool true) = (g.map fun r => true).map .bool by rw [List.map_map]; rfl, gAll_bs]
    simp
abbrev s_need_guard : Stmt := top 21
theorem sc_need_guard : FnScope ["deeds", "thing", "pairs", "memory", "pair", "_", "shown"] ["deeds", "thing"] (defScope s_need_guard) := ⟨rfl, rfl, rfl, by decide +kernel, rfl, by decide +kernel, by decide +kernel⟩
def w_need_guard : FS := fsSeq (fsDrop (fCall 1 W_need_deeds (faD (flCons (fVar 0) (flNil)))))
  (fsSeq (fsIf (ftNot (ftT (fCall 2 W_are_memories (faD (flCons (fVar 1) (flCons (fVar 0) (flNil))))))) (fsNever) (fsNext))
  (fsSeq (fsAsg (fOfN (fnComp2 (fiSeq (fVar 1)) (fgN 3) (ftYes) (fiSeq (fVar 3)) (fgN 4) (ftYes) (fVar 4) [3, 4] [4])) (fgN 2))
  (fsSeq (fsIf (ftNot (ftT (fUn gAll (fOfN (fnComp (fiSeq (fVar 2)) (fgN 4) (ftYes) (fAnd (fCall 1 W_is_pair (faD (flCons (fVar 4) (flNil)))) (fCall 3 W_is_integer (faD (flCons (fOp gIx (fVar 4) (fC (.int 0))) (flCons (fC (.int 0)) (flCons (fOp gSub (fUn gLen (fVar 1)) (fC (.int 1))) (flNil))))))) [4]))))) (fsNever) (fsNext))
  (fsSeq (fsIf (ftNot (ftT (fUn gAll (fOfN (fnComp (fiSeq (fVar 2)) (fgTup 2 (fgCons (fgN 5) (fgCons (fgN 6) (fgNil)))) (ftYes) (fCall 2 W_is_shown (faD (flCons (fVar 6) (flCons (fVar 0) (flNil))))) [5, 6]))))) (fsNever) (fsNext))
  (fsRet (fVar 1))))))
theorem raw_need_guard {f : Addr} {fd : FuncData} {a_is_integer : Addr} {d_is_integer : FuncData} {a_is_pair : Addr} {d_is_pair : FuncData} {a_need_deeds : Addr} {d_need_deeds : FuncData} {a_is_shown : Addr} {d_is_shown : FuncData} {a_are_memories : Addr} {d_are_memories : FuncData} (F : Fun K "need_guard" "need_guard" s_need_guard f fd) (T : Txt mg) (g_is_integer : mg "is_integer" = some (.ref a_is_integer)) (g_is_pair : mg "is_pair" = some (.ref a_is_pair)) (g_need_deeds : mg "need_deeds" = some (.ref a_need_deeds)) (g_is_shown : mg "is_shown" = some (.ref a_is_shown)) (g_are_memories : mg "_are_memories" = some (.ref a_are_memories)) (G_is_integer : FnG P w K mg base (L2.CX P w) 2 a_is_integer d_is_integer ["thing", "least", "most"] (spD ⟨K, w⟩ M 3 W_is_integer)) (b_is_integer : Binds K d_is_integer ["thing", "least", "most"] []) (k_is_integer : PySem.W.keepIn K (.ref a_is_integer) = true) (G_is_pair : FnG P w K mg base (L2.CX P w) 1 a_is_pair d_is_pair ["thing"] (spD ⟨K, w⟩ M 1 W_is_pair)) (b_is_pair : Binds K d_is_pair ["thing"] []) (k_is_pair : PySem.W.keepIn K (.ref a_is_pair) = true) (G_need_deeds : FnG P w K mg base (L2.CX P w) 3 a_need_deeds d_need_deeds ["thing"] (spD ⟨K, w⟩ M 1 W_need_deeds)) (b_need_deeds : Binds K d_need_deeds ["thing"] []) (k_need_deeds : PySem.W.keepIn K (.ref a_need_deeds) = true) (G_is_shown : FnG P w K mg base (L2.CX P w) 4 a_is_shown d_is_shown ["thing", "deeds"] (spD ⟨K, w⟩ M 2 W_is_shown)) (b_is_shown : Binds K d_is_shown ["thing", "deeds"] []) (k_is_shown : PySem.W.keepIn K (.ref a_is_shown) = true) (G_are_memories : FnG P w K mg base (L2.CX P w) 1 a_are_memories d_are_memories ["thing", "deeds"] (spD ⟨K, w⟩ M 2 W_are_memories)) (b_are_memories : Binds K d_are_memories ["thing", "deeds"] []) (k_are_memories : PySem.W.keepIn K (.ref a_are_memories) = true) : FnG P w K mg base (L2.CX P w) 5 f fd ["deeds", "thing"] (spD ⟨K, w⟩ M 2 (fBody 7 w_need_guard)) := by
  refine fnD F sc_need_guard fun cdv A outer s H E hgd hr => ?_
  have nd := (sc_need_guard).nd
  have hu : (A.deeper (envOfC "need_guard" (defScope s_need_guard) s.heap.objs.size f cdv)).units + 64 < cLine := hr.units
  exact pds_cons (pds_expr (pd_call mW_need_deeds (G_need_deeds.mono (by decide)) hgd hr (by rfl) g_need_deeds k_need_deeds b_need_deeds (pda_d (pdl_cons (pd_var (pv 0)) (pdl_nil)))))
    (pds_cons (pds_if (pdt_not (pdt_truth (pd_call mW_are_memories (G_are_memories.mono (by decide)) hgd hr (by rfl) g_are_memories k_are_memories b_are_memories (pda_d (pdl_cons (pd_var (pv 1)) (pdl_cons (pd_var (pv 0)) (pdl_nil))))))) (pds_one (pds_never)) (pds_nil))
    (pds_cons (pds_setLc2 (i := 2) rfl nd rfl rfl (sw_true rfl rfl rfl (by decide +kernel)) (own := [("memory", 3), ("pair", 4)]) (vs := [3, 4]) (vs0 := [3]) (vs1 := [4]) (pdi_seq (pd_var (pv 1))) (blkOk_by (own := [("memory", 3), ("pair", 4)]) (N := ["deeds", "thing", "pairs", "memory", "pair", "_", "shown"]) (sc := defScope s_need_guard) (by decide +kernel)) rfl (by decide) (by decide) (fun _ _ _ _ _ => pg1_name (i := 3) (pg_name (i := 3) nd rfl (by first | exact Or.inl rfl | exact Or.inr rfl))) (fun _ _ _ _ _ => ptn_nil) (fun _ _ _ _ _ => pdi_seq (pd_var (pv 3))) (fun _ _ _ _ _ => pg1_name (i := 4) (pg_name (i := 4) nd rfl (by first | exact Or.inl rfl | exact Or.inr rfl))) (fun _ _ _ _ _ => ptn_nil) (fun _ _ _ _ _ => pd_var (pv 4)) s)
    (pds_cons (pds_if (pdt_not (pdt_truth (pd_b1 (cr_all rfl) r1_all (by rfl) T.all (by decide +kernel) (pd_ofN (pn_lc rfl nd (own := [("pair", 4)]) (vs := [4]) (pdi_seq (pd_var (pv 2))) (blkOk_by (own := [("pair", 4)]) (N := ["deeds", "thing", "pairs", "memory", "pair", "_", "shown"]) (sc := defScope s_need_guard) (by decide +kernel)) rfl (fun _ _ _ _ _ => pg1_name (i := 4) (pg_name (i := 4) nd rfl (by first | exact Or.inl rfl | exact Or.inr rfl))) (fun _ _ _ _ _ => ptn_nil) (fun _ _ _ _ _ => pd_and (pd_call mW_is_pair (G_is_pair.mono (by decide)) hgd hr (by rfl) g_is_pair k_is_pair b_is_pair (pda_d (pdl_cons (pd_var (pv 4)) (pdl_nil)))) (pd_one (pd_call mW_is_integer (G_is_integer.mono (by decide)) hgd hr (by rfl) g_is_integer k_is_integer b_is_integer (pda_d (pdl_cons (pd_ix ix_any rd_ix (pd_var (pv 4)) (pd_int) (fun _ _ => rfl)) (pdl_cons (pd_int) (pdl_cons (pd_op op_sub rd_sub (pd_b1 call_lenA r1_len (by rfl) T.len (by decide +kernel) (pd_var (pv 1))) (pd_int)) (pdl_nil)))))))) s))))) (pds_one (pds_never)) (pds_nil))
    (pds_cons (pds_if (pdt_not (pdt_truth (pd_b1 (cr_all rfl) r1_all (by rfl) T.all (by decide +kernel) (pd_ofN (pn_lc rfl nd (own := [("_", 5), ("shown", 6)]) (vs := [5, 6]) (pdi_seq (pd_var (pv 2))) (blkOk_by (own := [("_", 5), ("shown", 6)]) (N := ["deeds", "thing", "pairs", "memory", "pair", "_", "shown"]) (sc := defScope s_need_guard) (by decide +kernel)) rfl (fun _ _ _ _ _ => pg1_tup (pgn_cons (pg1_name (i := 5) (pg_name (i := 5) nd rfl (by first | exact Or.inl rfl | exact Or.inr rfl))) (pgn_cons (pg1_name (i := 6) (pg_name (i := 6) nd rfl (by first | exact Or.inl rfl | exact Or.inr rfl))) (pgn_nil) (pgs_cons (pg1_name (i := 6) (pg_name (i := 6) nd rfl (by first | exact Or.inl rfl | exact Or.inr rfl))).pg (pgn_nil).pg)) (pgs_cons (pg1_name (i := 5) (pg_name (i := 5) nd rfl (by first | exact Or.inl rfl | exact Or.inr rfl))).pg (pgn_cons (pg1_name (i := 6) (pg_name (i := 6) nd rfl (by first | exact Or.inl rfl | exact Or.inr rfl))) (pgn_nil) (pgs_cons (pg1_name (i := 6) (pg_name (i := 6) nd rfl (by first | exact Or.inl rfl | exact Or.inr rfl))).pg (pgn_nil).pg)).pg)) (pg_tup rfl (pgn_cons (pg1_name (i := 5) (pg_name (i := 5) nd rfl (by first | exact Or.inl rfl | exact Or.inr rfl))) (pgn_cons (pg1_name (i := 6) (pg_name (i := 6) nd rfl (by first | exact Or.inl rfl | exact Or.inr rfl))) (pgn_nil) (pgs_cons (pg1_name (i := 6) (pg_name (i := 6) nd rfl (by first | exact Or.inl rfl | exact Or.inr rfl))).pg (pgn_nil).pg)) (pgs_cons (pg1_name (i := 5) (pg_name (i := 5) nd rfl (by first | exact Or.inl rfl | exact Or.inr rfl))).pg (pgn_cons (pg1_name (i := 6) (pg_name (i := 6) nd rfl (by first | exact Or.inl rfl | exact Or.inr rfl))) (pgn_nil) (pgs_cons (pg1_name (i := 6) (pg_name (i := 6) nd rfl (by first | exact Or.inl rfl | exact Or.inr rfl))).pg (pgn_nil).pg)).pg)).pg)) (fun _ _ _ _ _ => ptn_nil) (fun _ _ _ _ _ => pd_call mW_is_shown (G_is_shown.mono (by decide)) hgd hr (by rfl) g_is_shown k_is_shown b_is_shown (pda_d (pdl_cons (pd_var (pv 6)) (pdl_cons (pd_var (pv 0)) (pdl_nil))))) s))))) (pds_one (pds_never)) (pds_nil))
    (pds_one (pds_ret (pd_var (pv 1))))))))
def W_need_guard : FE := fun ρ k => ∃ (q : Int) (g : List (List (Int × List Int))), ρ.sl = [.d (.int q), .d (guardD g)] ∧ (GOK q g) ∧ k (guardD g) ρ
theorem mW_need_guard (ρ : Rho) (k k' : KD) (h : ∀ d ρ', k d ρ' → k' d ρ') (q : W_need_guard ρ k) : W_need_guard ρ k' := by
  obtain ⟨q, g, e1, e2, e3⟩ := q
  exact ⟨q, g, e1, e2, h _ _ e3⟩
theorem ok_need_guard : ∀ ρ k, W_need_guard ρ k → fBody 7 w_need_guard ρ k := by
  rintro ⟨sl, n⟩ k ⟨q, g, e, h, z⟩
  simp only at e
  subst e
  have h1 := h.g1
  have h8 := h.g8
  simp [w_need_guard]
  simp [and_assoc, Rho.set, dropOwn, ftLend, fLend, lendR, frz, ow, fsApp, nList, -forall_exists_index, fBody, fsSeq, fsIf, fsRet, fsNext, fsDrop, fsAsg, fsNever, fsFor, fsOwn, fsPar2, fsPar_od, fsPar_do, fsPar_oo, fVar, fC, fUn, fOp, fChain, fTup, fLst, fCall, faD, faSt, flCons, flNil, fSl, foSome, foNone, fAnd, fOr, fNot, fIf, fOfN, fn1, fnLst, fnCat, fgN, fgTup, fgCons, fgNil, fiSeq, fiRange1, fiRange2, fiEnumA, fiZip, ftOr, ftAnd, ftNot, ftB, ftT, ftYes, truD_b, truD_i, truD_l, truD_t, truD_n, gIx_t0, gIx_t1, gIx_t2, gSl_t, gSl_l, gIsT, notDict, isT, isN, tyName, gLen_t, gLen_l, gTuple_l, gCmp, gAdd_ii, gAdd_ss, gAdd_tt, gAdd_ll, PD.gSub, gNeg, gMod, seqD, forD, wipeR, gEqA, gNeA, gEq_ii, gNe_ii, gEq_tt, gIn_ints, gIn_intsL, gNotIn_ints, gNotIn_intsL]
  refine ⟨q, rfl, ⟨h.q1, h.q4⟩, g, q, rfl, h, ?_⟩
  unfold fnComp2
  simp [and_assoc, Rho.set, dropOwn, ftLend, fLend, lendR, frz, ow, fsApp, nList, -forall_exists_index, fBody, fsSeq, fsIf, fsRet, fsNext, fsDrop, fsAsg, fsNever, fsFor, fsOwn, fsPar2, fsPar_od, fsPar_do, fsPar_oo, fVar, fC, fUn, fOp, fChain, fTup, fLst, fCall, faD, faSt, flCons, flNil, fSl, foSome, foNone, fAnd, fOr, fNot, fIf, fOfN, fn1, fnLst, fnCat, fgN, fgTup, fgCons, fgNil, fiSeq, fiRange1, fiRange2, fiEnumA, fiZip, ftOr, ftAnd, ftNot, ftB, ftT, ftYes, truD_b, truD_i, truD_l, truD_t, truD_n, gIx_t0, gIx_t1, gIx_t2, gSl_t, gSl_l, gIsT, notDict, isT, isN, tyName, gLen_t, gLen_l, gTuple_l, gCmp, gAdd_ii, gAdd_ss, gAdd_tt, gAdd_ll, PD.gSub, gNeg, gMod, seqD, forD, wipeR, gEqA, gNeA, gEq_ii, gNe_ii, gEq_tt, gIn_ints, gIn_intsL, gNotIn_ints, gNotIn_intsL]
  have hsum : ∀ (l : List (List (Int × List Int))), (∀ m ∈ l, (m.length : Int) = q) → (l.map fun m => m.length).sum ≤ l.length * 4 := by
    intro l
    induction l with
    | nil => intro _; simp
    | cons m l ih =>
      intro hl
      have a := hl m List.mem_cons_self
      have b := ih fun x hx => hl x (List.mem_cons_of_mem _ hx)
      have c := h.q4
      rw [List.map_cons, List.sum_cons, List.length_cons]
      omega
  have hs := hsum g h.row
  have hfl : (g.flatMap id).length ≤ 32 := by
    rw [List.length_flatMap]
    have : (g.map fun m => (id m).length).sum ≤ g.length * 4 := hs
    omega
  have hmem : ∀ p ∈ g.flatMap id, ∃ m ∈ g, p ∈ m := fun p hp => by
    obtain ⟨m, hm, hp⟩ := List.mem_flatMap.mp hp
    exact ⟨m, hm, hp⟩
  refine comp2_all (α := List (Int × List Int)) (β := Int × List Int) memD id pairD g [] (fun m hm acc hl kt hk => ?_) (by
    show 0 + (g.map fun m => (id m).length).sum ≤ 1000000
    have : (g.map fun m => (id m).length).sum ≤ g.length * 4 := hs
    omega) ?_
  · simp [and_assoc, Rho.set, dropOwn, ftLend, fLend, lendR, frz, ow, fsApp, nList, -forall_exists_index, fBody, fsSeq, fsIf, fsRet, fsNext, fsDrop, fsAsg, fsNever, fsFor, fsOwn, fsPar2, fsPar_od, fsPar_do, fsPar_oo, fVar, fC, fUn, fOp, fChain, fTup, fLst, fCall, faD, faSt, flCons, flNil, fSl, foSome, foNone, fAnd, fOr, fNot, fIf, fOfN, fn1, fnLst, fnCat, fgN, fgTup, fgCons, fgNil, fiSeq, fiRange1, fiRange2, fiEnumA, fiZip, ftOr, ftAnd, ftNot, ftB, ftT, ftYes, truD_b, truD_i, truD_l, truD_t, truD_n, gIx_t0, gIx_t1, gIx_t2, gSl_t, gSl_l, gIsT, notDict, isT, isN, tyName, gLen_t, gLen_l, gTuple_l, gCmp, gAdd_ii, gAdd_ss, gAdd_tt, gAdd_ll, PD.gSub, gNeg, gMod, seqD, forD, wipeR, gEqA, gNeA, gEq_ii, gNe_ii, gEq_tt, gIn_ints, gIn_intsL, gNotIn_ints, gNotIn_intsL]
    refine ⟨rfl, rfl, rfl, rfl, rfl, hl, ?_⟩
    refine comp_on pairD (fun _ => true) pairD m acc (fun p hp kt' kf h1 h2 => ?_) ?_
    · simp [and_assoc, Rho.set, dropOwn, ftLend, fLend, lendR, frz, ow, fsApp, nList, -forall_exists_index, fBody, fsSeq, fsIf, fsRet, fsNext, fsDrop, fsAsg, fsNever, fsFor, fsOwn, fsPar2, fsPar_od, fsPar_do, fsPar_oo, fVar, fC, fUn, fOp, fChain, fTup, fLst, fCall, faD, faSt, flCons, flNil, fSl, foSome, foNone, fAnd, fOr, fNot, fIf, fOfN, fn1, fnLst, fnCat, fgN, fgTup, fgCons, fgNil, fiSeq, fiRange1, fiRange2, fiEnumA, fiZip, ftOr, ftAnd, ftNot, ftB, ftT, ftYes, truD_b, truD_i, truD_l, truD_t, truD_n, gIx_t0, gIx_t1, gIx_t2, gSl_t, gSl_l, gIsT, notDict, isT, isN, tyName, gLen_t, gLen_l, gTuple_l, gCmp, gAdd_ii, gAdd_ss, gAdd_tt, gAdd_ll, PD.gSub, gNeg, gMod, seqD, forD, wipeR, gEqA, gNeA, gEq_ii, gNe_ii, gEq_tt, gIn_ints, gIn_intsL, gNotIn_ints, gNotIn_intsL]
      exact h1 rfl _ rfl
    · rw [show m.filter (fun _ => true) = m from List.filter_eq_self.mpr fun _ _ => rfl]
      exact hk _ rfl
  · rw [List.nil_append]
    generalize hps : g.flatMap id = ps at hfl hmem
    unfold fnComp
    simp [and_assoc, Rho.set, dropOwn, ftLend, fLend, lendR, frz, ow, fsApp, nList, -forall_exists_index, fBody, fsSeq, fsIf, fsRet, fsNext, fsDrop, fsAsg, fsNever, fsFor, fsOwn, fsPar2, fsPar_od, fsPar_do, fsPar_oo, fVar, fC, fUn, fOp, fChain, fTup, fLst, fCall, faD, faSt, flCons, flNil, fSl, foSome, foNone, fAnd, fOr, fNot, fIf, fOfN, fn1, fnLst, fnCat, fgN, fgTup, fgCons, fgNil, fiSeq, fiRange1, fiRange2, fiEnumA, fiZip, ftOr, ftAnd, ftNot, ftB, ftT, ftYes, truD_b, truD_i, truD_l, truD_t, truD_n, gIx_t0, gIx_t1, gIx_t2, gSl_t, gSl_l, gIsT, notDict, isT, isN, tyName, gLen_t, gLen_l, gTuple_l, gCmp, gAdd_ii, gAdd_ss, gAdd_tt, gAdd_ll, PD.gSub, gNeg, gMod, seqD, forD, wipeR, gEqA, gNeA, gEq_ii, gNe_ii, gEq_tt, gIn_ints, gIn_intsL, gNotIn_ints, gNotIn_intsL]
    refine ⟨by omega, comp_all pairD (fun r => .bool true) ps (fun p hp kt h3 => ?_) ?_⟩
    · obtain ⟨m, hm, hp⟩ := hmem p hp
      have b := h.nx m hm p hp
      simp [and_assoc, Rho.set, dropOwn, ftLend, fLend, lendR, frz, ow, fsApp, nList, -forall_exists_index, fBody, fsSeq, fsIf, fsRet, fsNext, fsDrop, fsAsg, fsNever, fsFor, fsOwn, fsPar2, fsPar_od, fsPar_do, fsPar_oo, fVar, fC, fUn, fOp, fChain, fTup, fLst, fCall, faD, faSt, flCons, flNil, fSl, foSome, foNone, fAnd, fOr, fNot, fIf, fOfN, fn1, fnLst, fnCat, fgN, fgTup, fgCons, fgNil, fiSeq, fiRange1, fiRange2, fiEnumA, fiZip, ftOr, ftAnd, ftNot, ftB, ftT, ftYes, truD_b, truD_i, truD_l, truD_t, truD_n, gIx_t0, gIx_t1, gIx_t2, gSl_t, gSl_l, gIsT, notDict, isT, isN, tyName, gLen_t, gLen_l, gTuple_l, gCmp, gAdd_ii, gAdd_ss, gAdd_tt, gAdd_ll, PD.gSub, gNeg, gMod, seqD, forD, wipeR, gEqA, gNeA, gEq_ii, gNe_ii, gEq_tt, gIn_ints, gIn_intsL, gNotIn_ints, gNotIn_intsL]
      refine ⟨_, _, rfl, trivial, .inr ⟨rfl, p.1, 0, _, rfl, by omega, ?_⟩⟩
      rw [decide_eq_true b]
      exact h3 _ rfl
    · refine ⟨.bool true, ?_, rfl, ?_⟩
      · rw [show ps.map (fun r => PyData.bool true) = (ps.map fun r => true).map .bool by rw [List.map_map]; rfl, gAll_bs]
        simp
      · simp [and_assoc, Rho.set, dropOwn, ftLend, fLend, lendR, frz, ow, fsApp, nList, -forall_exists_index, fBody, fsSeq, fsIf, fsRet, fsNext, fsDrop, fsAsg, fsNever, fsFor, fsOwn, fsPar2, fsPar_od, fsPar_do, fsPar_oo, fVar, fC, fUn, fOp, fChain, fTup, fLst, fCall, faD, faSt, flCons, flNil, fSl, foSome, foNone, fAnd, fOr, fNot, fIf, fOfN, fn1, fnLst, fnCat, fgN, fgTup, fgCons, fgNil, fiSeq, fiRange1, fiRange2, fiEnumA, fiZip, ftOr, ftAnd, ftNot, ftB, ftT, ftYes, truD_b, truD_i, truD_l, truD_t, truD_n, gIx_t0, gIx_t1, gIx_t2, gSl_t, gSl_l, gIsT, notDict, isT, isN, tyName, gLen_t, gLen_l, gTuple_l, gCmp, gAdd_ii, gAdd_ss, gAdd_tt, gAdd_ll, PD.gSub, gNeg, gMod, seqD, forD, wipeR, gEqA, gNeA, gEq_ii, gNe_ii, gEq_tt, gIn_ints, gIn_intsL, gNotIn_ints, gNotIn_intsL]
        refine ⟨by omega, comp_all pairD (fun r => .bool true) ps (fun p hp kt h3 => ?_) ?_⟩
        · obtain ⟨m, hm, hp⟩ := hmem p hp
          have b := h.sh m hm p hp
          simp [and_assoc, Rho.set, dropOwn, ftLend, fLend, lendR, frz, ow, fsApp, nList, -forall_exists_index, fBody, fsSeq, fsIf, fsRet, fsNext, fsDrop, fsAsg, fsNever, fsFor, fsOwn, fsPar2, fsPar_od, fsPar_do, fsPar_oo, fVar, fC, fUn, fOp, fChain, fTup, fLst, fCall, faD, faSt, flCons, flNil, fSl, foSome, foNone, fAnd, fOr, fNot, fIf, fOfN, fn1, fnLst, fnCat, fgN, fgTup, fgCons, fgNil, fiSeq, fiRange1, fiRange2, fiEnumA, fiZip, ftOr, ftAnd, ftNot, ftB, ftT, ftYes, truD_b, truD_i, truD_l, truD_t, truD_n, gIx_t0, gIx_t1, gIx_t2, gSl_t, gSl_l, gIsT, notDict, isT, isN, tyName, gLen_t, gLen_l, gTuple_l, gCmp, gAdd_ii, gAdd_ss, gAdd_tt, gAdd_ll, PD.gSub, gNeg, gMod, seqD, forD, wipeR, gEqA, gNeA, gEq_ii, gNe_ii, gEq_tt, gIn_ints, gIn_intsL, gNotIn_ints, gNotIn_intsL]
          exact ⟨p.2, q, rfl, b, h3 _ rfl⟩
        · refine ⟨.bool true, ?_, rfl, z⟩
          rw [show ps.map (fun r => PyData.bool true) = (ps.map fun r => true).map .bool by rw [List.map_map]; rfl, gAll_bs]
          simp
/-! texts -/
/-- the text of a thing -/
def strOf : D → Str
  | .int i => dg i
  | .str x => x
  | _ => Str.empty
def strFit : D → Bool
  | .int i => decide (0 ≤ i ∧ i < 10)
  | .str x => decide (x.length ≤ 100)
  | _ => false
theorem strFit_g {d : D} (h : strFit d = true) : gStr d = some (.str (strOf d)) ∧ (strOf d).length ≤ 100 := by
  cases d with
  | int i =>
    have h : 0 ≤ i ∧ i < 10 := of_decide_eq_true h
    exact ⟨gStr_int h.1 (by omega), by show (dg i).length ≤ 100; rw [len_dg h.1 h.2]; omega⟩
  | str x => exact ⟨rfl, of_decide_eq_true h⟩
  | none => cases h
  | bool _ => cases h
  | list _ => cases h
  | tuple _ => cases h
  | dict _ => cases h
abbrev s_words_text : Stmt := top 31
theorem sc_words_text : FnScope ["things", "thing"] ["things"] (defScope s_words_text) := ⟨rfl, rfl, rfl, by decide +kernel, rfl, by decide +kernel, by decide +kernel⟩
def w_words_text : FS := fsRet (fM1 gJoin (fC (.str " ")) (fOfN (fnComp (fiSeq (fVar 0)) (fgN 1) (ftYes) (fUn gStr (fVar 1)) [1])))
theorem raw_words_text {f : Addr} {fd : FuncData} (F : Fun K "words_text" "words_text" s_words_text f fd) (T : Txt mg) : FnG P w K mg base (L2.CX P w) 1 f fd ["things"] (spD ⟨K, w⟩ M 1 (fBody 2 w_words_text)) := by
  refine fnD F sc_words_text fun cdv A outer s H E hgd hr => ?_
  have nd := (sc_words_text).nd
  have hu : (A.deeper (envOfC "words_text" (defScope s_words_text) s.heap.objs.size f cdv)).units + 64 < cLine := hr.units
  exact pds_one (pds_ret (pd_m1 PySem.F.slot_str_join PySem.F.type_str_join mt_join rd_join (pd_str) (pd_ofN (pn_lc rfl nd (own := [("thing", 1)]) (vs := [1]) (pdi_seq (pd_var (pv 0))) (blkOk_by (own := [("thing", 1)]) (N := ["things", "thing"]) (sc := defScope s_words_text) (by decide +kernel)) rfl (fun _ _ _ _ _ => pg1_name (i := 1) (pg_name (i := 1) nd rfl (by first | exact Or.inl rfl | exact Or.inr rfl))) (fun _ _ _ _ _ => ptn_nil) (fun _ _ _ _ _ => pd_t1 call_strA r1_str (by rfl) T.str (by decide +kernel) (pd_var (pv 1))) s))))
def W_words_text : FE := fun ρ k => ∃ (b : Bool) (xs : List D), ρ.sl = [.d (if b then .list xs else .tuple xs)] ∧ (xs.length ≤ 100 ∧ ∀ x ∈ xs, strFit x = true) ∧ k (.str (Txt.join " " (xs.map strOf))) ρ
theorem mW_words_text (ρ : Rho) (k k' : KD) (h : ∀ d ρ', k d ρ' → k' d ρ') (q : W_words_text ρ k) : W_words_text ρ k' := by
  obtain ⟨b, xs, e1, e2, e3⟩ := q
  exact ⟨b, xs, e1, e2, h _ _ e3⟩
theorem ok_words_text : ∀ ρ k, W_words_text ρ k → fBody 2 w_words_text ρ k := by
  rintro ⟨sl, n⟩ k ⟨b, xs, e, h, z⟩
  simp only at e
  subst e
  simp [w_words_text]
  have hseq : seqD (if b = true then .list xs else .tuple xs) = some xs := by cases b <;> rfl
  generalize (if b = true then PyData.list xs else .tuple xs) = dd at hseq z
  simp [and_assoc, Rho.set, dropOwn, ftLend, fLend, lendR, frz, ow, nList, -forall_exists_index, fBody, fsSeq, fsIf, fsRet, fsNext, fsDrop, fsAsg, fsNever, fsFor, fsOwn, fsPar2, fsPar3, fsPar_od, fsPar_do, fsPar_oo, fVar, fC, fUn, fOp, fChain, fTup, fLst, fCall, faD, faSt, flCons, flNil, fSl, foSome, foNone, fAnd, fOr, fNot, fIf, fOfN, fn1, fnLst, fnCat, fgN, fgTup, fgCons, fgNil, fiSeq, fiRange1, fiRange2, fiEnumA, fiZip, ftOr, ftAnd, ftNot, ftB, ftT, ftYes, truD_b, truD_i, truD_l, truD_t, truD_n, gIx_t0, gIx_t1, gIx_t2, gSl_t, gSl_l, gIsT, notDict, isT, isN, tyName, gLen_t, gLen_l, gTuple_l, gCmp, gAdd_ii, gAdd_ll, PD.gSub, gNeg, gMod, seqD, forD, wipeR, gEqA, gNeA, gEq_ii, gNe_ii, gEq_tt, gIn_ints, gIn_intsL, gNotIn_ints, gNotIn_intsL, fM0, fM1, fJoined, fJ, flStar, starD, fCall0]
  refine ⟨dd, rfl, xs, hseq, by omega, comp_allD (fun x => .str (strOf x)) xs (fun x hx kt h3 => ?_) ?_⟩
  · simp [and_assoc, Rho.set, dropOwn, ftLend, fLend, lendR, frz, ow, nList, -forall_exists_index, fBody, fsSeq, fsIf, fsRet, fsNext, fsDrop, fsAsg, fsNever, fsFor, fsOwn, fsPar2, fsPar3, fsPar_od, fsPar_do, fsPar_oo, fVar, fC, fUn, fOp, fChain, fTup, fLst, fCall, faD, faSt, flCons, flNil, fSl, foSome, foNone, fAnd, fOr, fNot, fIf, fOfN, fn1, fnLst, fnCat, fgN, fgTup, fgCons, fgNil, fiSeq, fiRange1, fiRange2, fiEnumA, fiZip, ftOr, ftAnd, ftNot, ftB, ftT, ftYes, truD_b, truD_i, truD_l, truD_t, truD_n, gIx_t0, gIx_t1, gIx_t2, gSl_t, gSl_l, gIsT, notDict, isT, isN, tyName, gLen_t, gLen_l, gTuple_l, gCmp, gAdd_ii, gAdd_ll, PD.gSub, gNeg, gMod, seqD, forD, wipeR, gEqA, gNeA, gEq_ii, gNe_ii, gEq_tt, gIn_ints, gIn_intsL, gNotIn_ints, gNotIn_intsL, fM0, fM1, fJoined, fJ, flStar, starD, fCall0]
    exact ⟨_, (strFit_g (h.2 x hx)).1, h3 _ rfl⟩
  · have e : xs.map (fun x => PyData.str (strOf x)) = (xs.map strOf).map .str := by rw [List.map_map]; rfl
    have hj : gJoin (.str " ") (.list (xs.map fun x => PyData.str (strOf x))) = some (.str (Txt.join " " (xs.map strOf))) := by
      rw [e]
      refine gJoin_l 100 (fun p hp => ?_) (by rw [List.length_map, show (" " : Str).length = 1 by decide +kernel]; omega)
      obtain ⟨x, hx, rfl⟩ := List.mem_map.mp hp
      exact (strFit_g (h.2 x hx)).2
    exact ⟨_, hj, z⟩
abbrev Dgs (ns : List Int) : Prop := ∀ i ∈ ns, 0 ≤ i ∧ i < 10
def shownS (ns : List Int) : Str := if ns = [] then "-" else Txt.join "," (ns.map dg)
theorem join_dg {y : Str} (hy : y.length = 1) {ns : List Int} (h : Dgs ns) (hl : ns.length ≤ 100) : gJoin (.str y) (.list (ns.map fun i => PyData.str (dg i))) = some (.str (Txt.join y (ns.map dg))) := by
  rw [show ns.map (fun i => PyData.str (dg i)) = (ns.map dg).map .str by rw [List.map_map]; rfl]
  refine gJoin_l 1 (fun p hp => ?_) (by rw [List.length_map, hy]; omega)
  obtain ⟨x, hx, rfl⟩ := List.mem_map.mp hp
  rw [len_dg (h x hx).1 (h x hx).2]
  omega
abbrev s_shown_text : Stmt := top 32
theorem sc_shown_text : FnScope ["shown", "deed"] ["shown"] (defScope s_shown_text) := ⟨rfl, rfl, rfl, by decide +kernel, rfl, by decide +kernel, by decide +kernel⟩
def w_shown_text : FS := fsRet (fIf (ftT (fVar 0)) (fM1 gJoin (fC (.str ",")) (fOfN (fnComp (fiSeq (fVar 0)) (fgN 1) (ftYes) (fUn gStr (fVar 1)) [1]))) (fC (.str "-")))
theorem raw_shown_text {f : Addr} {fd : FuncData} (F : Fun K "shown_text" "shown_text" s_shown_text f fd) (T : Txt mg) : FnG P w K mg base (L2.CX P w) 1 f fd ["shown"] (spD ⟨K, w⟩ M 1 (fBody 2 w_shown_text)) := by
  refine fnD F sc_shown_text fun cdv A outer s H E hgd hr => ?_
  have nd := (sc_shown_text).nd
  have hu : (A.deeper (envOfC "shown_text" (defScope s_shown_text) s.heap.objs.size f cdv)).units + 64 < cLine := hr.units
  exact pds_one (pds_ret (pd_if (pdt_truth (pd_var (pv 0))) (pd_m1 PySem.F.slot_str_join PySem.F.type_str_join mt_join rd_join (pd_str) (pd_ofN (pn_lc rfl nd (own := [("deed", 1)]) (vs := [1]) (pdi_seq (pd_var (pv 0))) (blkOk_by (own := [("deed", 1)]) (N := ["shown", "deed"]) (sc := defScope s_shown_text) (by decide +kernel)) rfl (fun _ _ _ _ _ => pg1_name (i := 1) (pg_name (i := 1) nd rfl (by first | exact Or.inl rfl | exact Or.inr rfl))) (fun _ _ _ _ _ => ptn_nil) (fun _ _ _ _ _ => pd_t1 call_strA r1_str (by rfl) T.str (by decide +kernel) (pd_var (pv 1))) s))) (pd_str)))
def W_shown_text : FE := fun ρ k => ∃ (ns : List Int), ρ.sl = [.d (tupI ns)] ∧ (Dgs ns ∧ ns.length ≤ 100) ∧ k (.str (shownS ns)) ρ
theorem mW_shown_text (ρ : Rho) (k k' : KD) (h : ∀ d ρ', k d ρ' → k' d ρ') (q : W_shown_text ρ k) : W_shown_text ρ k' := by
  obtain ⟨ns, e1, e2, e3⟩ := q
  exact ⟨ns, e1, e2, h _ _ e3⟩
theorem ok_shown_text : ∀ ρ k, W_shown_text ρ k → fBody 2 w_shown_text ρ k := by
  rintro ⟨sl, n⟩ k ⟨ns, e, h, z⟩
  simp only at e
  subst e
  simp [w_shown_text]
  simp [and_assoc, Rho.set, dropOwn, ftLend, fLend, lendR, frz, ow, nList, -forall_exists_index, fBody, fsSeq, fsIf, fsRet, fsNext, fsDrop, fsAsg, fsNever, fsFor, fsOwn, fsPar2, fsPar3, fsPar_od, fsPar_do, fsPar_oo, fVar, fC, fUn, fOp, fChain, fTup, fLst, fCall, faD, faSt, flCons, flNil, fSl, foSome, foNone, fAnd, fOr, fNot, fIf, fOfN, fn1, fnLst, fnCat, fgN, fgTup, fgCons, fgNil, fiSeq, fiRange1, fiRange2, fiEnumA, fiZip, ftOr, ftAnd, ftNot, ftB, ftT, ftYes, truD_b, truD_i, truD_l, truD_t, truD_n, gIx_t0, gIx_t1, gIx_t2, gSl_t, gSl_l, gIsT, notDict, isT, isN, tyName, gLen_t, gLen_l, gTuple_l, gCmp, gAdd_ii, gAdd_ll, PD.gSub, gNeg, gMod, seqD, forD, wipeR, gEqA, gNeA, gEq_ii, gNe_ii, gEq_tt, gIn_ints, gIn_intsL, gNotIn_ints, gNotIn_intsL, fM0, fM1, fJoined, fJ, flStar, starD, fCall0]
  unfold shownS at z
  by_cases e : ns = []
  · subst e
    exact .inl ⟨rfl, z⟩
  · rw [if_neg e] at z
    refine .inr ⟨e, _, rfl, ns.map .int, rfl, by rw [List.length_map]; omega, comp_all PyData.int (fun i => .str (dg i)) ns (fun x hx kt h3 => ?_) ?_⟩
    · simp [and_assoc, Rho.set, dropOwn, ftLend, fLend, lendR, frz, ow, nList, -forall_exists_index, fBody, fsSeq, fsIf, fsRet, fsNext, fsDrop, fsAsg, fsNever, fsFor, fsOwn, fsPar2, fsPar3, fsPar_od, fsPar_do, fsPar_oo, fVar, fC, fUn, fOp, fChain, fTup, fLst, fCall, faD, faSt, flCons, flNil, fSl, foSome, foNone, fAnd, fOr, fNot, fIf, fOfN, fn1, fnLst, fnCat, fgN, fgTup, fgCons, fgNil, fiSeq, fiRange1, fiRange2, fiEnumA, fiZip, ftOr, ftAnd, ftNot, ftB, ftT, ftYes, truD_b, truD_i, truD_l, truD_t, truD_n, gIx_t0, gIx_t1, gIx_t2, gSl_t, gSl_l, gIsT, notDict, isT, isN, tyName, gLen_t, gLen_l, gTuple_l, gCmp, gAdd_ii, gAdd_ll, PD.gSub, gNeg, gMod, seqD, forD, wipeR, gEqA, gNeA, gEq_ii, gNe_ii, gEq_tt, gIn_ints, gIn_intsL, gNotIn_ints, gNotIn_intsL, fM0, fM1, fJoined, fJ, flStar, starD, fCall0]
      exact ⟨_, gStr_int (h.1 x hx).1 (by have := (h.1 x hx).2; omega), h3 _ rfl⟩
    · exact ⟨_, join_dg (by decide +kernel) h.1 h.2, z⟩
abbrev s_number_in : Stmt := top 33
theorem sc_number_in : FnScope ["word"] ["word"] (defScope s_number_in) := ⟨rfl, rfl, rfl, by decide +kernel, rfl, by decide +kernel, by decide +kernel⟩
def w_number_in : FS := fsSeq (fsIf (ftOr (ftNot (ftT (fM0 gIsascii (fVar 0)))) (ftOr (ftNot (ftT (fM0 gIsdigit (fVar 0)))) (ftB (fOp gGt (fUn gLen (fVar 0)) (fC (.int 31)))))) (fsRet (fC .none)) (fsNext))
  (fsSeq (fsIf (ftAnd (ftB (fOp gEqA (fOp gIxS (fVar 0) (fC (.int 0))) (fC (.str "0")))) (ftB (fOp gNeA (fVar 0) (fC (.str "0"))))) (fsRet (fC .none)) (fsNext))
  (fsRet (fUn gIntA (fVar 0))))
theorem raw_number_in {f : Addr} {fd : FuncData} (F : Fun K "number_in" "number_in" s_number_in f fd) (T : Txt mg) : FnG P w K mg base (L2.CX P w) 1 f fd ["word"] (spD ⟨K, w⟩ M 1 (fBody 1 w_number_in)) := by
  refine fnD F sc_number_in fun cdv A outer s H E hgd hr => ?_
  have nd := (sc_number_in).nd
  have hu : (A.deeper (envOfC "number_in" (defScope s_number_in) s.heap.objs.size f cdv)).units + 64 < cLine := hr.units
  exact pds_cons (pds_if (PDW.pt (pdw_or (pdt_not (pdt_truth (pd_m0 PySem.F.slot_str_isascii PySem.F.type_str_isascii mt_isascii r1_isascii (pd_var (pv 0))))) (pdw_or (pdt_not (pdt_truth (pd_m0 PySem.F.slot_str_isdigit PySem.F.type_str_isdigit mt_isdigit r1_isdigit (pd_var (pv 0))))) (pdw_or1 (pdt_cmp op_gt rd_cmp (pd_b1 call_lenA r1_len (by rfl) T.len (by decide +kernel) (pd_var (pv 0))) (pd_gint (by rfl) T.c_MOST_FIGURES) (by first | exact nomark _ | rfl)))))) (pds_one (pds_ret (pd_non))) (pds_nil))
    (pds_cons (pds_if (PDW.pt (pdw_and (pdt_cmp (op_eqA hu) rd_eqA (pd_ix ix_strA rd_ixS (pd_var (pv 0)) (pd_int) (fun _ _ => rfl)) (pd_str) (by first | exact nomark _ | rfl)) (pdw_and1 (pdt_cmp (op_neA hu) rd_neA (pd_var (pv 0)) (pd_str) (by first | exact nomark _ | rfl))))) (pds_one (pds_ret (pd_non))) (pds_nil))
    (pds_one (pds_ret (pd_t1 call_intA r1_intA (by rfl) T.int (by decide +kernel) (pd_var (pv 0))))))
def W_number_in : FE := fun ρ k => ∃ (i : Int), ρ.sl = [.d (.str (dg i))] ∧ (0 ≤ i ∧ i < 10) ∧ k (.int i) ρ
theorem mW_number_in (ρ : Rho) (k k' : KD) (h : ∀ d ρ', k d ρ' → k' d ρ') (q : W_number_in ρ k) : W_number_in ρ k' := by
  obtain ⟨i, e1, e2, e3⟩ := q
  exact ⟨i, e1, e2, h _ _ e3⟩
theorem ok_number_in : ∀ ρ k, W_number_in ρ k → fBody 1 w_number_in ρ k := by
  rintro ⟨sl, n⟩ k ⟨i, e, h, z⟩
  simp only at e
  subst e
  have h1 : gIsascii (.str (dg i)) = some (.bool true) := by show some (PyData.bool (Txt.isascii (dg i))) = _; rw [dg_ascii h.1 h.2]
  have h2 : gIsdigit (.str (dg i)) = some (.bool true) := by show some (PyData.bool (Txt.isdigit (dg i))) = _; rw [dg_digit h.1 h.2]
  have h3 : gLen (.str (dg i)) = some (.int 1) := by
    show (if (dg i).length ≤ sizeLine then some (PyData.int (dg i).length) else none) = _
    rw [if_pos (by rw [len_dg h.1 h.2, sizeLine_eq]; omega), len_dg h.1 h.2]
    rfl
  simp [w_number_in]
  simp [and_assoc, Rho.set, dropOwn, ftLend, fLend, lendR, frz, ow, nList, -forall_exists_index, fBody, fsSeq, fsIf, fsRet, fsNext, fsDrop, fsAsg, fsNever, fsFor, fsOwn, fsPar2, fsPar3, fsPar_od, fsPar_do, fsPar_oo, fVar, fC, fUn, fOp, fChain, fTup, fLst, fCall, faD, faSt, flCons, flNil, fSl, foSome, foNone, fAnd, fOr, fNot, fIf, fOfN, fn1, fnLst, fnCat, fgN, fgTup, fgCons, fgNil, fiSeq, fiRange1, fiRange2, fiEnumA, fiZip, ftOr, ftAnd, ftNot, ftB, ftT, ftYes, truD_b, truD_i, truD_l, truD_t, truD_n, gIx_t0, gIx_t1, gIx_t2, gSl_t, gSl_l, gIsT, notDict, isT, isN, tyName, gLen_t, gLen_l, gTuple_l, gCmp, gAdd_ii, gAdd_ll, PD.gSub, gNeg, gMod, seqD, forD, wipeR, gEqA, gNeA, gEq_ii, gNe_ii, gEq_tt, gIn_ints, gIn_intsL, gNotIn_ints, gNotIn_intsL, fM0, fM1, fJoined, fJ, flStar, starD, fCall0]
  rw [h1, h2, h3, dg_first h.1 h.2, dg_int h.1 h.2]
  refine ⟨_, rfl, .inr ⟨rfl, _, rfl, .inr ⟨rfl, _, rfl, _, rfl, .inl ⟨rfl, _, rfl, _, rfl, ?_⟩⟩⟩⟩
  by_cases e : dg i = ("0" : Str)
  · exact .inr ⟨by rw [decide_eq_true e], .inl ⟨e, _, rfl, z⟩⟩
  · exact .inl ⟨by rw [decide_eq_false e], _, rfl, z⟩
abbrev s_numbers_in : Stmt := top 34
theorem sc_numbers_in : FnScope ["words", "word"] ["words"] (defScope s_numbers_in) := ⟨rfl, rfl, rfl, by decide +kernel, rfl, by decide +kernel, by decide +kernel⟩
def w_numbers_in : FS := fsRet (fUn gTuple (fOfN (fnComp (fiSeq (fVar 0)) (fgN 1) (ftYes) (fCall 1 W_number_in (faD (flCons (fVar 1) (flNil)))) [1])))
theorem raw_numbers_in {f : Addr} {fd : FuncData} {a_number_in : Addr} {d_number_in : FuncData} (F : Fun K "numbers_in" "numbers_in" s_numbers_in f fd) (T : Txt mg) (g_number_in : mg "number_in" = some (.ref a_number_in)) (G_number_in : FnG P w K mg base (L2.CX P w) 1 a_number_in d_number_in ["word"] (spD ⟨K, w⟩ M 1 W_number_in)) (b_number_in : Binds K d_number_in ["word"] []) (k_number_in : PySem.W.keepIn K (.ref a_number_in) = true) : FnG P w K mg base (L2.CX P w) 2 f fd ["words"] (spD ⟨K, w⟩ M 1 (fBody 2 w_numbers_in)) := by
  refine fnD F sc_numbers_in fun cdv A outer s H E hgd hr => ?_
  have nd := (sc_numbers_in).nd
  have hu : (A.deeper (envOfC "numbers_in" (defScope s_numbers_in) s.heap.objs.size f cdv)).units + 64 < cLine := hr.units
  exact pds_one (pds_ret (pd_t1 call_tuple_of r1_tuple (by rfl) T.tuple (by decide +kernel) (pd_ofN (pn_lc rfl nd (own := [("word", 1)]) (vs := [1]) (pdi_seq (pd_var (pv 0))) (blkOk_by (own := [("word", 1)]) (N := ["words", "word"]) (sc := defScope s_numbers_in) (by decide +kernel)) rfl (fun _ _ _ _ _ => pg1_name (i := 1) (pg_name (i := 1) nd rfl (by first | exact Or.inl rfl | exact Or.inr rfl))) (fun _ _ _ _ _ => ptn_nil) (fun _ _ _ _ _ => pd_call mW_number_in (G_number_in.mono (by decide)) hgd hr (by rfl) g_number_in k_number_in b_number_in (pda_d (pdl_cons (pd_var (pv 1)) (pdl_nil)))) s))))
def W_numbers_in : FE := fun ρ k => ∃ (ns : List Int), ρ.sl = [.d (.list (ns.map fun i => .str (dg i)))] ∧ (Dgs ns ∧ ns.length ≤ 100) ∧ k (tupI ns) ρ
theorem mW_numbers_in (ρ : Rho) (k k' : KD) (h : ∀ d ρ', k d ρ' → k' d ρ') (q : W_numbers_in ρ k) : W_numbers_in ρ k' := by
  obtain ⟨ns, e1, e2, e3⟩ := q
  exact ⟨ns, e1, e2, h _ _ e3⟩
theorem ok_numbers_in : ∀ ρ k, W_numbers_in ρ k → fBody 2 w_numbers_in ρ k := by
  rintro ⟨sl, n⟩ k ⟨ns, e, h, z⟩
  simp only at e
  subst e
  simp [w_numbers_in]
  simp [and_assoc, Rho.set, dropOwn, ftLend, fLend, lendR, frz, ow, nList, -forall_exists_index, fBody, fsSeq, fsIf, fsRet, fsNext, fsDrop, fsAsg, fsNever, fsFor, fsOwn, fsPar2, fsPar3, fsPar_od, fsPar_do, fsPar_oo, fVar, fC, fUn, fOp, fChain, fTup, fLst, fCall, faD, faSt, flCons, flNil, fSl, foSome, foNone, fAnd, fOr, fNot, fIf, fOfN, fn1, fnLst, fnCat, fgN, fgTup, fgCons, fgNil, fiSeq, fiRange1, fiRange2, fiEnumA, fiZip, ftOr, ftAnd, ftNot, ftB, ftT, ftYes, truD_b, truD_i, truD_l, truD_t, truD_n, gIx_t0, gIx_t1, gIx_t2, gSl_t, gSl_l, gIsT, notDict, isT, isN, tyName, gLen_t, gLen_l, gTuple_l, gCmp, gAdd_ii, gAdd_ll, PD.gSub, gNeg, gMod, seqD, forD, wipeR, gEqA, gNeA, gEq_ii, gNe_ii, gEq_tt, gIn_ints, gIn_intsL, gNotIn_ints, gNotIn_intsL, fM0, fM1, fJoined, fJ, flStar, starD, fCall0]
  refine fnComp_i ?_
  simp [and_assoc, Rho.set, dropOwn, ftLend, fLend, lendR, frz, ow, nList, -forall_exists_index, fBody, fsSeq, fsIf, fsRet, fsNext, fsDrop, fsAsg, fsNever, fsFor, fsOwn, fsPar2, fsPar3, fsPar_od, fsPar_do, fsPar_oo, fVar, fC, fUn, fOp, fChain, fTup, fLst, fCall, faD, faSt, flCons, flNil, fSl, foSome, foNone, fAnd, fOr, fNot, fIf, fOfN, fn1, fnLst, fnCat, fgN, fgTup, fgCons, fgNil, fiSeq, fiRange1, fiRange2, fiEnumA, fiZip, ftOr, ftAnd, ftNot, ftB, ftT, ftYes, truD_b, truD_i, truD_l, truD_t, truD_n, gIx_t0, gIx_t1, gIx_t2, gSl_t, gSl_l, gIsT, notDict, isT, isN, tyName, gLen_t, gLen_l, gTuple_l, gCmp, gAdd_ii, gAdd_ll, PD.gSub, gNeg, gMod, seqD, forD, wipeR, gEqA, gNeA, gEq_ii, gNe_ii, gEq_tt, gIn_ints, gIn_intsL, gNotIn_ints, gNotIn_intsL, fM0, fM1, fJoined, fJ, flStar, starD, fCall0]
  refine ⟨by omega, comp_all (fun i => .str (dg i)) PyData.int ns (fun x hx kt h3 => ?_) ?_⟩
  · simp [and_assoc, Rho.set, dropOwn, ftLend, fLend, lendR, frz, ow, nList, -forall_exists_index, fBody, fsSeq, fsIf, fsRet, fsNext, fsDrop, fsAsg, fsNever, fsFor, fsOwn, fsPar2, fsPar3, fsPar_od, fsPar_do, fsPar_oo, fVar, fC, fUn, fOp, fChain, fTup, fLst, fCall, faD, faSt, flCons, flNil, fSl, foSome, foNone, fAnd, fOr, fNot, fIf, fOfN, fn1, fnLst, fnCat, fgN, fgTup, fgCons, fgNil, fiSeq, fiRange1, fiRange2, fiEnumA, fiZip, ftOr, ftAnd, ftNot, ftB, ftT, ftYes, truD_b, truD_i, truD_l, truD_t, truD_n, gIx_t0, gIx_t1, gIx_t2, gSl_t, gSl_l, gIsT, notDict, isT, isN, tyName, gLen_t, gLen_l, gTuple_l, gCmp, gAdd_ii, gAdd_ll, PD.gSub, gNeg, gMod, seqD, forD, wipeR, gEqA, gNeA, gEq_ii, gNe_ii, gEq_tt, gIn_ints, gIn_intsL, gNotIn_ints, gNotIn_intsL, fM0, fM1, fJoined, fJ, flStar, starD, fCall0]
    exact ⟨x, rfl, h.1 x hx, h3 _ rfl⟩
  · exact z
theorem nl_tl : tl "\n" = [10] := by decide +kernel
theorem sp_tl : tl " " = [32] := by decide +kernel
theorem cm_tl : tl "," = [44] := by decide +kernel
theorem cl_tl : tl ":" = [58] := by decide +kernel
theorem hy_tl : tl "-" = [45] := by decide +kernel
theorem go_tl : tl "good" = [103, 111, 111, 100] := by decide +kernel
abbrev s_need_rows : Stmt := top 35
theorem sc_need_rows : FnScope ["thing"] ["thing"] (defScope s_need_rows) := ⟨rfl, rfl, rfl, by decide +kernel, rfl, by decide +kernel, by decide +kernel⟩
def w_need_rows : FS := fsSeq (fsIf (ftNot (ftT (fUn (gIsT "str") (fVar 0)))) (fsNever) (fsNext))
  (fsRet (fM1 gSplit (fVar 0) (fC (.str "\n"))))
theorem raw_need_rows {f : Addr} {fd : FuncData} (F : Fun K "_need_rows" "_need_rows" s_need_rows f fd) (T : Txt mg) : FnG P w K mg base (L2.CX P w) 1 f fd ["thing"] (spD ⟨K, w⟩ M 1 (fBody 1 w_need_rows)) := by
  refine fnD F sc_need_rows fun cdv A outer s H E hgd hr => ?_
  have nd := (sc_need_rows).nd
  have hu : (A.deeper (envOfC "_need_rows" (defScope s_need_rows) s.heap.objs.size f cdv)).units + 64 < cLine := hr.units
  exact pds_cons (pds_if (pdt_not (pdt_truth (pd_isi (T := "str") (by decide) (by rfl) T.isinstance (pe_tyName (by rfl) T.str (by decide +kernel)) (pd_var (pv 0))))) (pds_one (pds_never)) (pds_nil))
    (pds_one (pds_ret (pd_m1 PySem.F.slot_str_split PySem.F.type_str_split mt_split rd_split (pd_var (pv 0)) (pd_str))))
def W_need_rows : FE := fun ρ k => ∃ (ps : List Str), ρ.sl = [.d (.str (Txt.join "\n" ps))] ∧ (ps ≠ [] ∧ (∀ p ∈ ps, 10 ∉ tl p) ∧ (Txt.join "\n" ps).length ≤ 1000000) ∧ k (.list (ps.map .str)) ρ
theorem mW_need_rows (ρ : Rho) (k k' : KD) (h : ∀ d ρ', k d ρ' → k' d ρ') (q : W_need_rows ρ k) : W_need_rows ρ k' := by
  obtain ⟨ps, e1, e2, e3⟩ := q
  exact ⟨ps, e1, e2, h _ _ e3⟩
theorem ok_need_rows : ∀ ρ k, W_need_rows ρ k → fBody 1 w_need_rows ρ k := by
  rintro ⟨sl, n⟩ k ⟨ps, e, h, z⟩
  simp only at e
  subst e
  simp [w_need_rows]
  simp [and_assoc, Rho.set, dropOwn, ftLend, fLend, lendR, frz, ow, nList, -forall_exists_index, fBody, fsSeq, fsIf, fsRet, fsNext, fsDrop, fsAsg, fsNever, fsFor, fsOwn, fsPar2, fsPar3, fsPar_od, fsPar_do, fsPar_oo, fVar, fC, fUn, fOp, fChain, fTup, fLst, fCall, faD, faSt, flCons, flNil, fSl, foSome, foNone, fAnd, fOr, fNot, fIf, fOfN, fn1, fnLst, fnCat, fgN, fgTup, fgCons, fgNil, fiSeq, fiRange1, fiRange2, fiEnumA, fiZip, ftOr, ftAnd, ftNot, ftB, ftT, ftYes, truD_b, truD_i, truD_l, truD_t, truD_n, gIx_t0, gIx_t1, gIx_t2, gSl_t, gSl_l, gIsT, notDict, isT, isN, tyName, gLen_t, gLen_l, gTuple_l, gCmp, gAdd_ii, gAdd_ll, PD.gSub, gNeg, gMod, seqD, forD, wipeR, gEqA, gNeA, gEq_ii, gNe_ii, gEq_tt, gIn_ints, gIn_intsL, gNotIn_ints, gNotIn_intsL, fM0, fM1, fJoined, fJ, flStar, starD, fCall0]
  exact ⟨_, gSplit_join nl_tl (by decide +kernel) h.1 h.2.1 h.2.2, z⟩
/-! the texts of guards -/
def pairS (p : Int × List Int) : Str := dg p.1 ++ ":" ++ shownS p.2
abbrev PairD (p : Int × List Int) : Prop := (0 ≤ p.1 ∧ p.1 < 10) ∧ Dgs p.2 ∧ p.2.length ≤ 6
theorem shownS_len {ns : List Int} (h : Dgs ns) (hl : ns.length ≤ 6) : (shownS ns).length ≤ 12 := by
  unfold shownS
  split
  · decide +kernel
  · refine Nat.le_trans (len_join _ _ 1 fun p hp => ?_) (by rw [List.length_map, show ("," : Str).length = 1 by decide +kernel]; omega)
    obtain ⟨x, hx, rfl⟩ := List.mem_map.mp hp
    rw [len_dg (h x hx).1 (h x hx).2]
    omega
theorem shownS_nos {ns : List Int} (h : Dgs ns) {c : Nat} (hc : c < 44 ∨ 57 < c) : c ∉ tl (shownS ns) := by
  unfold shownS
  split
  · rw [hy_tl]; simp; omega
  · refine nos_join (by rw [cm_tl]; simp; omega) fun p hp => ?_
    obtain ⟨x, hx, rfl⟩ := List.mem_map.mp hp
    exact nos_dg (h x hx).1 (h x hx).2 (by omega)
theorem shownS_low {ns : List Int} (h : Dgs ns) : ∀ c ∈ tl (shownS ns), c < 128 := by
  unfold shownS
  split
  · rw [hy_tl]; simp
  · refine low_join (by rw [cm_tl]; simp) fun p hp => ?_
    obtain ⟨x, hx, rfl⟩ := List.mem_map.mp hp
    exact low_dg (h x hx).1 (h x hx).2
theorem shownS_hy {ns : List Int} (h : Dgs ns) (hn : ns ≠ []) : shownS ns ≠ ("-" : Str) := by
  unfold shownS
  rw [if_neg hn]
  intro e
  have : (45 : Nat) ∈ tl (Txt.join "," (ns.map dg)) := by rw [e, hy_tl]; simp
  refine nos_join (c := 45) (by rw [cm_tl]; simp) (fun p hp => ?_) this
  obtain ⟨x, hx, rfl⟩ := List.mem_map.mp hp
  exact nos_dg (h x hx).1 (h x hx).2 (by omega)
theorem pairS_len {p : Int × List Int} (h : PairD p) : (pairS p).length ≤ 20 := by
  have a := len_dg h.1.1 h.1.2
  have b := shownS_len h.2.1 h.2.2
  have e : (pairS p).length = (tl (dg p.1)).length + 1 + (tl (shownS p.2)).length := by
    unfold pairS
    rw [len_tl, tl_append, tl_append, List.length_append, List.length_append, cl_tl]
    rfl
  rw [len_tl] at a b
  omega
theorem pairS_nos {p : Int × List Int} (h : PairD p) {c : Nat} (hc : c < 44 ∨ 58 < c) : c ∉ tl (pairS p) := by
  unfold pairS
  rw [tl_append, tl_append, cl_tl]
  intro z
  rcases List.mem_append.mp z with z | z
  · rcases List.mem_append.mp z with z | z
    · exact nos_dg h.1.1 h.1.2 (by omega) z
    · simp at z; omega
  · exact shownS_nos h.2.1 (by omega) z
theorem pairS_low {p : Int × List Int} (h : PairD p) : ∀ c ∈ tl (pairS p), c < 128 := by
  unfold pairS
  rw [tl_append, tl_append, cl_tl]
  intro c z
  rcases List.mem_append.mp z with z | z
  · rcases List.mem_append.mp z with z | z
    · exact low_dg h.1.1 h.1.2 c z
    · simp at z; omega
  · exact shownS_low h.2.1 c z
abbrev s_pair_in : Stmt := top 36
theorem sc_pair_in : FnScope ["word", "behind", "_", "shown"] ["word"] (defScope s_pair_in) := ⟨rfl, rfl, rfl, by decide +kernel, rfl, by decide +kernel, by decide +kernel⟩
def w_pair_in : FS := fsSeq (fsAsg (fM1 gPart (fVar 0) (fC (.str ":"))) (fgTup 3 (fgCons (fgN 1) (fgCons (fgN 2) (fgCons (fgN 3) (fgNil))))))
  (fsRet (fTup (flCons (fCall 1 W_number_in (faD (flCons (fVar 1) (flNil)))) (flCons (fIf (ftB (fOp gEqA (fVar 3) (fC (.str "-")))) (fTup (flNil)) (fCall 1 W_numbers_in (faD (flCons (fM1 gSplit (fVar 3) (fC (.str ","))) (flNil))))) (flNil)))))
theorem raw_pair_in {f : Addr} {fd : FuncData} {a_number_in : Addr} {d_number_in : FuncData} {a_numbers_in : Addr} {d_numbers_in : FuncData} (F : Fun K "_pair_in" "_pair_in" s_pair_in f fd) (T : Txt mg) (g_number_in : mg "number_in" = some (.ref a_number_in)) (g_numbers_in : mg "numbers_in" = some (.ref a_numbers_in)) (G_number_in : FnG P w K mg base (L2.CX P w) 1 a_number_in d_number_in ["word"] (spD ⟨K, w⟩ M 1 W_number_in)) (b_number_in : Binds K d_number_in ["word"] []) (k_number_in : PySem.W.keepIn K (.ref a_number_in) = true) (G_numbers_in : FnG P w K mg base (L2.CX P w) 2 a_numbers_in d_numbers_in ["words"] (spD ⟨K, w⟩ M 1 W_numbers_in)) (b_numbers_in : Binds K d_numbers_in ["words"] []) (k_numbers_in : PySem.W.keepIn K (.ref a_numbers_in) = true) : FnG P w K mg base (L2.CX P w) 3 f fd ["word"] (spD ⟨K, w⟩ M 1 (fBody 4 w_pair_in)) := by
  refine fnD F sc_pair_in fun cdv A outer s H E hgd hr => ?_
  have nd := (sc_pair_in).nd
  have hu : (A.deeper (envOfC "_pair_in" (defScope s_pair_in) s.heap.objs.size f cdv)).units + 64 < cLine := hr.units
  exact pds_cons (pds_asg (pd_m1 PySem.F.slot_str_partition PySem.F.type_str_partition mt_partition rd_part (pd_var (pv 0)) (pd_str)) (pg1_tup (pgn_cons (pg1_name (i := 1) (pg_name (i := 1) nd rfl (by first | exact Or.inl rfl | exact Or.inr rfl))) (pgn_cons (pg1_name (i := 2) (pg_name (i := 2) nd rfl (by first | exact Or.inl rfl | exact Or.inr rfl))) (pgn_cons (pg1_name (i := 3) (pg_name (i := 3) nd rfl (by first | exact Or.inl rfl | exact Or.inr rfl))) (pgn_nil) (pgs_cons (pg1_name (i := 3) (pg_name (i := 3) nd rfl (by first | exact Or.inl rfl | exact Or.inr rfl))).pg (pgn_nil).pg)) (pgs_cons (pg1_name (i := 2) (pg_name (i := 2) nd rfl (by first | exact Or.inl rfl | exact Or.inr rfl))).pg (pgn_cons (pg1_name (i := 3) (pg_name (i := 3) nd rfl (by first | exact Or.inl rfl | exact Or.inr rfl))) (pgn_nil) (pgs_cons (pg1_name (i := 3) (pg_name (i := 3) nd rfl (by first | exact Or.inl rfl | exact Or.inr rfl))).pg (pgn_nil).pg)).pg)) (pgs_cons (pg1_name (i := 1) (pg_name (i := 1) nd rfl (by first | exact Or.inl rfl | exact Or.inr rfl))).pg (pgn_cons (pg1_name (i := 2) (pg_name (i := 2) nd rfl (by first | exact Or.inl rfl | exact Or.inr rfl))) (pgn_cons (pg1_name (i := 3) (pg_name (i := 3) nd rfl (by first | exact Or.inl rfl | exact Or.inr rfl))) (pgn_nil) (pgs_cons (pg1_name (i := 3) (pg_name (i := 3) nd rfl (by first | exact Or.inl rfl | exact Or.inr rfl))).pg (pgn_nil).pg)) (pgs_cons (pg1_name (i := 2) (pg_name (i := 2) nd rfl (by first | exact Or.inl rfl | exact Or.inr rfl))).pg (pgn_cons (pg1_name (i := 3) (pg_name (i := 3) nd rfl (by first | exact Or.inl rfl | exact Or.inr rfl))) (pgn_nil) (pgs_cons (pg1_name (i := 3) (pg_name (i := 3) nd rfl (by first | exact Or.inl rfl | exact Or.inr rfl))).pg (pgn_nil).pg)).pg)).pg)) (pg_tup rfl (pgn_cons (pg1_name (i := 1) (pg_name (i := 1) nd rfl (by first | exact Or.inl rfl | exact Or.inr rfl))) (pgn_cons (pg1_name (i := 2) (pg_name (i := 2) nd rfl (by first | exact Or.inl rfl | exact Or.inr rfl))) (pgn_cons (pg1_name (i := 3) (pg_name (i := 3) nd rfl (by first | exact Or.inl rfl | exact Or.inr rfl))) (pgn_nil) (pgs_cons (pg1_name (i := 3) (pg_name (i := 3) nd rfl (by first | exact Or.inl rfl | exact Or.inr rfl))).pg (pgn_nil).pg)) (pgs_cons (pg1_name (i := 2) (pg_name (i := 2) nd rfl (by first | exact Or.inl rfl | exact Or.inr rfl))).pg (pgn_cons (pg1_name (i := 3) (pg_name (i := 3) nd rfl (by first | exact Or.inl rfl | exact Or.inr rfl))) (pgn_nil) (pgs_cons (pg1_name (i := 3) (pg_name (i := 3) nd rfl (by first | exact Or.inl rfl | exact Or.inr rfl))).pg (pgn_nil).pg)).pg)) (pgs_cons (pg1_name (i := 1) (pg_name (i := 1) nd rfl (by first | exact Or.inl rfl | exact Or.inr rfl))).pg (pgn_cons (pg1_name (i := 2) (pg_name (i := 2) nd rfl (by first | exact Or.inl rfl | exact Or.inr rfl))) (pgn_cons (pg1_name (i := 3) (pg_name (i := 3) nd rfl (by first | exact Or.inl rfl | exact Or.inr rfl))) (pgn_nil) (pgs_cons (pg1_name (i := 3) (pg_name (i := 3) nd rfl (by first | exact Or.inl rfl | exact Or.inr rfl))).pg (pgn_nil).pg)) (pgs_cons (pg1_name (i := 2) (pg_name (i := 2) nd rfl (by first | exact Or.inl rfl | exact Or.inr rfl))).pg (pgn_cons (pg1_name (i := 3) (pg_name (i := 3) nd rfl (by first | exact Or.inl rfl | exact Or.inr rfl))) (pgn_nil) (pgs_cons (pg1_name (i := 3) (pg_name (i := 3) nd rfl (by first | exact Or.inl rfl | exact Or.inr rfl))).pg (pgn_nil).pg)).pg)).pg)).pg)))
    (pds_one (pds_ret (pd_tup (pdl_cons (pd_call mW_number_in (G_number_in.mono (by decide)) hgd hr (by rfl) g_number_in k_number_in b_number_in (pda_d (pdl_cons (pd_var (pv 1)) (pdl_nil)))) (pdl_cons (pd_if (pdt_cmp (op_eqA hu) rd_eqA (pd_var (pv 3)) (pd_str) (by first | exact nomark _ | rfl)) (pd_tup (pdl_nil)) (pd_call mW_numbers_in (G_numbers_in.mono (by decide)) hgd hr (by rfl) g_numbers_in k_numbers_in b_numbers_in (pda_d (pdl_cons (pd_m1 PySem.F.slot_str_split PySem.F.type_str_split mt_split rd_split (pd_var (pv 3)) (pd_str)) (pdl_nil))))) (pdl_nil))))))
def W_pair_in : FE := fun ρ k => ∃ (p : Int × List Int), ρ.sl = [.d (.str (pairS p))] ∧ (PairD p) ∧ k (pairD p) ρ
theorem mW_pair_in (ρ : Rho) (k k' : KD) (h : ∀ d ρ', k d ρ' → k' d ρ') (q : W_pair_in ρ k) : W_pair_in ρ k' := by
  obtain ⟨p, e1, e2, e3⟩ := q
  exact ⟨p, e1, e2, h _ _ e3⟩
theorem ok_pair_in : ∀ ρ k, W_pair_in ρ k → fBody 4 w_pair_in ρ k := by
  rintro ⟨sl, n⟩ k ⟨p, e, h, z⟩
  simp only at e
  subst e
  have hp : gPart (.str (pairS p)) (.str ":") = some (.tuple [.str (dg p.1), .str ":", .str (shownS p.2)]) := by
    show (if ((":" : Str).length == 0) = false ∧ (pairS p).length ≤ sizeLine then some (PyData.tuple [.str (Txt.partition (pairS p) ":").1, .str (Txt.partition (pairS p) ":").2.1, .str (Txt.partition (pairS p) ":").2.2]) else none) = _
    have := pairS_len h
    rw [if_pos ⟨by decide +kernel, by rw [sizeLine_eq]; omega⟩]
    have e : Txt.partition (pairS p) ":" = (dg p.1, (":" : Str), shownS p.2) := partition_app cl_tl (nos_dg h.1.1 h.1.2 (by omega))
    rw [e]
  simp [w_pair_in]
  simp [and_assoc, Rho.set, dropOwn, ftLend, fLend, lendR, frz, ow, nList, -forall_exists_index, fBody, fsSeq, fsIf, fsRet, fsNext, fsDrop, fsAsg, fsNever, fsFor, fsOwn, fsPar2, fsPar3, fsPar_od, fsPar_do, fsPar_oo, fVar, fC, fUn, fOp, fChain, fTup, fLst, fCall, faD, faSt, flCons, flNil, fSl, foSome, foNone, fAnd, fOr, fNot, fIf, fOfN, fn1, fnLst, fnCat, fgN, fgTup, fgCons, fgNil, fiSeq, fiRange1, fiRange2, fiEnumA, fiZip, ftOr, ftAnd, ftNot, ftB, ftT, ftYes, truD_b, truD_i, truD_l, truD_t, truD_n, gIx_t0, gIx_t1, gIx_t2, gSl_t, gSl_l, gIsT, notDict, isT, isN, tyName, gLen_t, gLen_l, gTuple_l, gCmp, gAdd_ii, gAdd_ll, PD.gSub, gNeg, gMod, seqD, forD, wipeR, gEqA, gNeA, gEq_ii, gNe_ii, gEq_tt, gIn_ints, gIn_intsL, gNotIn_ints, gNotIn_intsL, fM0, fM1, fJoined, fJ, flStar, starD, fCall0]
  rw [hp]
  refine ⟨_, rfl, _, rfl, rfl, _, _, rfl, _, _, rfl, _, _, rfl, rfl, p.1, rfl, h.1, _, rfl, ?_⟩
  by_cases e : p.2 = []
  · refine .inr ⟨?_, ?_⟩
    · rw [e]; rfl
    · have : pairD p = .tuple [.int p.1, .tuple []] := by show PyData.tuple [.int p.1, tupI p.2] = _; rw [e]; rfl
      rw [← this]
      exact z
  · refine .inl ⟨?_, ⟨_, rfl⟩, .list ((p.2.map dg).map .str), ?_, p.2, by rw [List.map_map]; rfl, ⟨h.2.1, by have := h.2.2; omega⟩, z⟩
    · rw [decide_eq_false (shownS_hy h.2.1 e)]
    · unfold shownS
      rw [if_neg e]
      refine gSplit_join cm_tl (by decide +kernel) (by simpa using e) (fun q hq => ?_) ?_
      · obtain ⟨x, hx, rfl⟩ := List.mem_map.mp hq
        exact nos_dg (h.2.1 x hx).1 (h.2.1 x hx).2 (by omega)
      · have := shownS_len h.2.1 h.2.2
        unfold shownS at this
        rw [if_neg e] at this
        omega
/-! the text of a wish -/
def rowS (r : List Int) : Str := Txt.join " " (r.map dg)
def goodS (G : List Int) : Str := Txt.join " " ("good" :: G.map dg)
def pageW (q : Int) (T : List (List Int)) (G : List Int) : Str := Txt.join "\n" (dg q :: (T.map rowS ++ [goodS G]))
section
variable {q : Int} {T : List (List Int)} {G : List Int}
theorem WOK.rowDg (h : WOK q T G) {r : List Int} (hr : r ∈ T) : Dgs r ∧ r.length ≤ 4 := ⟨fun i hi => by
  have := (h.row r hr).2 i hi
  have := h.t6
  omega, by have := (h.row r hr).1; have := h.q4; omega⟩
theorem WOK.goodDg (h : WOK q T G) : Dgs G ∧ G.length ≤ 6 := ⟨fun i hi => by
  have := h.gr i hi
  have := h.t6
  omega, by
  have := asc_len h.gs h.gr
  have := h.t6
  omega⟩
theorem rowS_len {r : List Int} (h : Dgs r) (hl : r.length ≤ 6) : (rowS r).length ≤ 12 := by
  unfold rowS
  refine Nat.le_trans (len_join _ _ 1 fun p hp => ?_) (by rw [List.length_map, show (" " : Str).length = 1 by decide +kernel]; omega)
  obtain ⟨x, hx, rfl⟩ := List.mem_map.mp hp
  rw [len_dg (h x hx).1 (h x hx).2]
  omega
theorem rowS_nos {r : List Int} (h : Dgs r) {c : Nat} (hc : c < 32 ∨ 57 < c) : c ∉ tl (rowS r) := by
  refine nos_join (by rw [sp_tl]; simp; omega) fun p hp => ?_
  obtain ⟨x, hx, rfl⟩ := List.mem_map.mp hp
  exact nos_dg (h x hx).1 (h x hx).2 (by omega)
theorem rowS_low {r : List Int} (h : Dgs r) : ∀ c ∈ tl (rowS r), c < 128 := by
  refine low_join (by rw [sp_tl]; simp) fun p hp => ?_
  obtain ⟨x, hx, rfl⟩ := List.mem_map.mp hp
  exact low_dg (h x hx).1 (h x hx).2
theorem goodS_len (h : Dgs G) (hl : G.length ≤ 6) : (goodS G).length ≤ 40 := by
  unfold goodS
  refine Nat.le_trans (len_join _ _ 4 fun p hp => ?_) (by rw [List.length_cons, List.length_map, show (" " : Str).length = 1 by decide +kernel]; omega)
  rcases List.mem_cons.mp hp with u | u
  · subst u; decide +kernel
  · obtain ⟨x, hx, rfl⟩ := List.mem_map.mp u
    rw [len_dg (h x hx).1 (h x hx).2]
    omega
theorem goodS_nos (h : Dgs G) : 10 ∉ tl (goodS G) := by
  refine nos_join (by rw [sp_tl]; simp) fun p hp => ?_
  rcases List.mem_cons.mp hp with u | u
  · subst u; rw [go_tl]; simp
  · obtain ⟨x, hx, rfl⟩ := List.mem_map.mp u
    exact nos_dg (h x hx).1 (h x hx).2 (by omega)
theorem goodS_low (h : Dgs G) : ∀ c ∈ tl (goodS G), c < 128 := by
  refine low_join (by rw [sp_tl]; simp) fun p hp => ?_
  rcases List.mem_cons.mp hp with u | u
  · subst u; rw [go_tl]; simp
  · obtain ⟨x, hx, rfl⟩ := List.mem_map.mp u
    exact low_dg (h x hx).1 (h x hx).2
theorem page_parts (h : WOK q T G) : ∀ p ∈ dg q :: (T.map rowS ++ [goodS G]), 10 ∉ tl p ∧ p.length ≤ 40 ∧ ∀ c ∈ tl p, c < 128 := fun p hp => by
  have q1 := h.q1
  have q4 := h.q4
  rcases List.mem_cons.mp hp with u | u
  · subst u
    exact ⟨nos_dg (by omega) (by omega) (by omega), by rw [len_dg (by omega) (by omega)]; omega, low_dg (by omega) (by omega)⟩
  · rcases List.mem_append.mp u with u | u
    · obtain ⟨r, hr, rfl⟩ := List.mem_map.mp u
      have d := h.rowDg hr
      exact ⟨rowS_nos d.1 (by omega), by have := rowS_len d.1 (by omega); omega, rowS_low d.1⟩
    · obtain rfl := List.mem_singleton.mp u
      have d := h.goodDg
      exact ⟨goodS_nos d.1, goodS_len d.1 d.2, goodS_low d.1⟩
theorem pageW_len (h : WOK q T G) : (pageW q T G).length ≤ 1000 := by
  refine Nat.le_trans (len_join _ _ 40 fun p hp => (page_parts h p hp).2.1) ?_
  have := h.t6
  rw [List.length_cons, List.length_append, List.length_map, List.length_singleton, show ("\n" : Str).length = 1 by decide +kernel]
  omega
theorem pageW_low (h : WOK q T G) : PyData.strOk (pageW q T G) = true := strOk_low (low_join (by rw [nl_tl]; simp) fun p hp => (page_parts h p hp).2.2)
end
abbrev s_wish_text : Stmt := top 27
theorem sc_wish_text : FnScope ["wish", "deeds", "steps", "good", "rows", "states"] ["wish"] (defScope s_wish_text) := ⟨rfl, rfl, rfl, by decide +kernel, rfl, by decide +kernel, by decide +kernel⟩
def w_wish_text : FS := fsSeq (fsAsg (fCall 1 W_need_wish (faD (flCons (fVar 0) (flNil)))) (fgTup 3 (fgCons (fgN 1) (fgCons (fgN 2) (fgCons (fgN 3) (fgNil))))))
  (fsSeq (fsAsg (fOfN (fnComp (fiSeq (fVar 2)) (fgN 5) (ftYes) (fCall 1 W_words_text (faD (flCons (fVar 5) (flNil)))) [5])) (fgN 4))
  (fsRet (fM1 gJoin (fC (.str "\n")) (fLst (flCons (fUn gStr (fVar 1)) (flStar (fVar 4) (flCons (fCall 1 W_words_text (faD (flCons (fLst (flCons (fC (.str "good")) (flStar (fVar 3) (flNil)))) (flNil)))) (flNil))))))))
theorem raw_wish_text {f : Addr} {fd : FuncData} {a_need_wish : Addr} {d_need_wish : FuncData} {a_words_text : Addr} {d_words_text : FuncData} (F : Fun K "wish_text" "wish_text" s_wish_text f fd) (T : Txt mg) (g_need_wish : mg "need_wish" = some (.ref a_need_wish)) (g_words_text : mg "words_text" = some (.ref a_words_text)) (G_need_wish : FnG P w K mg base (L2.CX P w) 5 a_need_wish d_need_wish ["thing"] (spD ⟨K, w⟩ M 1 W_need_wish)) (b_need_wish : Binds K d_need_wish ["thing"] []) (k_need_wish : PySem.W.keepIn K (.ref a_need_wish) = true) (G_words_text : FnG P w K mg base (L2.CX P w) 1 a_words_text d_words_text ["things"] (spD ⟨K, w⟩ M 1 W_words_text)) (b_words_text : Binds K d_words_text ["things"] []) (k_words_text : PySem.W.keepIn K (.ref a_words_text) = true) : FnG P w K mg base (L2.CX P w) 6 f fd ["wish"] (spD ⟨K, w⟩ M 1 (fBody 6 w_wish_text)) := by
  refine fnD F sc_wish_text fun cdv A outer s H E hgd hr => ?_
  have nd := (sc_wish_text).nd
  have hu : (A.deeper (envOfC "wish_text" (defScope s_wish_text) s.heap.objs.size f cdv)).units + 64 < cLine := hr.units
  exact pds_cons (pds_asg (pd_call mW_need_wish (G_need_wish.mono (by decide)) hgd hr (by rfl) g_need_wish k_need_wish b_need_wish (pda_d (pdl_cons (pd_var (pv 0)) (pdl_nil)))) (pg1_tup (pgn_cons (pg1_name (i := 1) (pg_name (i := 1) nd rfl (by first | exact Or.inl rfl | exact Or.inr rfl))) (pgn_cons (pg1_name (i := 2) (pg_name (i := 2) nd rfl (by first | exact Or.inl rfl | exact Or.inr rfl))) (pgn_cons (pg1_name (i := 3) (pg_name (i := 3) nd rfl (by first | exact Or.inl rfl | exact Or.inr rfl))) (pgn_nil) (pgs_cons (pg1_name (i := 3) (pg_name (i := 3) nd rfl (by first | exact Or.inl rfl | exact Or.inr rfl))).pg (pgn_nil).pg)) (pgs_cons (pg1_name (i := 2) (pg_name (i := 2) nd rfl (by first | exact Or.inl rfl | exact Or.inr rfl))).pg (pgn_cons (pg1_name (i := 3) (pg_name (i := 3) nd rfl (by first | exact Or.inl rfl | exact Or.inr rfl))) (pgn_nil) (pgs_cons (pg1_name (i := 3) (pg_name (i := 3) nd rfl (by first | exact Or.inl rfl | exact Or.inr rfl))).pg (pgn_nil).pg)).pg)) (pgs_cons (pg1_name (i := 1) (pg_name (i := 1) nd rfl (by first | exact Or.inl rfl | exact Or.inr rfl))).pg (pgn_cons (pg1_name (i := 2) (pg_name (i := 2) nd rfl (by first | exact Or.inl rfl | exact Or.inr rfl))) (pgn_cons (pg1_name (i := 3) (pg_name (i := 3) nd rfl (by first | exact Or.inl rfl | exact Or.inr rfl))) (pgn_nil) (pgs_cons (pg1_name (i := 3) (pg_name (i := 3) nd rfl (by first | exact Or.inl rfl | exact Or.inr rfl))).pg (pgn_nil).pg)) (pgs_cons (pg1_name (i := 2) (pg_name (i := 2) nd rfl (by first | exact Or.inl rfl | exact Or.inr rfl))).pg (pgn_cons (pg1_name (i := 3) (pg_name (i := 3) nd rfl (by first | exact Or.inl rfl | exact Or.inr rfl))) (pgn_nil) (pgs_cons (pg1_name (i := 3) (pg_name (i := 3) nd rfl (by first | exact Or.inl rfl | exact Or.inr rfl))).pg (pgn_nil).pg)).pg)).pg)) (pg_tup rfl (pgn_cons (pg1_name (i := 1) (pg_name (i := 1) nd rfl (by first | exact Or.inl rfl | exact Or.inr rfl))) (pgn_cons (pg1_name (i := 2) (pg_name (i := 2) nd rfl (by first | exact Or.inl rfl | exact Or.inr rfl))) (pgn_cons (pg1_name (i := 3) (pg_name (i := 3) nd rfl (by first | exact Or.inl rfl | exact Or.inr rfl))) (pgn_nil) (pgs_cons (pg1_name (i := 3) (pg_name (i := 3) nd rfl (by first | exact Or.inl rfl | exact Or.inr rfl))).pg (pgn_nil).pg)) (pgs_cons (pg1_name (i := 2) (pg_name (i := 2) nd rfl (by first | exact Or.inl rfl | exact Or.inr rfl))).pg (pgn_cons (pg1_name (i := 3) (pg_name (i := 3) nd rfl (by first | exact Or.inl rfl | exact Or.inr rfl))) (pgn_nil) (pgs_cons (pg1_name (i := 3) (pg_name (i := 3) nd rfl (by first | exact Or.inl rfl | exact Or.inr rfl))).pg (pgn_nil).pg)).pg)) (pgs_cons (pg1_name (i := 1) (pg_name (i := 1) nd rfl (by first | exact Or.inl rfl | exact Or.inr rfl))).pg (pgn_cons (pg1_name (i := 2) (pg_name (i := 2) nd rfl (by first | exact Or.inl rfl | exact Or.inr rfl))) (pgn_cons (pg1_name (i := 3) (pg_name (i := 3) nd rfl (by first | exact Or.inl rfl | exact Or.inr rfl))) (pgn_nil) (pgs_cons (pg1_name (i := 3) (pg_name (i := 3) nd rfl (by first | exact Or.inl rfl | exact Or.inr rfl))).pg (pgn_nil).pg)) (pgs_cons (pg1_name (i := 2) (pg_name (i := 2) nd rfl (by first | exact Or.inl rfl | exact Or.inr rfl))).pg (pgn_cons (pg1_name (i := 3) (pg_name (i := 3) nd rfl (by first | exact Or.inl rfl | exact Or.inr rfl))) (pgn_nil) (pgs_cons (pg1_name (i := 3) (pg_name (i := 3) nd rfl (by first | exact Or.inl rfl | exact Or.inr rfl))).pg (pgn_nil).pg)).pg)).pg)).pg)))
    (pds_cons (pds_setLc (i := 4) rfl nd rfl rfl (sw_true rfl rfl rfl (by decide +kernel)) (own := [("states", 5)]) (vs := [5]) (pdi_seq (pd_var (pv 2))) (blkOk_by (own := [("states", 5)]) (N := ["wish", "deeds", "steps", "good", "rows", "states"]) (sc := defScope s_wish_text) (by decide +kernel)) rfl (fun _ _ _ _ _ => pg1_name (i := 5) (pg_name (i := 5) nd rfl (by first | exact Or.inl rfl | exact Or.inr rfl))) (fun _ _ _ _ _ => ptn_nil) (fun _ _ _ _ _ => pd_call mW_words_text (G_words_text.mono (by decide)) hgd hr (by rfl) g_words_text k_words_text b_words_text (pda_d (pdl_cons (pd_var (pv 5)) (pdl_nil)))) s)
    (pds_one (pds_ret (pd_m1 PySem.F.slot_str_join PySem.F.type_str_join mt_join rd_join (pd_str) (pd_lst (pdl_cons (pd_t1 call_strA r1_str (by rfl) T.str (by decide +kernel) (pd_var (pv 1))) (pdl_star (pd_var (pv 4)) (pdl_cons (pd_call mW_words_text (G_words_text.mono (by decide)) hgd hr (by rfl) g_words_text k_words_text b_words_text (pda_d (pdl_cons (pd_lst (pdl_cons (pd_str) (pdl_star (pd_var (pv 3)) (pdl_nil)))) (pdl_nil)))) (pdl_nil)))))))))
def W_wish_text : FE := fun ρ k => ∃ q T G, ρ.sl = [.d (wishD q T G)] ∧ (WOK q T G) ∧ k (.str (pageW q T G)) ρ
theorem mW_wish_text (ρ : Rho) (k k' : KD) (h : ∀ d ρ', k d ρ' → k' d ρ') (q : W_wish_text ρ k) : W_wish_text ρ k' := by
  obtain ⟨q, T, G, e1, e2, e3⟩ := q
  exact ⟨q, T, G, e1, e2, h _ _ e3⟩
theorem ok_wish_text : ∀ ρ k, W_wish_text ρ k → fBody 6 w_wish_text ρ k := by
  rintro ⟨sl, n⟩ k ⟨q, T, G, e, h, z⟩
  simp only at e
  subst e
  have t6 := h.t6
  simp [w_wish_text]
  simp [and_assoc, Rho.set, dropOwn, ftLend, fLend, lendR, frz, ow, nList, -forall_exists_index, fBody, fsSeq, fsIf, fsRet, fsNext, fsDrop, fsAsg, fsNever, fsFor, fsOwn, fsPar2, fsPar3, fsPar_od, fsPar_do, fsPar_oo, fVar, fC, fUn, fOp, fChain, fTup, fLst, fCall, faD, faSt, flCons, flNil, fSl, foSome, foNone, fAnd, fOr, fNot, fIf, fOfN, fn1, fnLst, fnCat, fgN, fgTup, fgCons, fgNil, fiSeq, fiRange1, fiRange2, fiEnumA, fiZip, ftOr, ftAnd, ftNot, ftB, ftT, ftYes, truD_b, truD_i, truD_l, truD_t, truD_n, gIx_t0, gIx_t1, gIx_t2, gSl_t, gSl_l, gIsT, notDict, isT, isN, tyName, gLen_t, gLen_l, gTuple_l, gCmp, gAdd_ii, gAdd_ll, PD.gSub, gNeg, gMod, seqD, forD, wipeR, gEqA, gNeA, gEq_ii, gNe_ii, gEq_tt, gIn_ints, gIn_intsL, gNotIn_ints, gNotIn_intsL, fM0, fM1, fJoined, fJ, flStar, starD, fCall0]
  refine ⟨q, T, G, rfl, h, _, rfl, rfl, _, _, rfl, _, _, rfl, _, _, rfl, rfl, ?_⟩
  refine fnComp_i ?_
  simp [and_assoc, Rho.set, dropOwn, ftLend, fLend, lendR, frz, ow, nList, -forall_exists_index, fBody, fsSeq, fsIf, fsRet, fsNext, fsDrop, fsAsg, fsNever, fsFor, fsOwn, fsPar2, fsPar3, fsPar_od, fsPar_do, fsPar_oo, fVar, fC, fUn, fOp, fChain, fTup, fLst, fCall, faD, faSt, flCons, flNil, fSl, foSome, foNone, fAnd, fOr, fNot, fIf, fOfN, fn1, fnLst, fnCat, fgN, fgTup, fgCons, fgNil, fiSeq, fiRange1, fiRange2, fiEnumA, fiZip, ftOr, ftAnd, ftNot, ftB, ftT, ftYes, truD_b, truD_i, truD_l, truD_t, truD_n, gIx_t0, gIx_t1, gIx_t2, gSl_t, gSl_l, gIsT, notDict, isT, isN, tyName, gLen_t, gLen_l, gTuple_l, gCmp, gAdd_ii, gAdd_ll, PD.gSub, gNeg, gMod, seqD, forD, wipeR, gEqA, gNeA, gEq_ii, gNe_ii, gEq_tt, gIn_ints, gIn_intsL, gNotIn_ints, gNotIn_intsL, fM0, fM1, fJoined, fJ, flStar, starD, fCall0]
  refine ⟨by omega, comp_all tupI (fun r => .str (rowS r)) T (fun r hr kt h3 => ?_) ?_⟩
  · have d := h.rowDg hr
    simp [and_assoc, Rho.set, dropOwn, ftLend, fLend, lendR, frz, ow, nList, -forall_exists_index, fBody, fsSeq, fsIf, fsRet, fsNext, fsDrop, fsAsg, fsNever, fsFor, fsOwn, fsPar2, fsPar3, fsPar_od, fsPar_do, fsPar_oo, fVar, fC, fUn, fOp, fChain, fTup, fLst, fCall, faD, faSt, flCons, flNil, fSl, foSome, foNone, fAnd, fOr, fNot, fIf, fOfN, fn1, fnLst, fnCat, fgN, fgTup, fgCons, fgNil, fiSeq, fiRange1, fiRange2, fiEnumA, fiZip, ftOr, ftAnd, ftNot, ftB, ftT, ftYes, truD_b, truD_i, truD_l, truD_t, truD_n, gIx_t0, gIx_t1, gIx_t2, gSl_t, gSl_l, gIsT, notDict, isT, isN, tyName, gLen_t, gLen_l, gTuple_l, gCmp, gAdd_ii, gAdd_ll, PD.gSub, gNeg, gMod, seqD, forD, wipeR, gEqA, gNeA, gEq_ii, gNe_ii, gEq_tt, gIn_ints, gIn_intsL, gNotIn_ints, gNotIn_intsL, fM0, fM1, fJoined, fJ, flStar, starD, fCall0]
    refine ⟨false, r.map .int, rfl, ⟨by rw [List.length_map]; omega, fun x hx => ?_⟩, ?_⟩
    · obtain ⟨i, hi, rfl⟩ := List.mem_map.mp hx
      exact decide_eq_true (d.1 i hi)
    · have e : Txt.join " " ((r.map PyData.int).map strOf) = rowS r := by rw [List.map_map]; rfl
      rw [e]
      exact h3 _ rfl
  · have d := h.goodDg
    refine ⟨_, gStr_int (by have := h.q1; omega) (by have := h.q4; omega), by omega, true, .str "good" :: G.map .int, rfl, ⟨by rw [List.length_cons, List.length_map]; omega, fun x hx => ?_⟩, by rw [List.length_map]; omega, _, ?_, z⟩
    · rcases List.mem_cons.mp hx with u | u
      · subst u; decide +kernel
      · obtain ⟨i, hi, rfl⟩ := List.mem_map.mp u
        exact decide_eq_true (d.1 i hi)
    · have e : (PyData.str (dg q) :: (T.map (fun r => PyData.str (rowS r)) ++ [PyData.str (Txt.join " " ((PyData.str "good" :: G.map .int).map strOf))])) = (dg q :: (T.map rowS ++ [goodS G])).map .str := by
        rw [List.map_cons (f := strOf), List.map_map, List.map_cons (f := PyData.str), List.map_append, List.map_map]
        rfl
      rw [e]
      refine gJoin_l 40 (fun p hp => (page_parts h p hp).2.1) ?_
      rw [List.length_cons, List.length_append, List.length_map, List.length_singleton, show ("\n" : Str).length = 1 by decide +kernel]
      omega
abbrev s_read_wish : Stmt := top 29
theorem sc_read_wish : FnScope ["string", "rows", "last", "wish", "row"] ["string"] (defScope s_read_wish) := ⟨rfl, rfl, rfl, by decide +kernel, rfl, by decide +kernel, by decide +kernel⟩
def w_read_wish : FS := fsSeq (fsAsg (fCall 1 W_need_rows (faD (flCons (fVar 0) (flNil)))) (fgN 1))
  (fsSeq (fsAsg (fM1 gSplit (fOp gIx (fVar 1) (fUn gNeg (fC (.int 1)))) (fC (.str " "))) (fgN 2))
  (fsSeq (fsAsg (fTup (flCons (fCall 1 W_number_in (faD (flCons (fOp gIx (fVar 1) (fC (.int 0))) (flNil)))) (flCons (fUn gTuple (fOfN (fnComp (fiSeq (fSl gSl (fVar 1) (foSome (fC (.int 1))) (foSome (fUn gNeg (fC (.int 1)))))) (fgN 4) (ftYes) (fCall 1 W_numbers_in (faD (flCons (fM1 gSplit (fVar 4) (fC (.str " "))) (flNil)))) [4]))) (flCons (fCall 1 W_numbers_in (faD (flCons (fSl gSl (fVar 2) (foSome (fC (.int 1))) (foNone)) (flNil)))) (flNil))))) (fgN 3))
  (fsSeq (fsIf (ftB (fOp gNeA (fOp gIx (fVar 2) (fC (.int 0))) (fC (.str "good")))) (fsNever) (fsNext))
  (fsRet (fCall 1 W_need_wish (faD (flCons (fVar 3) (flNil))))))))
theorem raw_read_wish {f : Addr} {fd : FuncData} {a_need_wish : Addr} {d_need_wish : FuncData} {a_number_in : Addr} {d_number_in : FuncData} {a_numbers_in : Addr} {d_numbers_in : FuncData} {a_need_rows : Addr} {d_need_rows : FuncData} (F : Fun K "read_wish" "read_wish" s_read_wish f fd) (T : Txt mg) (g_need_wish : mg "need_wish" = some (.ref a_need_wish)) (g_number_in : mg "number_in" = some (.ref a_number_in)) (g_numbers_in : mg "numbers_in" = some (.ref a_numbers_in)) (g_need_rows : mg "_need_rows" = some (.ref a_need_rows)) (G_need_wish : FnG P w K mg base (L2.CX P w) 5 a_need_wish d_need_wish ["thing"] (spD ⟨K, w⟩ M 1 W_need_wish)) (b_need_wish : Binds K d_need_wish ["thing"] []) (k_need_wish : PySem.W.keepIn K (.ref a_need_wish) = true) (G_number_in : FnG P w K mg base (L2.CX P w) 1 a_number_in d_number_in ["word"] (spD ⟨K, w⟩ M 1 W_number_in)) (b_number_in : Binds K d_number_in ["word"] []) (k_number_in : PySem.W.keepIn K (.ref a_number_in) = true) (G_numbers_in : FnG P w K mg base (L2.CX P w) 2 a_numbers_in d_numbers_in ["words"] (spD ⟨K, w⟩ M 1 W_numbers_in)) (b_numbers_in : Binds K d_numbers_in ["words"] []) (k_numbers_in : PySem.W.keepIn K (.ref a_numbers_in) = true) (G_need_rows : FnG P w K mg base (L2.CX P w) 1 a_need_rows d_need_rows ["thing"] (spD ⟨K, w⟩ M 1 W_need_rows)) (b_need_rows : Binds K d_need_rows ["thing"] []) (k_need_rows : PySem.W.keepIn K (.ref a_need_rows) = true) : FnG P w K mg base (L2.CX P w) 6 f fd ["string"] (spD ⟨K, w⟩ M 1 (fBody 5 w_read_wish)) := by
  refine fnD F sc_read_wish fun cdv A outer s H E hgd hr => ?_
  have nd := (sc_read_wish).nd
  have hu : (A.deeper (envOfC "read_wish" (defScope s_read_wish) s.heap.objs.size f cdv)).units + 64 < cLine := hr.units
  exact pds_cons (pds_asg (pd_call mW_need_rows (G_need_rows.mono (by decide)) hgd hr (by rfl) g_need_rows k_need_rows b_need_rows (pda_d (pdl_cons (pd_var (pv 0)) (pdl_nil)))) (pg1_name (i := 1) (pg_name (i := 1) nd rfl (by first | exact Or.inl rfl | exact Or.inr rfl))))
    (pds_cons (pds_asg (pd_m1 PySem.F.slot_str_split PySem.F.type_str_split mt_split rd_split (pd_ix ix_any rd_ix (pd_var (pv 1)) (pd_un un_neg r1_neg (pd_int)) (fun _ _ => rfl)) (pd_str)) (pg1_name (i := 2) (pg_name (i := 2) nd rfl (by first | exact Or.inl rfl | exact Or.inr rfl))))
    (pds_cons (pds_asg (pd_tup (pdl_cons (pd_call mW_number_in (G_number_in.mono (by decide)) hgd hr (by rfl) g_number_in k_number_in b_number_in (pda_d (pdl_cons (pd_ix ix_any rd_ix (pd_var (pv 1)) (pd_int) (fun _ _ => rfl)) (pdl_nil)))) (pdl_cons (pd_t1 call_tuple_of r1_tuple (by rfl) T.tuple (by decide +kernel) (pd_ofN (pn_lc rfl nd (own := [("row", 4)]) (vs := [4]) (pdi_seq (pd_slice (pd_var (pv 1)) (pdo_some (pd_int)) (pdo_some (pd_un un_neg r1_neg (pd_int))))) (blkOk_by (own := [("row", 4)]) (N := ["string", "rows", "last", "wish", "row"]) (sc := defScope s_read_wish) (by decide +kernel)) rfl (fun _ _ _ _ _ => pg1_name (i := 4) (pg_name (i := 4) nd rfl (by first | exact Or.inl rfl | exact Or.inr rfl))) (fun _ _ _ _ _ => ptn_nil) (fun _ _ _ _ _ => pd_call mW_numbers_in (G_numbers_in.mono (by decide)) hgd hr (by rfl) g_numbers_in k_numbers_in b_numbers_in (pda_d (pdl_cons (pd_m1 PySem.F.slot_str_split PySem.F.type_str_split mt_split rd_split (pd_var (pv 4)) (pd_str)) (pdl_nil)))) s))) (pdl_cons (pd_call mW_numbers_in (G_numbers_in.mono (by decide)) hgd hr (by rfl) g_numbers_in k_numbers_in b_numbers_in (pda_d (pdl_cons (pd_slice (pd_var (pv 2)) (pdo_some (pd_int)) (pdo_none)) (pdl_nil)))) (pdl_nil))))) (pg1_name (i := 3) (pg_name (i := 3) nd rfl (by first | exact Or.inl rfl | exact Or.inr rfl))))
    (pds_cons (pds_if (pdt_cmp (op_neA hu) rd_neA (pd_ix ix_any rd_ix (pd_var (pv 2)) (pd_int) (fun _ _ => rfl)) (pd_str) (by first | exact nomark _ | rfl)) (pds_one (pds_never)) (pds_nil))
    (pds_one (pds_try0 (pds_one (pds_ret (pd_call mW_need_wish (G_need_wish.mono (by decide)) hgd hr (by rfl) g_need_wish k_need_wish b_need_wish (pda_d (pdl_cons (pd_var (pv 3)) (pdl_nil)))))))))))
def W_read_wish : FE := fun ρ k => ∃ q T G, ρ.sl = [.d (.str (pageW q T G))] ∧ (WOK q T G) ∧ k (wishD q T G) ρ
theorem mW_read_wish (ρ : Rho) (k k' : KD) (h : ∀ d ρ', k d ρ' → k' d ρ') (q : W_read_wish ρ k) : W_read_wish ρ k' := by
  obtain ⟨q, T, G, e1, e2, e3⟩ := q
  exact ⟨q, T, G, e1, e2, h _ _ e3⟩
theorem ix_last (a : D) (l : List D) (b : D) : gIx (.list (a :: (l ++ [b]))) (.int (-1)) = some b := by
  show atI (a :: (l ++ [b])) (-1) = _
  unfold atI ixN
  have e : (a :: (l ++ [b])).length = l.length + 2 := by simp
  rw [if_neg (by decide), if_pos (by rw [e]; omega), e]
  show (a :: (l ++ [b]))[((-1 : Int) + ((l.length + 2 : Nat) : Int)).toNat]? = _
  rw [show ((-1 : Int) + ((l.length + 2 : Nat) : Int)).toNat = l.length + 1 by omega]
  simp
theorem sl_mid (a : D) (l : List D) (b : D) : gSl (.list (a :: (l ++ [b]))) (some 1) (some (-1)) = some (.list l) := by
  show some (PyData.list (PD.cutD (a :: (l ++ [b])) (some 1) (some (-1)))) = _
  have e : (a :: (l ++ [b])).length = l.length + 2 := by simp
  unfold PD.cutD
  rw [e]
  have e1 : HT.sIx (l.length + 2) 0 (some 1) = 1 := by
    simp [HT.sIx]
  have e2 : HT.sIx (l.length + 2) (l.length + 2) (some (-1)) = l.length + 1 := by
    simp [HT.sIx]
    omega
  rw [e1, e2]
  simp
theorem ok_read_wish : ∀ ρ k, W_read_wish ρ k → fBody 5 w_read_wish ρ k := by
  rintro ⟨sl, n⟩ k ⟨q, T, G, e, h, z⟩
  simp only at e
  subst e
  have t6 := h.t6
  simp [w_read_wish]
  simp [and_assoc, Rho.set, dropOwn, ftLend, fLend, lendR, frz, ow, nList, -forall_exists_index, fBody, fsSeq, fsIf, fsRet, fsNext, fsDrop, fsAsg, fsNever, fsFor, fsOwn, fsPar2, fsPar3, fsPar_od, fsPar_do, fsPar_oo, fVar, fC, fUn, fOp, fChain, fTup, fLst, fCall, faD, faSt, flCons, flNil, fSl, foSome, foNone, fAnd, fOr, fNot, fIf, fOfN, fn1, fnLst, fnCat, fgN, fgTup, fgCons, fgNil, fiSeq, fiRange1, fiRange2, fiEnumA, fiZip, ftOr, ftAnd, ftNot, ftB, ftT, ftYes, truD_b, truD_i, truD_l, truD_t, truD_n, gIx_t0, gIx_t1, gIx_t2, gSl_t, gSl_l, gIsT, notDict, isT, isN, tyName, gLen_t, gLen_l, gTuple_l, gCmp, gAdd_ii, gAdd_ll, PD.gSub, gNeg, gMod, seqD, forD, wipeR, gEqA, gNeA, gEq_ii, gNe_ii, gEq_tt, gIn_ints, gIn_intsL, gNotIn_ints, gNotIn_intsL, fM0, fM1, fJoined, fJ, flStar, starD, fCall0]
  refine ⟨dg q :: (T.map rowS ++ [goodS G]), rfl, ⟨by simp, fun p hp => (page_parts h p hp).1, by have := pageW_len h; unfold pageW at this; omega⟩, ?_⟩
  have e0 : (dg q :: (T.map rowS ++ [goodS G])).map PyData.str = .str (dg q) :: (T.map (fun r => PyData.str (rowS r)) ++ [.str (goodS G)]) := by
    rw [List.map_cons, List.map_append, List.map_map]
    rfl
  rw [e0]
  have dG := h.goodDg
  have hsp : gSplit (.str (goodS G)) (.str " ") = some (.list (.str "good" :: G.map fun i => .str (dg i))) := by
    have := gSplit_join (y := " ") (ps := "good" :: G.map dg) sp_tl (by decide +kernel) (by simp) (fun p hp => ?_) (by have := goodS_len dG.1 dG.2; unfold goodS at this; omega)
    · rw [List.map_cons, List.map_map] at this
      exact this
    · rcases List.mem_cons.mp hp with u | u
      · subst u; rw [go_tl]; simp
      · obtain ⟨x, hx, rfl⟩ := List.mem_map.mp u
        exact nos_dg (dG.1 x hx).1 (dG.1 x hx).2 (by omega)
  refine ⟨_, ix_last _ _ _, ⟨_, rfl⟩, _, hsp, _, gIx_lst (i := 0) rfl, q, rfl, ⟨by have := h.q1; omega, by have := h.q4; omega⟩, ?_⟩
  refine fnComp_i ?_
  simp [and_assoc, Rho.set, dropOwn, ftLend, fLend, lendR, frz, ow, nList, -forall_exists_index, fBody, fsSeq, fsIf, fsRet, fsNext, fsDrop, fsAsg, fsNever, fsFor, fsOwn, fsPar2, fsPar3, fsPar_od, fsPar_do, fsPar_oo, fVar, fC, fUn, fOp, fChain, fTup, fLst, fCall, faD, faSt, flCons, flNil, fSl, foSome, foNone, fAnd, fOr, fNot, fIf, fOfN, fn1, fnLst, fnCat, fgN, fgTup, fgCons, fgNil, fiSeq, fiRange1, fiRange2, fiEnumA, fiZip, ftOr, ftAnd, ftNot, ftB, ftT, ftYes, truD_b, truD_i, truD_l, truD_t, truD_n, gIx_t0, gIx_t1, gIx_t2, gSl_t, gSl_l, gIsT, notDict, isT, isN, tyName, gLen_t, gLen_l, gTuple_l, gCmp, gAdd_ii, gAdd_ll, PD.gSub, gNeg, gMod, seqD, forD, wipeR, gEqA, gNeA, gEq_ii, gNe_ii, gEq_tt, gIn_ints, gIn_intsL, gNotIn_ints, gNotIn_intsL, fM0, fM1, fJoined, fJ, flStar, starD, fCall0]
  refine ⟨_, sl_mid _ _ _, _, rfl, by rw [List.length_map]; omega, comp_all (fun r => .str (rowS r)) tupI T (fun r hr kt h3 => ?_) ?_⟩
  · have d := h.rowDg hr
    simp [and_assoc, Rho.set, dropOwn, ftLend, fLend, lendR, frz, ow, nList, -forall_exists_index, fBody, fsSeq, fsIf, fsRet, fsNext, fsDrop, fsAsg, fsNever, fsFor, fsOwn, fsPar2, fsPar3, fsPar_od, fsPar_do, fsPar_oo, fVar, fC, fUn, fOp, fChain, fTup, fLst, fCall, faD, faSt, flCons, flNil, fSl, foSome, foNone, fAnd, fOr, fNot, fIf, fOfN, fn1, fnLst, fnCat, fgN, fgTup, fgCons, fgNil, fiSeq, fiRange1, fiRange2, fiEnumA, fiZip, ftOr, ftAnd, ftNot, ftB, ftT, ftYes, truD_b, truD_i, truD_l, truD_t, truD_n, gIx_t0, gIx_t1, gIx_t2, gSl_t, gSl_l, gIsT, notDict, isT, isN, tyName, gLen_t, gLen_l, gTuple_l, gCmp, gAdd_ii, gAdd_ll, PD.gSub, gNeg, gMod, seqD, forD, wipeR, gEqA, gNeA, gEq_ii, gNe_ii, gEq_tt, gIn_ints, gIn_intsL, gNotIn_ints, gNotIn_intsL, fM0, fM1, fJoined, fJ, flStar, starD, fCall0]
    refine ⟨.list (r.map fun i => .str (dg i)), ?_, r, rfl, ⟨d.1, by omega⟩, h3 _ rfl⟩
    have := gSplit_join (y := " ") (ps := r.map dg) sp_tl (by decide +kernel) (by
        have e1 := (h.row r hr).1
        have e2 := h.q1
        intro z
        rw [List.map_eq_nil_iff.mp z] at e1
        simp at e1
        omega) (fun p hp => ?_) (by have := rowS_len d.1 (by omega); unfold rowS at this; omega)
    · rw [List.map_map] at this
      exact this
    · obtain ⟨x, hx, rfl⟩ := List.mem_map.mp hp
      exact nos_dg (d.1 x hx).1 (d.1 x hx).2 (by omega)
  · refine ⟨G, rfl, ⟨dG.1, by omega⟩, _, gIx_lst (i := 0) rfl, _, rfl, rfl, q, T, G, rfl, h, z⟩
abbrev s_guard_text : Stmt := top 28
theorem sc_guard_text : FnScope ["deeds", "guard", "behind", "shown", "memory"] ["deeds", "guard"] (defScope s_guard_text) := ⟨rfl, rfl, rfl, by decide +kernel, rfl, by decide +kernel, by decide +kernel⟩
def w_guard_text : FS := fsSeq (fsDrop (fCall 2 W_need_guard (faD (flCons (fVar 0) (flCons (fVar 1) (flNil))))))
  (fsRet (fM1 gJoin (fC (.str "\n")) (fOfN (fnComp (fiSeq (fVar 1)) (fgN 4) (ftYes) (fCall 1 W_words_text (faD (flCons (fOfN (fnComp (fiSeq (fVar 4)) (fgTup 2 (fgCons (fgN 2) (fgCons (fgN 3) (fgNil)))) (ftYes) (fJoined [fUn gFmt (fVar 2), fC (.str ":"), fUn gFmt (fCall 1 W_shown_text (faD (flCons (fVar 3) (flNil))))]) [2, 3])) (flNil)))) [4]))))
theorem raw_guard_text {f : Addr} {fd : FuncData} {a_need_guard : Addr} {d_need_guard : FuncData} {a_words_text : Addr} {d_words_text : FuncData} {a_shown_text : Addr} {d_shown_text : FuncData} (F : Fun K "guard_text" "guard_text" s_guard_text f fd) (T : Txt mg) (g_need_guard : mg "need_guard" = some (.ref a_need_guard)) (g_words_text : mg "words_text" = some (.ref a_words_text)) (g_shown_text : mg "shown_text" = some (.ref a_shown_text)) (G_need_guard : FnG P w K mg base (L2.CX P w) 5 a_need_guard d_need_guard ["deeds", "thing"] (spD ⟨K, w⟩ M 2 W_need_guard)) (b_need_guard : Binds K d_need_guard ["deeds", "thing"] []) (k_need_guard : PySem.W.keepIn K (.ref a_need_guard) = true) (G_words_text : FnG P w K mg base (L2.CX P w) 1 a_words_text d_words_text ["things"] (spD ⟨K, w⟩ M 1 W_words_text)) (b_words_text : Binds K d_words_text ["things"] []) (k_words_text : PySem.W.keepIn K (.ref a_words_text) = true) (G_shown_text : FnG P w K mg base (L2.CX P w) 1 a_shown_text d_shown_text ["shown"] (spD ⟨K, w⟩ M 1 W_shown_text)) (b_shown_text : Binds K d_shown_text ["shown"] []) (k_shown_text : PySem.W.keepIn K (.ref a_shown_text) = true) : FnG P w K mg base (L2.CX P w) 6 f fd ["deeds", "guard"] (spD ⟨K, w⟩ M 2 (fBody 5 w_guard_text)) := by
  refine fnD F sc_guard_text fun cdv A outer s H E hgd hr => ?_
  have nd := (sc_guard_text).nd
  have hu : (A.deeper (envOfC "guard_text" (defScope s_guard_text) s.heap.objs.size f cdv)).units + 64 < cLine := hr.units
  exact pds_cons (pds_expr (pd_call mW_need_guard (G_need_guard.mono (by decide)) hgd hr (by rfl) g_need_guard k_need_guard b_need_guard (pda_d (pdl_cons (pd_var (pv 0)) (pdl_cons (pd_var (pv 1)) (pdl_nil))))))
    (pds_one (pds_ret (pd_m1 PySem.F.slot_str_join PySem.F.type_str_join mt_join rd_join (pd_str) (pd_ofN (pn_lc rfl nd (own := [("memory", 4)]) (vs := [4]) (pdi_seq (pd_var (pv 1))) (blkOk_by (own := [("memory", 4)]) (N := ["deeds", "guard", "behind", "shown", "memory"]) (sc := defScope s_guard_text) (by decide +kernel)) rfl (fun _ _ _ _ _ => pg1_name (i := 4) (pg_name (i := 4) nd rfl (by first | exact Or.inl rfl | exact Or.inr rfl))) (fun _ _ _ _ _ => ptn_nil) (fun _ _ _ _ _ => pd_call mW_words_text (G_words_text.mono (by decide)) hgd hr (by rfl) g_words_text k_words_text b_words_text (pda_d (pdl_cons (pd_ofN (pn_lc rfl nd (own := [("behind", 2), ("shown", 3)]) (vs := [2, 3]) (pdi_seq (pd_var (pv 4))) (blkOk_by (own := [("behind", 2), ("shown", 3)]) (N := ["deeds", "guard", "behind", "shown", "memory"]) (sc := {kind := PySem.ScopeKind.function, names := [ (PySem.Str.ofString ".0", PySem.NameKind.local), (PySem.Str.ofString "memory", PySem.NameKind.local), (PySem.Str.ofString "words_text", PySem.NameKind.globalImplicit)], isGenerator := false, isCoroutine := false, more := [] : PySem.Scope }) (by decide +kernel)) rfl (fun _ _ _ _ _ => pg1_tup (pgn_cons (pg1_name (i := 2) (pg_name (i := 2) nd rfl (by first | exact Or.inl rfl | exact Or.inr rfl))) (pgn_cons (pg1_name (i := 3) (pg_name (i := 3) nd rfl (by first | exact Or.inl rfl | exact Or.inr rfl))) (pgn_nil) (pgs_cons (pg1_name (i := 3) (pg_name (i := 3) nd rfl (by first | exact Or.inl rfl | exact Or.inr rfl))).pg (pgn_nil).pg)) (pgs_cons (pg1_name (i := 2) (pg_name (i := 2) nd rfl (by first | exact Or.inl rfl | exact Or.inr rfl))).pg (pgn_cons (pg1_name (i := 3) (pg_name (i := 3) nd rfl (by first | exact Or.inl rfl | exact Or.inr rfl))) (pgn_nil) (pgs_cons (pg1_name (i := 3) (pg_name (i := 3) nd rfl (by first | exact Or.inl rfl | exact Or.inr rfl))).pg (pgn_nil).pg)).pg)) (pg_tup rfl (pgn_cons (pg1_name (i := 2) (pg_name (i := 2) nd rfl (by first | exact Or.inl rfl | exact Or.inr rfl))) (pgn_cons (pg1_name (i := 3) (pg_name (i := 3) nd rfl (by first | exact Or.inl rfl | exact Or.inr rfl))) (pgn_nil) (pgs_cons (pg1_name (i := 3) (pg_name (i := 3) nd rfl (by first | exact Or.inl rfl | exact Or.inr rfl))).pg (pgn_nil).pg)) (pgs_cons (pg1_name (i := 2) (pg_name (i := 2) nd rfl (by first | exact Or.inl rfl | exact Or.inr rfl))).pg (pgn_cons (pg1_name (i := 3) (pg_name (i := 3) nd rfl (by first | exact Or.inl rfl | exact Or.inr rfl))) (pgn_nil) (pgs_cons (pg1_name (i := 3) (pg_name (i := 3) nd rfl (by first | exact Or.inl rfl | exact Or.inr rfl))).pg (pgn_nil).pg)).pg)).pg)) (fun _ _ _ _ _ => ptn_nil) (fun _ _ _ _ _ => pd_joined (.cons (pd_fmt (pd_var (pv 2))) (.cons (pd_str) (.cons (pd_fmt (pd_call mW_shown_text (G_shown_text.mono (by decide)) hgd hr (by rfl) g_shown_text k_shown_text b_shown_text (pda_d (pdl_cons (pd_var (pv 3)) (pdl_nil))))) (.nil))))) s)) (pdl_nil)))) s)))))
theorem PairD.of {q : Int} {g : List (List (Int × List Int))} (h : GOK q g) {m : List (Int × List Int)} (hm : m ∈ g) {p : Int × List Int} (hp : p ∈ m) : PairD p := by
  have a := h.nx m hm p hp
  have b := h.sh m hm p hp
  have c := h.g8
  have d := h.q4
  exact ⟨by omega, fun i hi => by have := b.2 i hi; omega, b.1⟩
def memS (m : List (Int × List Int)) : Str := Txt.join " " (m.map pairS)
def pageG (g : List (List (Int × List Int))) : Str := Txt.join "\n" (g.map memS)
section
variable {q : Int} {g : List (List (Int × List Int))}
theorem memS_facts {m : List (Int × List Int)} (h : ∀ p ∈ m, PairD p) (hl : m.length ≤ 4) : 10 ∉ tl (memS m) ∧ (memS m).length ≤ 90 ∧ ∀ c ∈ tl (memS m), c < 128 := by
  refine ⟨nos_join (by rw [sp_tl]; simp) fun p hp => ?_, Nat.le_trans (len_join _ _ 20 fun p hp => ?_) (by rw [List.length_map, show (" " : Str).length = 1 by decide +kernel]; omega), low_join (by rw [sp_tl]; simp) fun p hp => ?_⟩
  · obtain ⟨x, hx, rfl⟩ := List.mem_map.mp hp
    exact pairS_nos (h x hx) (by omega)
  · obtain ⟨x, hx, rfl⟩ := List.mem_map.mp hp
    exact pairS_len (h x hx)
  · obtain ⟨x, hx, rfl⟩ := List.mem_map.mp hp
    exact pairS_low (h x hx)
theorem GOK.mem4 (h : GOK q g) {m : List (Int × List Int)} (hm : m ∈ g) : m.length ≤ 4 := by
  have := h.row m hm
  have := h.q4
  omega
theorem pageG_parts (h : GOK q g) : ∀ p ∈ g.map memS, 10 ∉ tl p ∧ p.length ≤ 90 ∧ ∀ c ∈ tl p, c < 128 := fun p hp => by
  obtain ⟨m, hm, rfl⟩ := List.mem_map.mp hp
  exact memS_facts (fun x hx => PairD.of h hm hx) (h.mem4 hm)
theorem pageG_len (h : GOK q g) : (pageG g).length ≤ 1000 := by
  refine Nat.le_trans (len_join _ _ 90 fun p hp => (pageG_parts h p hp).2.1) ?_
  have := h.g8
  rw [List.length_map, show ("\n" : Str).length = 1 by decide +kernel]
  omega
theorem pageG_low (h : GOK q g) : PyData.strOk (pageG g) = true := strOk_low (low_join (by rw [nl_tl]; simp) fun p hp => (pageG_parts h p hp).2.2)
end
def W_guard_text : FE := fun ρ k => ∃ q g, ρ.sl = [.d (.int q), .d (guardD g)] ∧ (GOK q g) ∧ k (.str (pageG g)) ρ
theorem mW_guard_text (ρ : Rho) (k k' : KD) (h : ∀ d ρ', k d ρ' → k' d ρ') (q : W_guard_text ρ k) : W_guard_text ρ k' := by
  obtain ⟨q, g, e1, e2, e3⟩ := q
  exact ⟨q, g, e1, e2, h _ _ e3⟩
theorem ok_guard_text : ∀ ρ k, W_guard_text ρ k → fBody 5 w_guard_text ρ k := by
  rintro ⟨sl, n⟩ k ⟨q, g, e, h, z⟩
  simp only at e
  subst e
  simp [w_guard_text]
  simp [and_assoc, Rho.set, dropOwn, ftLend, fLend, lendR, frz, ow, nList, -forall_exists_index, fBody, fsSeq, fsIf, fsRet, fsNext, fsDrop, fsAsg, fsNever, fsFor, fsOwn, fsPar2, fsPar3, fsPar_od, fsPar_do, fsPar_oo, fVar, fC, fUn, fOp, fChain, fTup, fLst, fCall, faD, faSt, flCons, flNil, fSl, foSome, foNone, fAnd, fOr, fNot, fIf, fOfN, fn1, fnLst, fnCat, fgN, fgTup, fgCons, fgNil, fiSeq, fiRange1, fiRange2, fiEnumA, fiZip, ftOr, ftAnd, ftNot, ftB, ftT, ftYes, truD_b, truD_i, truD_l, truD_t, truD_n, gIx_t0, gIx_t1, gIx_t2, gSl_t, gSl_l, gIsT, notDict, isT, isN, tyName, gLen_t, gLen_l, gTuple_l, gCmp, gAdd_ii, gAdd_ll, PD.gSub, gNeg, gMod, seqD, forD, wipeR, gEqA, gNeA, gEq_ii, gNe_ii, gEq_tt, gIn_ints, gIn_intsL, gNotIn_ints, gNotIn_intsL, fM0, fM1, fJoined, fJ, flStar, starD, fCall0]
  refine ⟨q, g, rfl, h, ?_⟩
  have g8 := h.g8
  refine fnComp_i ?_
  simp [and_assoc, Rho.set, dropOwn, ftLend, fLend, lendR, frz, ow, nList, -forall_exists_index, fBody, fsSeq, fsIf, fsRet, fsNext, fsDrop, fsAsg, fsNever, fsFor, fsOwn, fsPar2, fsPar3, fsPar_od, fsPar_do, fsPar_oo, fVar, fC, fUn, fOp, fChain, fTup, fLst, fCall, faD, faSt, flCons, flNil, fSl, foSome, foNone, fAnd, fOr, fNot, fIf, fOfN, fn1, fnLst, fnCat, fgN, fgTup, fgCons, fgNil, fiSeq, fiRange1, fiRange2, fiEnumA, fiZip, ftOr, ftAnd, ftNot, ftB, ftT, ftYes, truD_b, truD_i, truD_l, truD_t, truD_n, gIx_t0, gIx_t1, gIx_t2, gSl_t, gSl_l, gIsT, notDict, isT, isN, tyName, gLen_t, gLen_l, gTuple_l, gCmp, gAdd_ii, gAdd_ll, PD.gSub, gNeg, gMod, seqD, forD, wipeR, gEqA, gNeA, gEq_ii, gNe_ii, gEq_tt, gIn_ints, gIn_intsL, gNotIn_ints, gNotIn_intsL, fM0, fM1, fJoined, fJ, flStar, starD, fCall0]
  refine ⟨by omega, comp_all memD (fun m => .str (memS m)) g (fun m hm kt h3 => ?_) ?_⟩
  · have m4 := h.mem4 hm
    simp [and_assoc, Rho.set, dropOwn, ftLend, fLend, lendR, frz, ow, nList, -forall_exists_index, fBody, fsSeq, fsIf, fsRet, fsNext, fsDrop, fsAsg, fsNever, fsFor, fsOwn, fsPar2, fsPar3, fsPar_od, fsPar_do, fsPar_oo, fVar, fC, fUn, fOp, fChain, fTup, fLst, fCall, faD, faSt, flCons, flNil, fSl, foSome, foNone, fAnd, fOr, fNot, fIf, fOfN, fn1, fnLst, fnCat, fgN, fgTup, fgCons, fgNil, fiSeq, fiRange1, fiRange2, fiEnumA, fiZip, ftOr, ftAnd, ftNot, ftB, ftT, ftYes, truD_b, truD_i, truD_l, truD_t, truD_n, gIx_t0, gIx_t1, gIx_t2, gSl_t, gSl_l, gIsT, notDict, isT, isN, tyName, gLen_t, gLen_l, gTuple_l, gCmp, gAdd_ii, gAdd_ll, PD.gSub, gNeg, gMod, seqD, forD, wipeR, gEqA, gNeA, gEq_ii, gNe_ii, gEq_tt, gIn_ints, gIn_intsL, gNotIn_ints, gNotIn_intsL, fM0, fM1, fJoined, fJ, flStar, starD, fCall0]
    refine fnComp_i ?_
    simp [and_assoc, Rho.set, dropOwn, ftLend, fLend, lendR, frz, ow, nList, -forall_exists_index, fBody, fsSeq, fsIf, fsRet, fsNext, fsDrop, fsAsg, fsNever, fsFor, fsOwn, fsPar2, fsPar3, fsPar_od, fsPar_do, fsPar_oo, fVar, fC, fUn, fOp, fChain, fTup, fLst, fCall, faD, faSt, flCons, flNil, fSl, foSome, foNone, fAnd, fOr, fNot, fIf, fOfN, fn1, fnLst, fnCat, fgN, fgTup, fgCons, fgNil, fiSeq, fiRange1, fiRange2, fiEnumA, fiZip, ftOr, ftAnd, ftNot, ftB, ftT, ftYes, truD_b, truD_i, truD_l, truD_t, truD_n, gIx_t0, gIx_t1, gIx_t2, gSl_t, gSl_l, gIsT, notDict, isT, isN, tyName, gLen_t, gLen_l, gTuple_l, gCmp, gAdd_ii, gAdd_ll, PD.gSub, gNeg, gMod, seqD, forD, wipeR, gEqA, gNeA, gEq_ii, gNe_ii, gEq_tt, gIn_ints, gIn_intsL, gNotIn_ints, gNotIn_intsL, fM0, fM1, fJoined, fJ, flStar, starD, fCall0]
    refine ⟨by omega, comp_all pairD (fun p => .str (pairS p)) m (fun p hp kt2 h4 => ?_) ?_⟩
    · have d := PairD.of h hm hp
      simp [and_assoc, Rho.set, dropOwn, ftLend, fLend, lendR, frz, ow, nList, -forall_exists_index, fBody, fsSeq, fsIf, fsRet, fsNext, fsDrop, fsAsg, fsNever, fsFor, fsOwn, fsPar2, fsPar3, fsPar_od, fsPar_do, fsPar_oo, fVar, fC, fUn, fOp, fChain, fTup, fLst, fCall, faD, faSt, flCons, flNil, fSl, foSome, foNone, fAnd, fOr, fNot, fIf, fOfN, fn1, fnLst, fnCat, fgN, fgTup, fgCons, fgNil, fiSeq, fiRange1, fiRange2, fiEnumA, fiZip, ftOr, ftAnd, ftNot, ftB, ftT, ftYes, truD_b, truD_i, truD_l, truD_t, truD_n, gIx_t0, gIx_t1, gIx_t2, gSl_t, gSl_l, gIsT, notDict, isT, isN, tyName, gLen_t, gLen_l, gTuple_l, gCmp, gAdd_ii, gAdd_ll, PD.gSub, gNeg, gMod, seqD, forD, wipeR, gEqA, gNeA, gEq_ii, gNe_ii, gEq_tt, gIn_ints, gIn_intsL, gNotIn_ints, gNotIn_intsL, fM0, fM1, fJoined, fJ, flStar, starD, fCall0]
      have p1 := pairS_len d
      have e1 : Str.empty ++ dg p.1 = dg p.1 := ext_tl (by rw [tl_append]; rfl)
      have e2 : (dg p.1).length = 1 := len_dg d.1.1 d.1.2
      have e3 : (dg p.1 ++ (":" : Str)).length = 2 := by
        rw [len_tl, tl_append, List.length_append, ← len_tl, e2, cl_tl]
        rfl
      refine ⟨_, gFmt_int d.1.1 (by omega), _, rfl, ?_⟩
      rw [e1]
      refine ⟨by rw [e2, sizeLine_eq]; omega, by rw [e3, sizeLine_eq]; omega, p.2, rfl, ⟨d.2.1, by have := d.2.2; omega⟩, .str (shownS p.2), ?_, _, rfl, by show (pairS p).length ≤ _; rw [sizeLine_eq]; omega, h4 _ rfl⟩
      show (if (shownS p.2).length ≤ sizeLine then _ else _) = _
      rw [if_pos (by have := shownS_len d.2.1 d.2.2; rw [sizeLine_eq]; omega)]
    · refine ⟨true, m.map fun p => .str (pairS p), rfl, ⟨by rw [List.length_map]; omega, fun x hx => ?_⟩, ?_⟩
      · obtain ⟨p, hp, rfl⟩ := List.mem_map.mp hx
        exact decide_eq_true (by have := pairS_len (PairD.of h hm hp); omega)
      · have e : Txt.join " " ((m.map fun p => PyData.str (pairS p)).map strOf) = memS m := by rw [List.map_map]; rfl
        rw [e]
        exact h3 _ rfl
  · have e : g.map (fun m => PyData.str (memS m)) = (g.map memS).map .str := by rw [List.map_map]; rfl
    refine ⟨_, ?_, z⟩
    rw [e]
    refine gJoin_l 90 (fun p hp => (pageG_parts h p hp).2.1) ?_
    rw [List.length_map, show ("\n" : Str).length = 1 by decide +kernel]
    omega
abbrev s_read_guard : Stmt := top 30
theorem sc_read_guard : FnScope ["deeds", "string", "rows", "guard", "word", "row"] ["deeds", "string"] (defScope s_read_guard) := ⟨rfl, rfl, rfl, by decide +kernel, rfl, by decide +kernel, by decide +kernel⟩
def w_read_guard : FS := fsSeq (fsDrop (fCall 1 W_need_deeds (faD (flCons (fVar 0) (flNil)))))
  (fsSeq (fsAsg (fCall 1 W_need_rows (faD (flCons (fVar 1) (flNil)))) (fgN 2))
  (fsSeq (fsAsg (fUn gTuple (fOfN (fnComp (fiSeq (fVar 2)) (fgN 5) (ftYes) (fUn gTuple (fOfN (fnComp (fiSeq (fM1 gSplit (fVar 5) (fC (.str " ")))) (fgN 4) (ftYes) (fCall 1 W_pair_in (faD (flCons (fVar 4) (flNil)))) [4]))) [5]))) (fgN 3))
  (fsRet (fCall 2 W_need_guard (faD (flCons (fVar 0) (flCons (fVar 3) (flNil))))))))
theorem raw_read_guard {f : Addr} {fd : FuncData} {a_need_guard : Addr} {d_need_guard : FuncData} {a_need_deeds : Addr} {d_need_deeds : FuncData} {a_need_rows : Addr} {d_need_rows : FuncData} {a_pair_in : Addr} {d_pair_in : FuncData} (F : Fun K "read_guard" "read_guard" s_read_guard f fd) (T : Txt mg) (g_need_guard : mg "need_guard" = some (.ref a_need_guard)) (g_need_deeds : mg "need_deeds" = some (.ref a_need_deeds)) (g_need_rows : mg "_need_rows" = some (.ref a_need_rows)) (g_pair_in : mg "_pair_in" = some (.ref a_pair_in)) (G_need_guard : FnG P w K mg base (L2.CX P w) 5 a_need_guard d_need_guard ["deeds", "thing"] (spD ⟨K, w⟩ M 2 W_need_guard)) (b_need_guard : Binds K d_need_guard ["deeds", "thing"] []) (k_need_guard : PySem.W.keepIn K (.ref a_need_guard) = true) (G_need_deeds : FnG P w K mg base (L2.CX P w) 3 a_need_deeds d_need_deeds ["thing"] (spD ⟨K, w⟩ M 1 W_need_deeds)) (b_need_deeds : Binds K d_need_deeds ["thing"] []) (k_need_deeds : PySem.W.keepIn K (.ref a_need_deeds) = true) (G_need_rows : FnG P w K mg base (L2.CX P w) 1 a_need_rows d_need_rows ["thing"] (spD ⟨K, w⟩ M 1 W_need_rows)) (b_need_rows : Binds K d_need_rows ["thing"] []) (k_need_rows : PySem.W.keepIn K (.ref a_need_rows) = true) (G_pair_in : FnG P w K mg base (L2.CX P w) 3 a_pair_in d_pair_in ["word"] (spD ⟨K, w⟩ M 1 W_pair_in)) (b_pair_in : Binds K d_pair_in ["word"] []) (k_pair_in : PySem.W.keepIn K (.ref a_pair_in) = true) : FnG P w K mg base (L2.CX P w) 6 f fd ["deeds", "string"] (spD ⟨K, w⟩ M 2 (fBody 6 w_read_guard)) := by
  refine fnD F sc_read_guard fun cdv A outer s H E hgd hr => ?_
  have nd := (sc_read_guard).nd
  have hu : (A.deeper (envOfC "read_guard" (defScope s_read_guard) s.heap.objs.size f cdv)).units + 64 < cLine := hr.units
  exact pds_cons (pds_expr (pd_call mW_need_deeds (G_need_deeds.mono (by decide)) hgd hr (by rfl) g_need_deeds k_need_deeds b_need_deeds (pda_d (pdl_cons (pd_var (pv 0)) (pdl_nil)))))
    (pds_cons (pds_asg (pd_call mW_need_rows (G_need_rows.mono (by decide)) hgd hr (by rfl) g_need_rows k_need_rows b_need_rows (pda_d (pdl_cons (pd_var (pv 1)) (pdl_nil)))) (pg1_name (i := 2) (pg_name (i := 2) nd rfl (by first | exact Or.inl rfl | exact Or.inr rfl))))
    (pds_cons (pds_asg (pd_t1 call_tuple_of r1_tuple (by rfl) T.tuple (by decide +kernel) (pd_ofN (pn_lc rfl nd (own := [("row", 5)]) (vs := [5]) (pdi_seq (pd_var (pv 2))) (blkOk_by (own := [("row", 5)]) (N := ["deeds", "string", "rows", "guard", "word", "row"]) (sc := defScope s_read_guard) (by decide +kernel)) rfl (fun _ _ _ _ _ => pg1_name (i := 5) (pg_name (i := 5) nd rfl (by first | exact Or.inl rfl | exact Or.inr rfl))) (fun _ _ _ _ _ => ptn_nil) (fun _ _ _ _ _ => pd_t1 call_tuple_of r1_tuple (by rfl) T.tuple (by decide +kernel) (pd_ofN (pn_lc rfl nd (own := [("word", 4)]) (vs := [4]) (pdi_seq (pd_m1 PySem.F.slot_str_split PySem.F.type_str_split mt_split rd_split (pd_var (pv 5)) (pd_str))) (blkOk_by (own := [("word", 4)]) (N := ["deeds", "string", "rows", "guard", "word", "row"]) (sc := {kind := PySem.ScopeKind.function, names := [ (PySem.Str.ofString ".0", PySem.NameKind.local), (PySem.Str.ofString "row", PySem.NameKind.local), (PySem.Str.ofString "tuple", PySem.NameKind.globalImplicit)], isGenerator := false, isCoroutine := false, more := [] : PySem.Scope }) (by decide +kernel)) rfl (fun _ _ _ _ _ => pg1_name (i := 4) (pg_name (i := 4) nd rfl (by first | exact Or.inl rfl | exact Or.inr rfl))) (fun _ _ _ _ _ => ptn_nil) (fun _ _ _ _ _ => pd_call mW_pair_in (G_pair_in.mono (by decide)) hgd hr (by rfl) g_pair_in k_pair_in b_pair_in (pda_d (pdl_cons (pd_var (pv 4)) (pdl_nil)))) s))) s))) (pg1_name (i := 3) (pg_name (i := 3) nd rfl (by first | exact Or.inl rfl | exact Or.inr rfl))))
    (pds_one (pds_try0 (pds_one (pds_ret (pd_call mW_need_guard (G_need_guard.mono (by decide)) hgd hr (by rfl) g_need_guard k_need_guard b_need_guard (pda_d (pdl_cons (pd_var (pv 0)) (pdl_cons (pd_var (pv 3)) (pdl_nil)))))))))))
def W_read_guard : FE := fun ρ k => ∃ q g, ρ.sl = [.d (.int q), .d (.str (pageG g))] ∧ (GOK q g) ∧ k (guardD g) ρ
theorem mW_read_guard (ρ : Rho) (k k' : KD) (h : ∀ d ρ', k d ρ' → k' d ρ') (q : W_read_guard ρ k) : W_read_guard ρ k' := by
  obtain ⟨q, g, e1, e2, e3⟩ := q
  exact ⟨q, g, e1, e2, h _ _ e3⟩
theorem ok_read_guard : ∀ ρ k, W_read_guard ρ k → fBody 6 w_read_guard ρ k := by
  rintro ⟨sl, n⟩ k ⟨q, g, e, h, z⟩
  simp only at e
  subst e
  simp [w_read_guard]
  simp [and_assoc, Rho.set, dropOwn, ftLend, fLend, lendR, frz, ow, nList, -forall_exists_index, fBody, fsSeq, fsIf, fsRet, fsNext, fsDrop, fsAsg, fsNever, fsFor, fsOwn, fsPar2, fsPar3, fsPar_od, fsPar_do, fsPar_oo, fVar, fC, fUn, fOp, fChain, fTup, fLst, fCall, faD, faSt, flCons, flNil, fSl, foSome, foNone, fAnd, fOr, fNot, fIf, fOfN, fn1, fnLst, fnCat, fgN, fgTup, fgCons, fgNil, fiSeq, fiRange1, fiRange2, fiEnumA, fiZip, ftOr, ftAnd, ftNot, ftB, ftT, ftYes, truD_b, truD_i, truD_l, truD_t, truD_n, gIx_t0, gIx_t1, gIx_t2, gSl_t, gSl_l, gIsT, notDict, isT, isN, tyName, gLen_t, gLen_l, gTuple_l, gCmp, gAdd_ii, gAdd_ll, PD.gSub, gNeg, gMod, seqD, forD, wipeR, gEqA, gNeA, gEq_ii, gNe_ii, gEq_tt, gIn_ints, gIn_intsL, gNotIn_ints, gNotIn_intsL, fM0, fM1, fJoined, fJ, flStar, starD, fCall0]
  have g8 := h.g8
  refine ⟨q, rfl, ⟨h.q1, h.q4⟩, g.map memS, rfl, ⟨?_, fun p hp => (pageG_parts h p hp).1, by have := pageG_len h; unfold pageG at this; omega⟩, ?_⟩
  · have := h.g1
    intro z
    rw [List.map_eq_nil_iff.mp z] at this
    simp at this
  · refine fnComp_i ?_
    simp [and_assoc, Rho.set, dropOwn, ftLend, fLend, lendR, frz, ow, nList, -forall_exists_index, fBody, fsSeq, fsIf, fsRet, fsNext, fsDrop, fsAsg, fsNever, fsFor, fsOwn, fsPar2, fsPar3, fsPar_od, fsPar_do, fsPar_oo, fVar, fC, fUn, fOp, fChain, fTup, fLst, fCall, faD, faSt, flCons, flNil, fSl, foSome, foNone, fAnd, fOr, fNot, fIf, fOfN, fn1, fnLst, fnCat, fgN, fgTup, fgCons, fgNil, fiSeq, fiRange1, fiRange2, fiEnumA, fiZip, ftOr, ftAnd, ftNot, ftB, ftT, ftYes, truD_b, truD_i, truD_l, truD_t, truD_n, gIx_t0, gIx_t1, gIx_t2, gSl_t, gSl_l, gIsT, notDict, isT, isN, tyName, gLen_t, gLen_l, gTuple_l, gCmp, gAdd_ii, gAdd_ll, PD.gSub, gNeg, gMod, seqD, forD, wipeR, gEqA, gNeA, gEq_ii, gNe_ii, gEq_tt, gIn_ints, gIn_intsL, gNotIn_ints, gNotIn_intsL, fM0, fM1, fJoined, fJ, flStar, starD, fCall0]
    have e : (g.map memS).map PyData.str = g.map fun m => .str (memS m) := by rw [List.map_map]; rfl
    refine ⟨by omega, comp_all (fun m => .str (memS m)) memD g (fun m hm kt h3 => ?_) ?_⟩
    · have m4 := h.mem4 hm
      simp [and_assoc, Rho.set, dropOwn, ftLend, fLend, lendR, frz, ow, nList, -forall_exists_index, fBody, fsSeq, fsIf, fsRet, fsNext, fsDrop, fsAsg, fsNever, fsFor, fsOwn, fsPar2, fsPar3, fsPar_od, fsPar_do, fsPar_oo, fVar, fC, fUn, fOp, fChain, fTup, fLst, fCall, faD, faSt, flCons, flNil, fSl, foSome, foNone, fAnd, fOr, fNot, fIf, fOfN, fn1, fnLst, fnCat, fgN, fgTup, fgCons, fgNil, fiSeq, fiRange1, fiRange2, fiEnumA, fiZip, ftOr, ftAnd, ftNot, ftB, ftT, ftYes, truD_b, truD_i, truD_l, truD_t, truD_n, gIx_t0, gIx_t1, gIx_t2, gSl_t, gSl_l, gIsT, notDict, isT, isN, tyName, gLen_t, gLen_l, gTuple_l, gCmp, gAdd_ii, gAdd_ll, PD.gSub, gNeg, gMod, seqD, forD, wipeR, gEqA, gNeA, gEq_ii, gNe_ii, gEq_tt, gIn_ints, gIn_intsL, gNotIn_ints, gNotIn_intsL, fM0, fM1, fJoined, fJ, flStar, starD, fCall0]
      refine fnComp_i ?_
      simp [and_assoc, Rho.set, dropOwn, ftLend, fLend, lendR, frz, ow, nList, -forall_exists_index, fBody, fsSeq, fsIf, fsRet, fsNext, fsDrop, fsAsg, fsNever, fsFor, fsOwn, fsPar2, fsPar3, fsPar_od, fsPar_do, fsPar_oo, fVar, fC, fUn, fOp, fChain, fTup, fLst, fCall, faD, faSt, flCons, flNil, fSl, foSome, foNone, fAnd, fOr, fNot, fIf, fOfN, fn1, fnLst, fnCat, fgN, fgTup, fgCons, fgNil, fiSeq, fiRange1, fiRange2, fiEnumA, fiZip, ftOr, ftAnd, ftNot, ftB, ftT, ftYes, truD_b, truD_i, truD_l, truD_t, truD_n, gIx_t0, gIx_t1, gIx_t2, gSl_t, gSl_l, gIsT, notDict, isT, isN, tyName, gLen_t, gLen_l, gTuple_l, gCmp, gAdd_ii, gAdd_ll, PD.gSub, gNeg, gMod, seqD, forD, wipeR, gEqA, gNeA, gEq_ii, gNe_ii, gEq_tt, gIn_ints, gIn_intsL, gNotIn_ints, gNotIn_intsL, fM0, fM1, fJoined, fJ, flStar, starD, fCall0]
      have e4 : gSplit (.str (memS m)) (.str " ") = some (.list (m.map fun p => .str (pairS p))) := by
        have := gSplit_join (y := " ") (ps := m.map pairS) sp_tl (by decide +kernel) (by
          have e1 := h.row m hm
          have e2 := h.q1
          intro z
          rw [List.map_eq_nil_iff.mp z] at e1
          simp at e1
          omega) (fun p hp => ?_) (by have := (memS_facts (fun x hx => PairD.of h hm hx) m4).2.1; unfold memS at this; omega)
        · rw [List.map_map] at this
          exact this
        · obtain ⟨x, hx, rfl⟩ := List.mem_map.mp hp
          exact pairS_nos (PairD.of h hm hx) (by omega)
      refine ⟨_, e4, _, rfl, by rw [List.length_map]; omega, comp_all (fun p => .str (pairS p)) pairD m (fun p hp kt2 h4 => ?_) ?_⟩
      · simp [and_assoc, Rho.set, dropOwn, ftLend, fLend, lendR, frz, ow, nList, -forall_exists_index, fBody, fsSeq, fsIf, fsRet, fsNext, fsDrop, fsAsg, fsNever, fsFor, fsOwn, fsPar2, fsPar3, fsPar_od, fsPar_do, fsPar_oo, fVar, fC, fUn, fOp, fChain, fTup, fLst, fCall, faD, faSt, flCons, flNil, fSl, foSome, foNone, fAnd, fOr, fNot, fIf, fOfN, fn1, fnLst, fnCat, fgN, fgTup, fgCons, fgNil, fiSeq, fiRange1, fiRange2, fiEnumA, fiZip, ftOr, ftAnd, ftNot, ftB, ftT, ftYes, truD_b, truD_i, truD_l, truD_t, truD_n, gIx_t0, gIx_t1, gIx_t2, gSl_t, gSl_l, gIsT, notDict, isT, isN, tyName, gLen_t, gLen_l, gTuple_l, gCmp, gAdd_ii, gAdd_ll, PD.gSub, gNeg, gMod, seqD, forD, wipeR, gEqA, gNeA, gEq_ii, gNe_ii, gEq_tt, gIn_ints, gIn_intsL, gNotIn_ints, gNotIn_intsL, fM0, fM1, fJoined, fJ, flStar, starD, fCall0]
        exact ⟨p, rfl, PairD.of h hm hp, h4 _ rfl⟩
      · exact h3 _ rfl
    · exact ⟨q, g, rfl, h, z⟩
abbrev s_law_said : Stmt := top 44
theorem sc_law_said : FnScope ["some", "one"] ["some"] (defScope s_law_said) := ⟨rfl, rfl, rfl, by decide +kernel, rfl, by decide +kernel, by decide +kernel⟩
def w_law_said : FS := fsRet (fM1 gJoin (fC (.str " ")) (fOfN (fnComp (fiSeq (fVar 0)) (fgN 1) (ftYes) (fUn gStr (fVar 1)) [1])))
theorem raw_law_said {f : Addr} {fd : FuncData} (F : Fun K "_law_said" "_law_said" s_law_said f fd) (T : Txt mg) : FnG P w K mg base (L2.CX P w) 1 f fd ["some"] (spD ⟨K, w⟩ M 1 (fBody 2 w_law_said)) := by
  refine fnD F sc_law_said fun cdv A outer s H E hgd hr => ?_
  have nd := (sc_law_said).nd
  have hu : (A.deeper (envOfC "_law_said" (defScope s_law_said) s.heap.objs.size f cdv)).units + 64 < cLine := hr.units
  exact pds_one (pds_ret (pd_m1 PySem.F.slot_str_join PySem.F.type_str_join mt_join rd_join (pd_str) (pd_ofN (pn_lc rfl nd (own := [("one", 1)]) (vs := [1]) (pdi_seq (pd_var (pv 0))) (blkOk_by (own := [("one", 1)]) (N := ["some", "one"]) (sc := defScope s_law_said) (by decide +kernel)) rfl (fun _ _ _ _ _ => pg1_name (i := 1) (pg_name (i := 1) nd rfl (by first | exact Or.inl rfl | exact Or.inr rfl))) (fun _ _ _ _ _ => ptn_nil) (fun _ _ _ _ _ => pd_t1 call_strA r1_str (by rfl) T.str (by decide +kernel) (pd_var (pv 1))) s))))
def W_law_said : FE := fun ρ k => ∃ (ns : List Int), ρ.sl = [.d (tupI ns)] ∧ (Dgs ns ∧ ns.length ≤ 100) ∧ k (.str (Txt.join " " (ns.map dg))) ρ
theorem mW_law_said (ρ : Rho) (k k' : KD) (h : ∀ d ρ', k d ρ' → k' d ρ') (q : W_law_said ρ k) : W_law_said ρ k' := by
  obtain ⟨ns, e1, e2, e3⟩ := q
  exact ⟨ns, e1, e2, h _ _ e3⟩
theorem ok_law_said : ∀ ρ k, W_law_said ρ k → fBody 2 w_law_said ρ k := by
  rintro ⟨sl, n⟩ k ⟨ns, e, h, z⟩
  simp only at e
  subst e
  simp [w_law_said]
  simp [and_assoc, Rho.set, dropOwn, ftLend, fLend, lendR, frz, ow, nList, -forall_exists_index, fBody, fsSeq, fsIf, fsRet, fsNext, fsDrop, fsAsg, fsNever, fsFor, fsOwn, fsPar2, fsPar3, fsPar_od, fsPar_do, fsPar_oo, fVar, fC, fUn, fOp, fChain, fTup, fLst, fCall, faD, faSt, flCons, flNil, fSl, foSome, foNone, fAnd, fOr, fNot, fIf, fOfN, fn1, fnLst, fnCat, fgN, fgTup, fgCons, fgNil, fiSeq, fiRange1, fiRange2, fiEnumA, fiZip, ftOr, ftAnd, ftNot, ftB, ftT, ftYes, truD_b, truD_i, truD_l, truD_t, truD_n, gIx_t0, gIx_t1, gIx_t2, gSl_t, gSl_l, gIsT, notDict, isT, isN, tyName, gLen_t, gLen_l, gTuple_l, gCmp, gAdd_ii, gAdd_ll, PD.gSub, gNeg, gMod, seqD, forD, wipeR, gEqA, gNeA, gEq_ii, gNe_ii, gEq_tt, gIn_ints, gIn_intsL, gNotIn_ints, gNotIn_intsL, fM0, fM1, fJoined, fJ, flStar, starD, fCall0]
  refine ⟨_, rfl, ns.map .int, rfl, by rw [List.length_map]; omega, comp_all PyData.int (fun i => .str (dg i)) ns (fun x hx kt h3 => ?_) ?_⟩
  · simp [and_assoc, Rho.set, dropOwn, ftLend, fLend, lendR, frz, ow, nList, -forall_exists_index, fBody, fsSeq, fsIf, fsRet, fsNext, fsDrop, fsAsg, fsNever, fsFor, fsOwn, fsPar2, fsPar3, fsPar_od, fsPar_do, fsPar_oo, fVar, fC, fUn, fOp, fChain, fTup, fLst, fCall, faD, faSt, flCons, flNil, fSl, foSome, foNone, fAnd, fOr, fNot, fIf, fOfN, fn1, fnLst, fnCat, fgN, fgTup, fgCons, fgNil, fiSeq, fiRange1, fiRange2, fiEnumA, fiZip, ftOr, ftAnd, ftNot, ftB, ftT, ftYes, truD_b, truD_i, truD_l, truD_t, truD_n, gIx_t0, gIx_t1, gIx_t2, gSl_t, gSl_l, gIsT, notDict, isT, isN, tyName, gLen_t, gLen_l, gTuple_l, gCmp, gAdd_ii, gAdd_ll, PD.gSub, gNeg, gMod, seqD, forD, wipeR, gEqA, gNeA, gEq_ii, gNe_ii, gEq_tt, gIn_ints, gIn_intsL, gNotIn_ints, gNotIn_intsL, fM0, fM1, fJoined, fJ, flStar, starD, fCall0]
    exact ⟨_, gStr_int (h.1 x hx).1 (by have := (h.1 x hx).2; omega), h3 _ rfl⟩
  · exact ⟨_, join_dg (by decide +kernel) h.1 h.2, z⟩
abbrev s_law_wish_page : Stmt := top 45
theorem sc_law_wish_page : FnScope ["goal", "page", "row"] ["goal"] (defScope s_law_wish_page) := ⟨rfl, rfl, rfl, by decide +kernel, rfl, by decide +kernel, by decide +kernel⟩
def b_law_wish_page_1 : FS := fsAsg (fOp gAdd (fOp gAdd (fVar 1) (fC (.str "\n"))) (fCall 1 W_law_said (faD (flCons (fVar 2) (flNil))))) (fgN 1)
def w_law_wish_page : FS := fsSeq (fsAsg (fUn gStr (fOp gIx (fVar 0) (fC (.int 0)))) (fgN 1))
  (fsSeq (fsFor (fiSeq (fOp gIx (fVar 0) (fC (.int 1)))) (fgN 2) b_law_wish_page_1)
  (fsRet (fOp gAdd (fOp gAdd (fVar 1) (fC (.str "\ngood "))) (fCall 1 W_law_said (faD (flCons (fOp gIx (fVar 0) (fC (.int 2))) (flNil)))))))
theorem raw_law_wish_page {f : Addr} {fd : FuncData} {a_law_said : Addr} {d_law_said : FuncData} (F : Fun K "_law_wish_page" "_law_wish_page" s_law_wish_page f fd) (T : Txt mg) (g_law_said : mg "_law_said" = some (.ref a_law_said)) (G_law_said : FnG P w K mg base (L2.CX P w) 1 a_law_said d_law_said ["some"] (spD ⟨K, w⟩ M 1 W_law_said)) (b_law_said : Binds K d_law_said ["some"] []) (k_law_said : PySem.W.keepIn K (.ref a_law_said) = true) : FnG P w K mg base (L2.CX P w) 2 f fd ["goal"] (spD ⟨K, w⟩ M 1 (fBody 3 w_law_wish_page)) := by
  refine fnD F sc_law_wish_page fun cdv A outer s H E hgd hr => ?_
  have nd := (sc_law_wish_page).nd
  have hu : (A.deeper (envOfC "_law_wish_page" (defScope s_law_wish_page) s.heap.objs.size f cdv)).units + 64 < cLine := hr.units
  exact pds_cons (pds_asg (pd_t1 call_strA r1_str (by rfl) T.str (by decide +kernel) (pd_ix ix_any rd_ix (pd_var (pv 0)) (pd_int) (fun _ _ => rfl))) (pg1_name (i := 1) (pg_name (i := 1) nd rfl (by first | exact Or.inl rfl | exact Or.inr rfl))))
    (pds_cons (pds_for (fs := b_law_wish_page_1) PassesOwn.never rfl (pdi_seq (pd_ix ix_any rd_ix (pd_var (pv 0)) (pd_int) (fun _ _ => rfl))) (pg1_name (i := 2) (pg_name (i := 2) nd rfl (by first | exact Or.inl rfl | exact Or.inr rfl))) (pds_one (pds_asg (pd_op op_addA rd_add (pd_op op_addA rd_add (pd_var (pv 1)) (pd_str)) (pd_call mW_law_said (G_law_said.mono (by decide)) hgd hr (by rfl) g_law_said k_law_said b_law_said (pda_d (pdl_cons (pd_var (pv 2)) (pdl_nil))))) (pg1_name (i := 1) (pg_name (i := 1) nd rfl (by first | exact Or.inl rfl | exact Or.inr rfl))))))
    (pds_one (pds_ret (pd_op op_addA rd_add (pd_op op_addA rd_add (pd_var (pv 1)) (pd_str)) (pd_call mW_law_said (G_law_said.mono (by decide)) hgd hr (by rfl) g_law_said k_law_said b_law_said (pda_d (pdl_cons (pd_ix ix_any rd_ix (pd_var (pv 0)) (pd_int) (fun _ _ => rfl)) (pdl_nil))))))))
theorem joinL_snoc (S : List Nat) : ∀ (l : List (List Nat)) (a b : List Nat), joinL S (a :: (l ++ [b])) = joinL S (a :: l) ++ (S ++ b)
  | [], a, b => by simp [joinL]
  | c :: l, a, b => by
    show a ++ (S ++ joinL S (c :: (l ++ [b]))) = a ++ (S ++ joinL S (c :: l)) ++ (S ++ b)
    rw [joinL_snoc S l c b]
    simp
theorem join_snoc (y : Str) (l : List Str) (a b : Str) : Txt.join y (a :: (l ++ [b])) = Txt.join y (a :: l) ++ y ++ b := by
  refine ext_tl ?_
  rw [tl_append, tl_append, tl_tjoin, tl_tjoin, List.map_cons, List.map_append, List.map_cons, List.map_nil, joinL_snoc, List.map_cons]
  simp
theorem goodS_eq {G : List Int} (h : G ≠ []) (x : Str) : x ++ ("\ngood " : Str) ++ Txt.join " " (G.map dg) = x ++ "\n" ++ goodS G := by
  refine ext_tl ?_
  rw [tl_append, tl_append, tl_append, tl_append]
  have e : tl (goodS G) = [103, 111, 111, 100] ++ ([32] ++ tl (Txt.join " " (G.map dg))) := by
    unfold goodS
    rw [tl_tjoin, tl_tjoin]
    cases G with
    | nil => exact absurd rfl h
    | cons g G =>
      show tl "good" ++ (tl " " ++ joinL (tl " ") ((g :: G).map dg |>.map tl)) = _
      rw [go_tl, sp_tl]
  rw [e, show tl "\ngood " = [10, 103, 111, 111, 100, 32] by decide +kernel, nl_tl]
  simp
theorem gAdd_str {a b : Str} (h : a.length + b.length ≤ 1000000) : gAdd (.str a) (.str b) = some (.str (a ++ b)) := by
  rw [gAdd_ss, if_pos (by rw [sizeLine_eq]; omega)]
theorem len_app (a b : Str) : (a ++ b).length = a.length + b.length := by
  rw [len_tl, tl_append, List.length_append, ← len_tl, ← len_tl]
theorem wish_rows (q : Int) (d0 : D) (n : Nat) (hq : 0 ≤ q ∧ q < 10) : ∀ (rows done : List (List Int)) (x2 : Sl) (P : Post), (∀ r ∈ rows, Dgs r ∧ r.length ≤ 4) → (∀ r ∈ done, Dgs r ∧ r.length ≤ 4) → done.length + rows.length ≤ 6 →
    (∀ x2, P.nx ⟨[.d d0, .d (.str (Txt.join "\n" (dg q :: (done ++ rows).map rowS))), x2], n⟩) → forD (fgN 2) b_law_wish_page_1 (rows.map tupI) ⟨[.d d0, .d (.str (Txt.join "\n" (dg q :: done.map rowS))), x2], n⟩ P := by
  intro rows
  induction rows with
  | nil =>
    intro done x2 P _ _ _ h
    have := h x2
    rw [List.append_nil] at this
    exact this
  | cons r rows ih =>
    intro done x2 P hr hd hl h
    rw [List.length_cons] at hl
    have d := hr r List.mem_cons_self
    have hJ : (Txt.join "\n" (dg q :: done.map rowS)).length ≤ 400 := by
      refine Nat.le_trans (len_join _ _ 40 fun p hp => ?_) (by rw [List.length_cons, List.length_map, show ("\n" : Str).length = 1 by decide +kernel]; omega)
      rcases List.mem_cons.mp hp with u | u
      · subst u; rw [len_dg hq.1 hq.2]; omega
      · obtain ⟨x, hx, rfl⟩ := List.mem_map.mp u
        have := rowS_len (hd x hx).1 (by have := (hd x hx).2; omega)
        omega
    have hR := rowS_len d.1 (by omega)
    have h1 : ("\n" : Str).length = 1 := by decide +kernel
    rw [List.map_cons]
    unfold forD
    simp [b_law_wish_page_1]
    simp [and_assoc, Rho.set, dropOwn, ftLend, fLend, lendR, frz, ow, nList, -forall_exists_index, fBody, fsSeq, fsIf, fsRet, fsNext, fsDrop, fsAsg, fsNever, fsFor, fsOwn, fsPar2, fsPar3, fsPar_od, fsPar_do, fsPar_oo, fVar, fC, fUn, fOp, fChain, fTup, fLst, fCall, faD, faSt, flCons, flNil, fSl, foSome, foNone, fAnd, fOr, fNot, fIf, fOfN, fn1, fnLst, fnCat, fgN, fgTup, fgCons, fgNil, fiSeq, fiRange1, fiRange2, fiEnumA, fiZip, ftOr, ftAnd, ftNot, ftB, ftT, ftYes, truD_b, truD_i, truD_l, truD_t, truD_n, gIx_t0, gIx_t1, gIx_t2, gSl_t, gSl_l, gIsT, notDict, isT, isN, tyName, gLen_t, gLen_l, gTuple_l, gCmp, gAdd_ii, gAdd_ll, PD.gSub, gNeg, gMod, seqD, forD, wipeR, gEqA, gNeA, gEq_ii, gNe_ii, gEq_tt, gIn_ints, gIn_intsL, gNotIn_ints, gNotIn_intsL, fM0, fM1, fJoined, fJ, flStar, starD, fCall0]
    refine ⟨_, gAdd_str (by omega), r, rfl, ⟨d.1, by omega⟩, _, gAdd_str (by rw [len_app]; show _ + (rowS r).length ≤ _; omega), ?_⟩
    have e : Txt.join "\n" (dg q :: done.map rowS) ++ "\n" ++ Txt.join " " (r.map dg) = Txt.join "\n" (dg q :: (done ++ [r]).map rowS) := by
      rw [List.map_append, List.map_cons, List.map_nil, join_snoc]
      rfl
    rw [e]
    refine ih (done ++ [r]) _ P (fun x hx => hr x (List.mem_cons_of_mem _ hx)) (fun x hx => ?_) (by rw [List.length_append, List.length_singleton]; omega) fun x2 => ?_
    · rcases List.mem_append.mp hx with u | u
      · exact hd x u
      · obtain rfl := List.mem_singleton.mp u
        exact d
    · rw [List.append_assoc]
      exact h x2
def W_law_wish_page : FE := fun ρ k => ∃ q T G, ρ.sl = [.d (wishD q T G)] ∧ (WOK q T G) ∧ k (.str (pageW q T G)) ρ
theorem mW_law_wish_page (ρ : Rho) (k k' : KD) (h : ∀ d ρ', k d ρ' → k' d ρ') (q : W_law_wish_page ρ k) : W_law_wish_page ρ k' := by
  obtain ⟨q, T, G, e1, e2, e3⟩ := q
  exact ⟨q, T, G, e1, e2, h _ _ e3⟩
theorem ok_law_wish_page : ∀ ρ k, W_law_wish_page ρ k → fBody 3 w_law_wish_page ρ k := by
  rintro ⟨sl, n⟩ k ⟨q, T, G, e, h, z⟩
  simp only at e
  subst e
  simp [w_law_wish_page]
  simp [and_assoc, Rho.set, dropOwn, ftLend, fLend, lendR, frz, ow, nList, -forall_exists_index, fBody, fsSeq, fsIf, fsRet, fsNext, fsDrop, fsAsg, fsNever, fsFor, fsOwn, fsPar2, fsPar3, fsPar_od, fsPar_do, fsPar_oo, fVar, fC, fUn, fOp, fChain, fTup, fLst, fCall, faD, faSt, flCons, flNil, fSl, foSome, foNone, fAnd, fOr, fNot, fIf, fOfN, fn1, fnLst, fnCat, fgN, fgTup, fgCons, fgNil, fiSeq, fiRange1, fiRange2, fiEnumA, fiZip, ftOr, ftAnd, ftNot, ftB, ftT, ftYes, truD_b, truD_i, truD_l, truD_t, truD_n, gIx_t0, gIx_t1, gIx_t2, gSl_t, gSl_l, gIsT, notDict, isT, isN, tyName, gLen_t, gLen_l, gTuple_l, gCmp, gAdd_ii, gAdd_ll, PD.gSub, gNeg, gMod, seqD, forD, wipeR, gEqA, gNeA, gEq_ii, gNe_ii, gEq_tt, gIn_ints, gIn_intsL, gNotIn_ints, gNotIn_intsL, fM0, fM1, fJoined, fJ, flStar, starD, fCall0]
  have q1 := h.q1
  have q4 := h.q4
  have dG := h.goodDg
  refine ⟨_, gStr_int (by omega) (by omega), ?_⟩
  have e0 : dg q = Txt.join "\n" (dg q :: ([] : List (List Int)).map rowS) := by rw [join_eq]; rfl
  rw [e0]
  refine wish_rows q (wishD q T G) n ⟨by omega, by omega⟩ T [] _ _ (fun r hr => h.rowDg hr) (fun r hr => absurd hr List.not_mem_nil) (by have := h.t6; simpa using this) fun x2 => ?_
  rw [List.nil_append]
  have hp := pageW_len h
  have hJ : (Txt.join "\n" (dg q :: T.map rowS)).length ≤ 1000 := by
    unfold pageW at hp
    rw [join_snoc, len_app, len_app] at hp
    omega
  have hG : (Txt.join " " (G.map dg)).length ≤ 40 := by
    refine Nat.le_trans (len_join _ _ 4 fun p hp => ?_) (by rw [List.length_map, show (" " : Str).length = 1 by decide +kernel]; omega)
    obtain ⟨x, hx, rfl⟩ := List.mem_map.mp hp
    rw [len_dg (dG.1 x hx).1 (dG.1 x hx).2]
    omega
  have h6 : ("\ngood " : Str).length = 6 := by decide +kernel
  have g0 : G ≠ [] := fun z => by have := h.g0; rw [z] at this; cases this
  refine ⟨_, rfl, _, gAdd_str (by omega), _, rfl, _, gIx_tup (i := 2) rfl, G, rfl, ⟨dG.1, by omega⟩, _, gAdd_str (by rw [len_app]; omega), ?_⟩
  rw [goodS_eq g0, ← join_snoc]
  exact z
abbrev s_law_pair_word : Stmt := top 46
theorem sc_law_pair_word : FnScope ["pair", "there", "shown", "marks", "one"] ["pair"] (defScope s_law_pair_word) := ⟨rfl, rfl, rfl, by decide +kernel, rfl, by decide +kernel, by decide +kernel⟩
def w_law_pair_word : FS := fsSeq (fsAsg (fVar 0) (fgTup 2 (fgCons (fgN 1) (fgCons (fgN 2) (fgNil)))))
  (fsSeq (fsAsg (fM1 gJoin (fC (.str ",")) (fOfN (fnComp (fiSeq (fVar 2)) (fgN 4) (ftYes) (fUn gStr (fVar 4)) [4]))) (fgN 3))
  (fsRet (fOp gAdd (fOp gAdd (fUn gStr (fVar 1)) (fC (.str ":"))) (fIf (ftB (fOp gNeA (fVar 3) (fC (.str "")))) (fVar 3) (fC (.str "-"))))))
theorem raw_law_pair_word {f : Addr} {fd : FuncData} (F : Fun K "_law_pair_word" "_law_pair_word" s_law_pair_word f fd) (T : Txt mg) : FnG P w K mg base (L2.CX P w) 1 f fd ["pair"] (spD ⟨K, w⟩ M 1 (fBody 5 w_law_pair_word)) := by
  refine fnD F sc_law_pair_word fun cdv A outer s H E hgd hr => ?_
  have nd := (sc_law_pair_word).nd
  have hu : (A.deeper (envOfC "_law_pair_word" (defScope s_law_pair_word) s.heap.objs.size f cdv)).units + 64 < cLine := hr.units
  exact pds_cons (pds_asg (pd_var (pv 0)) (pg1_tup (pgn_cons (pg1_name (i := 1) (pg_name (i := 1) nd rfl (by first | exact Or.inl rfl | exact Or.inr rfl))) (pgn_cons (pg1_name (i := 2) (pg_name (i := 2) nd rfl (by first | exact Or.inl rfl | exact Or.inr rfl))) (pgn_nil) (pgs_cons (pg1_name (i := 2) (pg_name (i := 2) nd rfl (by first | exact Or.inl rfl | exact Or.inr rfl))).pg (pgn_nil).pg)) (pgs_cons (pg1_name (i := 1) (pg_name (i := 1) nd rfl (by first | exact Or.inl rfl | exact Or.inr rfl))).pg (pgn_cons (pg1_name (i := 2) (pg_name (i := 2) nd rfl (by first | exact Or.inl rfl | exact Or.inr rfl))) (pgn_nil) (pgs_cons (pg1_name (i := 2) (pg_name (i := 2) nd rfl (by first | exact Or.inl rfl | exact Or.inr rfl))).pg (pgn_nil).pg)).pg)) (pg_tup rfl (pgn_cons (pg1_name (i := 1) (pg_name (i := 1) nd rfl (by first | exact Or.inl rfl | exact Or.inr rfl))) (pgn_cons (pg1_name (i := 2) (pg_name (i := 2) nd rfl (by first | exact Or.inl rfl | exact Or.inr rfl))) (pgn_nil) (pgs_cons (pg1_name (i := 2) (pg_name (i := 2) nd rfl (by first | exact Or.inl rfl | exact Or.inr rfl))).pg (pgn_nil).pg)) (pgs_cons (pg1_name (i := 1) (pg_name (i := 1) nd rfl (by first | exact Or.inl rfl | exact Or.inr rfl))).pg (pgn_cons (pg1_name (i := 2) (pg_name (i := 2) nd rfl (by first | exact Or.inl rfl | exact Or.inr rfl))) (pgn_nil) (pgs_cons (pg1_name (i := 2) (pg_name (i := 2) nd rfl (by first | exact Or.inl rfl | exact Or.inr rfl))).pg (pgn_nil).pg)).pg)).pg)))
    (pds_cons (pds_asg (pd_m1 PySem.F.slot_str_join PySem.F.type_str_join mt_join rd_join (pd_str) (pd_ofN (pn_lc rfl nd (own := [("one", 4)]) (vs := [4]) (pdi_seq (pd_var (pv 2))) (blkOk_by (own := [("one", 4)]) (N := ["pair", "there", "shown", "marks", "one"]) (sc := defScope s_law_pair_word) (by decide +kernel)) rfl (fun _ _ _ _ _ => pg1_name (i := 4) (pg_name (i := 4) nd rfl (by first | exact Or.inl rfl | exact Or.inr rfl))) (fun _ _ _ _ _ => ptn_nil) (fun _ _ _ _ _ => pd_t1 call_strA r1_str (by rfl) T.str (by decide +kernel) (pd_var (pv 4))) s))) (pg1_name (i := 3) (pg_name (i := 3) nd rfl (by first | exact Or.inl rfl | exact Or.inr rfl))))
    (pds_one (pds_ret (pd_op op_addA rd_add (pd_op op_addA rd_add (pd_t1 call_strA r1_str (by rfl) T.str (by decide +kernel) (pd_var (pv 1))) (pd_str)) (pd_if (pdt_cmp (op_neA hu) rd_neA (pd_var (pv 3)) (pd_str) (by first | exact nomark _ | rfl)) (pd_var (pv 3)) (pd_str))))))
def W_law_pair_word : FE := fun ρ k => ∃ (p : Int × List Int), ρ.sl = [.d (pairD p)] ∧ (PairD p) ∧ k (.str (pairS p)) ρ
theorem mW_law_pair_word (ρ : Rho) (k k' : KD) (h : ∀ d ρ', k d ρ' → k' d ρ') (q : W_law_pair_word ρ k) : W_law_pair_word ρ k' := by
  obtain ⟨p, e1, e2, e3⟩ := q
  exact ⟨p, e1, e2, h _ _ e3⟩
theorem join_ne {ns : List Int} (h : Dgs ns) (hn : ns ≠ []) : Txt.join "," (ns.map dg) ≠ ("" : Str) := by
  intro e
  have e := congrArg tl e
  rw [tl_tjoin, show tl "" = [] by decide +kernel] at e
  cases ns with
  | nil => exact hn rfl
  | cons i ns =>
    have d := tl_dg (h i List.mem_cons_self).1 (h i List.mem_cons_self).2
    cases ns with
    | nil =>
      have e : tl (dg i) = [] := e
      rw [d] at e
      cases e
    | cons j ns =>
      have e : tl (dg i) ++ _ = [] := e
      rw [d] at e
      cases e
theorem ok_law_pair_word : ∀ ρ k, W_law_pair_word ρ k → fBody 5 w_law_pair_word ρ k := by
  rintro ⟨sl, n⟩ k ⟨p, e, h, z⟩
  simp only at e
  subst e
  simp [w_law_pair_word]
  simp [and_assoc, Rho.set, dropOwn, ftLend, fLend, lendR, frz, ow, nList, -forall_exists_index, fBody, fsSeq, fsIf, fsRet, fsNext, fsDrop, fsAsg, fsNever, fsFor, fsOwn, fsPar2, fsPar3, fsPar_od, fsPar_do, fsPar_oo, fVar, fC, fUn, fOp, fChain, fTup, fLst, fCall, faD, faSt, flCons, flNil, fSl, foSome, foNone, fAnd, fOr, fNot, fIf, fOfN, fn1, fnLst, fnCat, fgN, fgTup, fgCons, fgNil, fiSeq, fiRange1, fiRange2, fiEnumA, fiZip, ftOr, ftAnd, ftNot, ftB, ftT, ftYes, truD_b, truD_i, truD_l, truD_t, truD_n, gIx_t0, gIx_t1, gIx_t2, gSl_t, gSl_l, gIsT, notDict, isT, isN, tyName, gLen_t, gLen_l, gTuple_l, gCmp, gAdd_ii, gAdd_ll, PD.gSub, gNeg, gMod, seqD, forD, wipeR, gEqA, gNeA, gEq_ii, gNe_ii, gEq_tt, gIn_ints, gIn_intsL, gNotIn_ints, gNotIn_intsL, fM0, fM1, fJoined, fJ, flStar, starD, fCall0]
  refine fnComp_i ?_
  simp [and_assoc, Rho.set, dropOwn, ftLend, fLend, lendR, frz, ow, nList, -forall_exists_index, fBody, fsSeq, fsIf, fsRet, fsNext, fsDrop, fsAsg, fsNever, fsFor, fsOwn, fsPar2, fsPar3, fsPar_od, fsPar_do, fsPar_oo, fVar, fC, fUn, fOp, fChain, fTup, fLst, fCall, faD, faSt, flCons, flNil, fSl, foSome, foNone, fAnd, fOr, fNot, fIf, fOfN, fn1, fnLst, fnCat, fgN, fgTup, fgCons, fgNil, fiSeq, fiRange1, fiRange2, fiEnumA, fiZip, ftOr, ftAnd, ftNot, ftB, ftT, ftYes, truD_b, truD_i, truD_l, truD_t, truD_n, gIx_t0, gIx_t1, gIx_t2, gSl_t, gSl_l, gIsT, notDict, isT, isN, tyName, gLen_t, gLen_l, gTuple_l, gCmp, gAdd_ii, gAdd_ll, PD.gSub, gNeg, gMod, seqD, forD, wipeR, gEqA, gNeA, gEq_ii, gNe_ii, gEq_tt, gIn_ints, gIn_intsL, gNotIn_ints, gNotIn_intsL, fM0, fM1, fJoined, fJ, flStar, starD, fCall0]
  have h1 : (":" : Str).length = 1 := by decide +kernel
  have hd := len_dg h.1.1 h.1.2
  have hs := shownS_len h.2.1 h.2.2
  refine ⟨by have := h.2.2; omega, comp_all PyData.int (fun i => .str (dg i)) p.2 (fun x hx kt h3 => ?_) ?_⟩
  · simp [and_assoc, Rho.set, dropOwn, ftLend, fLend, lendR, frz, ow, nList, -forall_exists_index, fBody, fsSeq, fsIf, fsRet, fsNext, fsDrop, fsAsg, fsNever, fsFor, fsOwn, fsPar2, fsPar3, fsPar_od, fsPar_do, fsPar_oo, fVar, fC, fUn, fOp, fChain, fTup, fLst, fCall, faD, faSt, flCons, flNil, fSl, foSome, foNone, fAnd, fOr, fNot, fIf, fOfN, fn1, fnLst, fnCat, fgN, fgTup, fgCons, fgNil, fiSeq, fiRange1, fiRange2, fiEnumA, fiZip, ftOr, ftAnd, ftNot, ftB, ftT, ftYes, truD_b, truD_i, truD_l, truD_t, truD_n, gIx_t0, gIx_t1, gIx_t2, gSl_t, gSl_l, gIsT, notDict, isT, isN, tyName, gLen_t, gLen_l, gTuple_l, gCmp, gAdd_ii, gAdd_ll, PD.gSub, gNeg, gMod, seqD, forD, wipeR, gEqA, gNeA, gEq_ii, gNe_ii, gEq_tt, gIn_ints, gIn_intsL, gNotIn_ints, gNotIn_intsL, fM0, fM1, fJoined, fJ, flStar, starD, fCall0]
    exact ⟨_, gStr_int (h.2.1 x hx).1 (by have := (h.2.1 x hx).2; omega), h3 _ rfl⟩
  · refine ⟨_, join_dg (by decide +kernel) h.2.1 (by have := h.2.2; omega), _, gStr_int h.1.1 (by have := h.1.2; omega), _, gAdd_str (by omega), _, rfl, ?_⟩
    by_cases e : p.2 = []
    · have hh : ("-" : Str).length = 1 := by decide +kernel
      refine .inl ⟨?_, _, gAdd_str (by rw [len_app, hd, h1]; omega), ?_⟩
      · rw [e]
        have : Txt.join "," (([] : List Int).map dg) = ("" : Str) := by decide +kernel
        rw [decide_eq_true this]
        rfl
      · have : dg p.1 ++ ":" ++ "-" = pairS p := by unfold pairS shownS; rw [if_pos e]
        rw [this]
        exact z
    · have e2 : shownS p.2 = Txt.join "," (p.2.map dg) := by unfold shownS; rw [if_neg e]
      refine .inr ⟨?_, _, gAdd_str (by rw [len_app, hd, h1, ← e2]; omega), ?_⟩
      · rw [decide_eq_false (join_ne h.2.1 e)]
        rfl
      · have : dg p.1 ++ ":" ++ Txt.join "," (p.2.map dg) = pairS p := by unfold pairS; rw [e2]
        rw [this]
        exact z
abbrev s_law_guard_page : Stmt := top 47
theorem sc_law_guard_page : FnScope ["ward", "rows", "pair", "row"] ["ward"] (defScope s_law_guard_page) := ⟨rfl, rfl, rfl, by decide +kernel, rfl, by decide +kernel, by decide +kernel⟩
def w_law_guard_page : FS := fsSeq (fsAsg (fOfN (fnComp (fiSeq (fVar 0)) (fgN 3) (ftYes) (fM1 gJoin (fC (.str " ")) (fOfN (fnComp (fiSeq (fVar 3)) (fgN 2) (ftYes) (fCall 1 W_law_pair_word (faD (flCons (fVar 2) (flNil)))) [2]))) [3])) (fgN 1))
  (fsRet (fM1 gJoin (fC (.str "\n")) (fVar 1)))
theorem raw_law_guard_page {f : Addr} {fd : FuncData} {a_law_pair_word : Addr} {d_law_pair_word : FuncData} (F : Fun K "_law_guard_page" "_law_guard_page" s_law_guard_page f fd) (T : Txt mg) (g_law_pair_word : mg "_law_pair_word" = some (.ref a_law_pair_word)) (G_law_pair_word : FnG P w K mg base (L2.CX P w) 1 a_law_pair_word d_law_pair_word ["pair"] (spD ⟨K, w⟩ M 1 W_law_pair_word)) (b_law_pair_word : Binds K d_law_pair_word ["pair"] []) (k_law_pair_word : PySem.W.keepIn K (.ref a_law_pair_word) = true) : FnG P w K mg base (L2.CX P w) 2 f fd ["ward"] (spD ⟨K, w⟩ M 1 (fBody 4 w_law_guard_page)) := by
  refine fnD F sc_law_guard_page fun cdv A outer s H E hgd hr => ?_
  have nd := (sc_law_guard_page).nd
  have hu : (A.deeper (envOfC "_law_guard_page" (defScope s_law_guard_page) s.heap.objs.size f cdv)).units + 64 < cLine := hr.units
  exact pds_cons (pds_setLc (i := 1) rfl nd rfl rfl (sw_true rfl rfl rfl (by decide +kernel)) (own := [("row", 3)]) (vs := [3]) (pdi_seq (pd_var (pv 0))) (blkOk_by (own := [("row", 3)]) (N := ["ward", "rows", "pair", "row"]) (sc := defScope s_law_guard_page) (by decide +kernel)) rfl (fun _ _ _ _ _ => pg1_name (i := 3) (pg_name (i := 3) nd rfl (by first | exact Or.inl rfl | exact Or.inr rfl))) (fun _ _ _ _ _ => ptn_nil) (fun _ _ _ _ _ => pd_m1 PySem.F.slot_str_join PySem.F.type_str_join mt_join rd_join (pd_str) (pd_ofN (pn_lc rfl nd (own := [("pair", 2)]) (vs := [2]) (pdi_seq (pd_var (pv 3))) (blkOk_by (own := [("pair", 2)]) (N := ["ward", "rows", "pair", "row"]) (sc := {kind := PySem.ScopeKind.function, names := [(PySem.Str.ofString ".0", PySem.NameKind.local), (PySem.Str.ofString "row", PySem.NameKind.local)], isGenerator := false, isCoroutine := false, more := [] : PySem.Scope }) (by decide +kernel)) rfl (fun _ _ _ _ _ => pg1_name (i := 2) (pg_name (i := 2) nd rfl (by first | exact Or.inl rfl | exact Or.inr rfl))) (fun _ _ _ _ _ => ptn_nil) (fun _ _ _ _ _ => pd_call mW_law_pair_word (G_law_pair_word.mono (by decide)) hgd hr (by rfl) g_law_pair_word k_law_pair_word b_law_pair_word (pda_d (pdl_cons (pd_var (pv 2)) (pdl_nil)))) s))) s)
    (pds_one (pds_ret (pd_m1 PySem.F.slot_str_join PySem.F.type_str_join mt_join rd_join (pd_str) (pd_var (pv 1)))))
def W_law_guard_page : FE := fun ρ k => ∃ (q : Int) (g : List (List (Int × List Int))), ρ.sl = [.d (guardD g)] ∧ (GOK q g) ∧ k (.str (pageG g)) ρ
theorem mW_law_guard_page (ρ : Rho) (k k' : KD) (h : ∀ d ρ', k d ρ' → k' d ρ') (q : W_law_guard_page ρ k) : W_law_guard_page ρ k' := by
  obtain ⟨q, g, e1, e2, e3⟩ := q
  exact ⟨q, g, e1, e2, h _ _ e3⟩
theorem ok_law_guard_page : ∀ ρ k, W_law_guard_page ρ k → fBody 4 w_law_guard_page ρ k := by
  rintro ⟨sl, n⟩ k ⟨q, g, e, h, z⟩
  simp only at e
  subst e
  simp [w_law_guard_page]
  simp [and_assoc, Rho.set, dropOwn, ftLend, fLend, lendR, frz, ow, nList, -forall_exists_index, fBody, fsSeq, fsIf, fsRet, fsNext, fsDrop, fsAsg, fsNever, fsFor, fsOwn, fsPar2, fsPar3, fsPar_od, fsPar_do, fsPar_oo, fVar, fC, fUn, fOp, fChain, fTup, fLst, fCall, faD, faSt, flCons, flNil, fSl, foSome, foNone, fAnd, fOr, fNot, fIf, fOfN, fn1, fnLst, fnCat, fgN, fgTup, fgCons, fgNil, fiSeq, fiRange1, fiRange2, fiEnumA, fiZip, ftOr, ftAnd, ftNot, ftB, ftT, ftYes, truD_b, truD_i, truD_l, truD_t, truD_n, gIx_t0, gIx_t1, gIx_t2, gSl_t, gSl_l, gIsT, notDict, isT, isN, tyName, gLen_t, gLen_l, gTuple_l, gCmp, gAdd_ii, gAdd_ll, PD.gSub, gNeg, gMod, seqD, forD, wipeR, gEqA, gNeA, gEq_ii, gNe_ii, gEq_tt, gIn_ints, gIn_intsL, gNotIn_ints, gNotIn_intsL, fM0, fM1, fJoined, fJ, flStar, starD, fCall0]
  have g8 := h.g8
  refine fnComp_i ?_
  simp [and_assoc, Rho.set, dropOwn, ftLend, fLend, lendR, frz, ow, nList, -forall_exists_index, fBody, fsSeq, fsIf, fsRet, fsNext, fsDrop, fsAsg, fsNever, fsFor, fsOwn, fsPar2, fsPar3, fsPar_od, fsPar_do, fsPar_oo, fVar, fC, fUn, fOp, fChain, fTup, fLst, fCall, faD, faSt, flCons, flNil, fSl, foSome, foNone, fAnd, fOr, fNot, fIf, fOfN, fn1, fnLst, fnCat, fgN, fgTup, fgCons, fgNil, fiSeq, fiRange1, fiRange2, fiEnumA, fiZip, ftOr, ftAnd, ftNot, ftB, ftT, ftYes, truD_b, truD_i, truD_l, truD_t, truD_n, gIx_t0, gIx_t1, gIx_t2, gSl_t, gSl_l, gIsT, notDict, isT, isN, tyName, gLen_t, gLen_l, gTuple_l, gCmp, gAdd_ii, gAdd_ll, PD.gSub, gNeg, gMod, seqD, forD, wipeR, gEqA, gNeA, gEq_ii, gNe_ii, gEq_tt, gIn_ints, gIn_intsL, gNotIn_ints, gNotIn_intsL, fM0, fM1, fJoined, fJ, flStar, starD, fCall0]
  refine ⟨by omega, comp_all memD (fun m => .str (memS m)) g (fun m hm kt h3 => ?_) ?_⟩
  · have m4 := h.mem4 hm
    simp [and_assoc, Rho.set, dropOwn, ftLend, fLend, lendR, frz, ow, nList, -forall_exists_index, fBody, fsSeq, fsIf, fsRet, fsNext, fsDrop, fsAsg, fsNever, fsFor, fsOwn, fsPar2, fsPar3, fsPar_od, fsPar_do, fsPar_oo, fVar, fC, fUn, fOp, fChain, fTup, fLst, fCall, faD, faSt, flCons, flNil, fSl, foSome, foNone, fAnd, fOr, fNot, fIf, fOfN, fn1, fnLst, fnCat, fgN, fgTup, fgCons, fgNil, fiSeq, fiRange1, fiRange2, fiEnumA, fiZip, ftOr, ftAnd, ftNot, ftB, ftT, ftYes, truD_b, truD_i, truD_l, truD_t, truD_n, gIx_t0, gIx_t1, gIx_t2, gSl_t, gSl_l, gIsT, notDict, isT, isN, tyName, gLen_t, gLen_l, gTuple_l, gCmp, gAdd_ii, gAdd_ll, PD.gSub, gNeg, gMod, seqD, forD, wipeR, gEqA, gNeA, gEq_ii, gNe_ii, gEq_tt, gIn_ints, gIn_intsL, gNotIn_ints, gNotIn_intsL, fM0, fM1, fJoined, fJ, flStar, starD, fCall0]
    refine fnComp_i ?_
    simp [and_assoc, Rho.set, dropOwn, ftLend, fLend, lendR, frz, ow, nList, -forall_exists_index, fBody, fsSeq, fsIf, fsRet, fsNext, fsDrop, fsAsg, fsNever, fsFor, fsOwn, fsPar2, fsPar3, fsPar_od, fsPar_do, fsPar_oo, fVar, fC, fUn, fOp, fChain, fTup, fLst, fCall, faD, faSt, flCons, flNil, fSl, foSome, foNone, fAnd, fOr, fNot, fIf, fOfN, fn1, fnLst, fnCat, fgN, fgTup, fgCons, fgNil, fiSeq, fiRange1, fiRange2, fiEnumA, fiZip, ftOr, ftAnd, ftNot, ftB, ftT, ftYes, truD_b, truD_i, truD_l, truD_t, truD_n, gIx_t0, gIx_t1, gIx_t2, gSl_t, gSl_l, gIsT, notDict, isT, isN, tyName, gLen_t, gLen_l, gTuple_l, gCmp, gAdd_ii, gAdd_ll, PD.gSub, gNeg, gMod, seqD, forD, wipeR, gEqA, gNeA, gEq_ii, gNe_ii, gEq_tt, gIn_ints, gIn_intsL, gNotIn_ints, gNotIn_intsL, fM0, fM1, fJoined, fJ, flStar, starD, fCall0]
    refine ⟨by omega, comp_all pairD (fun p => .str (pairS p)) m (fun p hp kt2 h4 => ?_) ?_⟩
    · simp [and_assoc, Rho.set, dropOwn, ftLend, fLend, lendR, frz, ow, nList, -forall_exists_index, fBody, fsSeq, fsIf, fsRet, fsNext, fsDrop, fsAsg, fsNever, fsFor, fsOwn, fsPar2, fsPar3, fsPar_od, fsPar_do, fsPar_oo, fVar, fC, fUn, fOp, fChain, fTup, fLst, fCall, faD, faSt, flCons, flNil, fSl, foSome, foNone, fAnd, fOr, fNot, fIf, fOfN, fn1, fnLst, fnCat, fgN, fgTup, fgCons, fgNil, fiSeq, fiRange1, fiRange2, fiEnumA, fiZip, ftOr, ftAnd, ftNot, ftB, ftT, ftYes, truD_b, truD_i, truD_l, truD_t, truD_n, gIx_t0, gIx_t1, gIx_t2, gSl_t, gSl_l, gIsT, notDict, isT, isN, tyName, gLen_t, gLen_l, gTuple_l, gCmp, gAdd_ii, gAdd_ll, PD.gSub, gNeg, gMod, seqD, forD, wipeR, gEqA, gNeA, gEq_ii, gNe_ii, gEq_tt, gIn_ints, gIn_intsL, gNotIn_ints, gNotIn_intsL, fM0, fM1, fJoined, fJ, flStar, starD, fCall0]
      exact ⟨p, rfl, PairD.of h hm hp, h4 _ rfl⟩
    · have e : m.map (fun p => PyData.str (pairS p)) = (m.map pairS).map .str := by rw [List.map_map]; rfl
      have e5 : gJoin (.str " ") (.list (m.map fun p => PyData.str (pairS p))) = some (.str (memS m)) := by
        rw [e]
        refine gJoin_l 20 (fun p hp => ?_) (by rw [List.length_map, show (" " : Str).length = 1 by decide +kernel]; omega)
        obtain ⟨x, hx, rfl⟩ := List.mem_map.mp hp
        exact pairS_len (PairD.of h hm hx)
      exact ⟨_, e5, h3 _ rfl⟩
  · have e : g.map (fun m => PyData.str (memS m)) = (g.map memS).map .str := by rw [List.map_map]; rfl
    refine ⟨_, ?_, z⟩
    rw [e]
    refine gJoin_l 90 (fun p hp => (pageG_parts h p hp).2.1) ?_
    rw [List.length_map, show ("\n" : Str).length = 1 by decide +kernel]
    omega
abbrev s_law_of : Stmt := top 40
theorem sc_law_of : FnScope ["m", "some"] ["m", "some"] (defScope s_law_of) := ⟨rfl, rfl, rfl, by decide +kernel, rfl, by decide +kernel, by decide +kernel⟩
def w_law_of : FS := fsRet (fOp gIx (fVar 1) (fCall 2 W_law_next (faSt 0 (flCons (fUn gLen (fVar 1)) (flNil)))))
theorem raw_law_of {f : Addr} {fd : FuncData} {a_law_next : Addr} {d_law_next : FuncData} (F : Fun K "_law_of" "_law_of" s_law_of f fd) (T : Txt mg) (g_law_next : mg "_law_next" = some (.ref a_law_next)) (G_law_next : FnG P w K mg base (L2.CX P w) 1 a_law_next d_law_next ["m", "total"] (spD ⟨K, w⟩ M 2 W_law_next)) (b_law_next : Binds K d_law_next ["m", "total"] []) (k_law_next : PySem.W.keepIn K (.ref a_law_next) = true) : FnG P w K mg base (L2.CX P w) 2 f fd ["m", "some"] (spD ⟨K, w⟩ M 2 (fBody 2 w_law_of)) := by
  refine fnD F sc_law_of fun cdv A outer s H E hgd hr => ?_
  have nd := (sc_law_of).nd
  have hu : (A.deeper (envOfC "_law_of" (defScope s_law_of) s.heap.objs.size f cdv)).units + 64 < cLine := hr.units
  exact pds_one (pds_ret (pd_ix ix_any rd_ix (pd_var (pv 1)) (pd_call mW_law_next (G_law_next.mono (by decide)) hgd hr (by rfl) g_law_next k_law_next b_law_next (pda_st (pv 0) (pdl_cons (pd_b1 call_lenA r1_len (by rfl) T.len (by decide +kernel) (pd_var (pv 1))) (pdl_nil)))) (fun _ _ => rfl)))
def W_law_of : FE := fun ρ k => ∃ xs : List D, ρ.sl = [.st, .d (.list xs)] ∧ xs ≠ [] ∧ xs.length ≤ 1000 ∧ ρ.n + 1 ≤ 1000000000000 ∧ ∀ x ∈ xs, ∀ nn, nn ≤ ρ.n + 1 → k x ⟨ρ.sl, nn⟩
theorem mW_law_of (ρ : Rho) (k k' : KD) (h : ∀ d ρ', k d ρ' → k' d ρ') (q : W_law_of ρ k) : W_law_of ρ k' := by
  obtain ⟨xs, e1, e2, e3, e4, e5⟩ := q
  exact ⟨xs, e1, e2, e3, e4, fun x hx nn hn => h _ _ (e5 x hx nn hn)⟩
theorem ok_law_of : ∀ ρ k, W_law_of ρ k → fBody 2 w_law_of ρ k := by
  rintro ⟨sl, n⟩ k ⟨xs, e, h1, h2, h3, z⟩
  simp only at e h3 z
  subst e
  have hp := List.length_pos_iff.mpr h1
  simp [w_law_of]
  simp [and_assoc, Rho.set, dropOwn, ftLend, fLend, lendR, frz, ow, nList, -forall_exists_index, fBody, fsSeq, fsIf, fsRet, fsNext, fsDrop, fsAsg, fsNever, fsFor, fsOwn, fsPar2, fsPar3, fsPar_od, fsPar_do, fsPar_oo, fVar, fC, fUn, fOp, fChain, fTup, fLst, fCall, faD, faSt, flCons, flNil, fSl, foSome, foNone, fAnd, fOr, fNot, fIf, fOfN, fn1, fnLst, fnCat, fgN, fgTup, fgCons, fgNil, fiSeq, fiRange1, fiRange2, fiEnumA, fiZip, ftOr, ftAnd, ftNot, ftB, ftT, ftYes, truD_b, truD_i, truD_l, truD_t, truD_n, gIx_t0, gIx_t1, gIx_t2, gSl_t, gSl_l, gIsT, notDict, isT, isN, tyName, gLen_t, gLen_l, gTuple_l, gCmp, gAdd_ii, gAdd_ll, PD.gSub, gNeg, gMod, seqD, forD, wipeR, gEqA, gNeA, gEq_ii, gNe_ii, gEq_tt, gIn_ints, gIn_intsL, gNotIn_ints, gNotIn_intsL, fM0, fM1, fJoined, fJ, flStar, starD, fCall0]
  refine ⟨xs.length, rfl, by omega, by omega, by simp; omega, fun r r0 r1 => ?_⟩
  obtain ⟨i, rfl⟩ := Int.eq_ofNat_of_zero_le r0
  have hi : i < xs.length := by omega
  exact ⟨_, gIx_lst (List.getElem?_eq_getElem hi), z _ (List.getElem_mem hi) _ (Nat.le_refl _)⟩
abbrev s_law_goal : Stmt := top 41
theorem sc_law_goal : FnScope ["m", "acts", "most", "count", "many", "rows", "k", "act", "good"] ["m", "acts", "most"] (defScope s_law_goal) := ⟨rfl, rfl, rfl, by decide +kernel, rfl, by decide +kernel, by decide +kernel⟩
def b_law_goal_1 : FS := (fun ρ P => (∃ xs : List D, ρ.sl[5]? = some (Sl.own xs)) ∧ fsApp 5 (fUn gTuple (fOfN (fnComp (fiRange1 (flCons (fVar 3) (flNil))) (fgN 7) (ftYes) (fCall 2 W_law_next (faSt 0 (flCons (fVar 4) (flNil)))) [7]))) ρ P)
def w_law_goal : FS := fsSeq (fsAsg (fTup (flCons (fOp gAdd (fC (.int 1)) (fCall 2 W_law_next (faSt 0 (flCons (fVar 1) (flNil))))) (flCons (fOp gAdd (fC (.int 1)) (fCall 2 W_law_next (faSt 0 (flCons (fVar 2) (flNil))))) (flNil)))) (fgTup 2 (fgCons (fgN 3) (fgCons (fgN 4) (fgNil)))))
  (fsSeq (fsOwn 5 (fnLst (flNil)))
  (fsSeq (fsFor (fiRange1 (flCons (fVar 4) (flNil))) (fgN 6) b_law_goal_1)
  (fsSeq (fsAsg (fOfN (fnComp (fiRange2 (flCons (fC (.int 1)) (flCons (fVar 4) (flNil)))) (fgN 6) (ftB (fOp gEqA (fCall 2 W_law_next (faSt 0 (flCons (fC (.int 2)) (flNil)))) (fC (.int 0)))) (fVar 6) [6])) (fgN 8))
  ((fun ρ P => (fsRet (fTup (flCons (fVar 3) (flCons (fUn gTuple (fVar 5)) (flCons (fOp gAdd (fTup (flCons (fC (.int 0)) (flNil))) (fUn gTuple (fVar 8))) (flNil)))))) (frz 5 ρ) P)))))
theorem raw_law_goal {f : Addr} {fd : FuncData} {a_law_next : Addr} {d_law_next : FuncData} (F : Fun K "_law_goal" "_law_goal" s_law_goal f fd) (T : Txt mg) (g_law_next : mg "_law_next" = some (.ref a_law_next)) (G_law_next : FnG P w K mg base (L2.CX P w) 1 a_law_next d_law_next ["m", "total"] (spD ⟨K, w⟩ M 2 W_law_next)) (b_law_next : Binds K d_law_next ["m", "total"] []) (k_law_next : PySem.W.keepIn K (.ref a_law_next) = true) : FnG P w K mg base (L2.CX P w) 2 f fd ["m", "acts", "most"] (spD ⟨K, w⟩ M 3 (fBody 9 w_law_goal)) := by
  refine fnD F sc_law_goal fun cdv A outer s H E hgd hr => ?_
  have nd := (sc_law_goal).nd
  have hu : (A.deeper (envOfC "_law_goal" (defScope s_law_goal) s.heap.objs.size f cdv)).units + 64 < cLine := hr.units
  exact pds_cons (pds_asg (pd_tup (pdl_cons (pd_op op_addA rd_add (pd_int) (pd_call mW_law_next (G_law_next.mono (by decide)) hgd hr (by rfl) g_law_next k_law_next b_law_next (pda_st (pv 0) (pdl_cons (pd_var (pv 1)) (pdl_nil))))) (pdl_cons (pd_op op_addA rd_add (pd_int) (pd_call mW_law_next (G_law_next.mono (by decide)) hgd hr (by rfl) g_law_next k_law_next b_law_next (pda_st (pv 0) (pdl_cons (pd_var (pv 2)) (pdl_nil))))) (pdl_nil)))) (pg1_tup (pgn_cons (pg1_name (i := 3) (pg_name (i := 3) nd rfl (by first | exact Or.inl rfl | exact Or.inr rfl))) (pgn_cons (pg1_name (i := 4) (pg_name (i := 4) nd rfl (by first | exact Or.inl rfl | exact Or.inr rfl))) (pgn_nil) (pgs_cons (pg1_name (i := 4) (pg_name (i := 4) nd rfl (by first | exact Or.inl rfl | exact Or.inr rfl))).pg (pgn_nil).pg)) (pgs_cons (pg1_name (i := 3) (pg_name (i := 3) nd rfl (by first | exact Or.inl rfl | exact Or.inr rfl))).pg (pgn_cons (pg1_name (i := 4) (pg_name (i := 4) nd rfl (by first | exact Or.inl rfl | exact Or.inr rfl))) (pgn_nil) (pgs_cons (pg1_name (i := 4) (pg_name (i := 4) nd rfl (by first | exact Or.inl rfl | exact Or.inr rfl))).pg (pgn_nil).pg)).pg)) (pg_tup rfl (pgn_cons (pg1_name (i := 3) (pg_name (i := 3) nd rfl (by first | exact Or.inl rfl | exact Or.inr rfl))) (pgn_cons (pg1_name (i := 4) (pg_name (i := 4) nd rfl (by first | exact Or.inl rfl | exact Or.inr rfl))) (pgn_nil) (pgs_cons (pg1_name (i := 4) (pg_name (i := 4) nd rfl (by first | exact Or.inl rfl | exact Or.inr rfl))).pg (pgn_nil).pg)) (pgs_cons (pg1_name (i := 3) (pg_name (i := 3) nd rfl (by first | exact Or.inl rfl | exact Or.inr rfl))).pg (pgn_cons (pg1_name (i := 4) (pg_name (i := 4) nd rfl (by first | exact Or.inl rfl | exact Or.inr rfl))) (pgn_nil) (pgs_cons (pg1_name (i := 4) (pg_name (i := 4) nd rfl (by first | exact Or.inl rfl | exact Or.inr rfl))).pg (pgn_nil).pg)).pg)).pg)))
    (pds_cons (pds_own (i := 5) (pn_lst (pdl_nil)) (pg_name (i := 5) nd rfl (by first | exact Or.inl rfl | exact Or.inr rfl)))
    (pds_cons (pds_for (fs := b_law_goal_1) PassesOwn.never rfl (pdi_range1 (by rfl) T.range (pdl_cons (pd_var (pv 4)) (pdl_nil))) (pg1_name (i := 6) (pg_name (i := 6) nd rfl (by first | exact Or.inl rfl | exact Or.inr rfl))) (pds_one (pds_app (i := 5) (pd_t1 call_tuple_of r1_tuple (by rfl) T.tuple (by decide +kernel) (pd_ofN (pn_lc rfl nd (own := [("act", 7)]) (vs := [7]) (pdi_range1 (by rfl) T.range (pdl_cons (pd_var (pv 3)) (pdl_nil))) (blkOk_by (own := [("act", 7)]) (N := ["m", "acts", "most", "count", "many", "rows", "k", "act", "good"]) (sc := defScope s_law_goal) (by decide +kernel)) rfl (fun _ _ _ _ _ => pg1_name (i := 7) (pg_name (i := 7) nd rfl (by first | exact Or.inl rfl | exact Or.inr rfl))) (fun _ _ _ _ _ => ptn_nil) (fun _ _ _ _ _ => pd_call mW_law_next (G_law_next.mono (by decide)) hgd hr (by rfl) g_law_next k_law_next b_law_next (pda_st (pv 0) (pdl_cons (pd_var (pv 4)) (pdl_nil)))) s))) (pe_bm PySem.F.plainAttrs_list PySem.F.slot_list_append PySem.F.type_list_append mt_append (pv 5) (pa_cons (pd_t1 call_tuple_of r1_tuple (by rfl) T.tuple (by decide +kernel) (pd_ofN (pn_lc rfl nd (own := [("act", 7)]) (vs := [7]) (pdi_range1 (by rfl) T.range (pdl_cons (pd_var (pv 3)) (pdl_nil))) (blkOk_by (own := [("act", 7)]) (N := ["m", "acts", "most", "count", "many", "rows", "k", "act", "good"]) (sc := defScope s_law_goal) (by decide +kernel)) rfl (fun _ _ _ _ _ => pg1_name (i := 7) (pg_name (i := 7) nd rfl (by first | exact Or.inl rfl | exact Or.inr rfl))) (fun _ _ _ _ _ => ptn_nil) (fun _ _ _ _ _ => pd_call mW_law_next (G_law_next.mono (by decide)) hgd hr (by rfl) g_law_next k_law_next b_law_next (pda_st (pv 0) (pdl_cons (pd_var (pv 4)) (pdl_nil)))) s))).pe pa_nil)))))
    (pds_cons (pds_setLc (i := 8) rfl nd rfl rfl (sw_true rfl rfl rfl (by decide +kernel)) (own := [("k", 6)]) (vs := [6]) (pdi_range2 (by rfl) T.range (pdl_cons (pd_int) (pdl_cons (pd_var (pv 4)) (pdl_nil)))) (blkOk_by (own := [("k", 6)]) (N := ["m", "acts", "most", "count", "many", "rows", "k", "act", "good"]) (sc := defScope s_law_goal) (by decide +kernel)) rfl (fun _ _ _ _ _ => pg1_name (i := 6) (pg_name (i := 6) nd rfl (by first | exact Or.inl rfl | exact Or.inr rfl))) (fun _ _ _ _ _ => ptn_one (pdt_cmp (op_eqA hu) rd_eqA (pd_call mW_law_next (G_law_next.mono (by decide)) hgd hr (by rfl) g_law_next k_law_next b_law_next (pda_st (pv 0) (pdl_cons (pd_int) (pdl_nil)))) (pd_int) (by first | exact nomark _ | rfl))) (fun _ _ _ _ _ => pd_var (pv 6)) s)
    (pds_one (pds_frz1 5 (pds_ret (pd_tup (pdl_cons (pd_var (pv 3)) (pdl_cons (pd_t1 call_tuple_of r1_tuple (by rfl) T.tuple (by decide +kernel) (pd_var (pv 5))) (pdl_cons (pd_op op_addA rd_add (pd_tup (pdl_cons (pd_int) (pdl_nil))) (pd_t1 call_tuple_of r1_tuple (by rfl) T.tuple (by decide +kernel) (pd_var (pv 8)))) (pdl_nil)))))))))))
theorem goal_rows (a b : Nat) (ha : a ≤ 4) (hb : b ≤ 6) (hb1 : 1 ≤ b) (s1 s2 s8 : Sl) : ∀ (js : List Nat) (Tc : List (List Int)) (n : Nat) (x6 x7 : Sl) (P : Post), n + js.length * 4 < 1000000000000 → Tc.length ≤ 1000 →
    (∀ r ∈ Tc, r.length = a ∧ ∀ x ∈ r, 0 ≤ x ∧ x < (b : Int)) →
    (∀ (Tf : List (List Int)) (n' : Nat) (x6 x7 : Sl), (∀ r ∈ Tf, r.length = a ∧ ∀ x ∈ r, 0 ≤ x ∧ x < (b : Int)) → Tf.length = Tc.length + js.length → n' ≤ n + js.length * 4 → P.nx ⟨[.st, s1, s2, .d (.int a), .d (.int b), .own (.l (Tf.map tupI)), x6, x7, s8], n'⟩) →
    Tc.length + js.length ≤ 1000 →
    forD (fgN 6) b_law_goal_1 (js.map fun i : Nat => PyData.int (i : Int)) ⟨[.st, s1, s2, .d (.int a), .d (.int b), .own (.l (Tc.map tupI)), x6, x7, s8], n⟩ P := by
  intro js
  induction js with
  | nil => intro Tc n x6 x7 P _ _ hT h _; exact h Tc n x6 x7 hT (by simp) (by simp)
  | cons j js ih =>
    intro Tc n x6 x7 P hn hl hT h hk
    rw [List.length_cons, Nat.succ_mul] at hn
    rw [List.length_cons] at hk
    rw [List.map_cons]
    unfold forD
    simp only [b_law_goal_1]
    simp [and_assoc, Rho.set, dropOwn, ftLend, fLend, lendR, frz, ow, nList, -forall_exists_index, fBody, fsSeq, fsIf, fsRet, fsNext, fsDrop, fsAsg, fsNever, fsFor, fsOwn, fsPar2, fsPar_od, fsPar_do, fsPar_oo, fVar, fC, fUn, fOp, fChain, fTup, fLst, fCall, faD, faSt, flCons, flNil, fSl, foSome, foNone, fAnd, fOr, fNot, fIf, fOfN, fn1, fnLst, fnCat, fgN, fgTup, fgCons, fgNil, fiSeq, fiRange1, fiRange2, fiEnumA, fiZip, ftOr, ftAnd, ftNot, ftB, ftT, ftYes, truD_b, truD_i, truD_l, truD_t, truD_n, gIx_t0, gIx_t1, gIx_t2, gSl_t, gSl_l, gIsT, notDict, isT, isN, tyName, gLen_t, gLen_l, gTuple_l, gCmp, gAdd_ii, gAdd_ss, gAdd_tt, gAdd_ll, PD.gSub, gNeg, gMod, seqD, forD, wipeR, gEqA, gNeA, gEq_ii, gNe_ii, gEq_tt, gIn_ints, gIn_intsL, gNotIn_ints, gNotIn_intsL]
    refine fsApp_i ?_
    simp [and_assoc, Rho.set, dropOwn, ftLend, fLend, lendR, frz, ow, nList, -forall_exists_index, fBody, fsSeq, fsIf, fsRet, fsNext, fsDrop, fsAsg, fsNever, fsFor, fsOwn, fsPar2, fsPar_od, fsPar_do, fsPar_oo, fVar, fC, fUn, fOp, fChain, fTup, fLst, fCall, faD, faSt, flCons, flNil, fSl, foSome, foNone, fAnd, fOr, fNot, fIf, fOfN, fn1, fnLst, fnCat, fgN, fgTup, fgCons, fgNil, fiSeq, fiRange1, fiRange2, fiEnumA, fiZip, ftOr, ftAnd, ftNot, ftB, ftT, ftYes, truD_b, truD_i, truD_l, truD_t, truD_n, gIx_t0, gIx_t1, gIx_t2, gSl_t, gSl_l, gIsT, notDict, isT, isN, tyName, gLen_t, gLen_l, gTuple_l, gCmp, gAdd_ii, gAdd_ss, gAdd_tt, gAdd_ll, PD.gSub, gNeg, gMod, seqD, forD, wipeR, gEqA, gNeA, gEq_ii, gNe_ii, gEq_tt, gIn_ints, gIn_intsL, gNotIn_ints, gNotIn_intsL]
    refine fnComp_i ?_
    simp [and_assoc, Rho.set, dropOwn, ftLend, fLend, lendR, frz, ow, nList, -forall_exists_index, fBody, fsSeq, fsIf, fsRet, fsNext, fsDrop, fsAsg, fsNever, fsFor, fsOwn, fsPar2, fsPar_od, fsPar_do, fsPar_oo, fVar, fC, fUn, fOp, fChain, fTup, fLst, fCall, faD, faSt, flCons, flNil, fSl, foSome, foNone, fAnd, fOr, fNot, fIf, fOfN, fn1, fnLst, fnCat, fgN, fgTup, fgCons, fgNil, fiSeq, fiRange1, fiRange2, fiEnumA, fiZip, ftOr, ftAnd, ftNot, ftB, ftT, ftYes, truD_b, truD_i, truD_l, truD_t, truD_n, gIx_t0, gIx_t1, gIx_t2, gSl_t, gSl_l, gIsT, notDict, isT, isN, tyName, gLen_t, gLen_l, gTuple_l, gCmp, gAdd_ii, gAdd_ss, gAdd_tt, gAdd_ll, PD.gSub, gNeg, gMod, seqD, forD, wipeR, gEqA, gNeA, gEq_ii, gNe_ii, gEq_tt, gIn_ints, gIn_intsL, gNotIn_ints, gNotIn_intsL]
    rw [rangeD_nat]
    refine ⟨by omega, by rw [List.length_map, List.length_range]; omega, comp_draw (fun i : Nat => PyData.int (i : Int)) b (n + 4) _ (List.range a) [] n (by rw [List.length_range]; omega) (fun i hi n' hn' kt hk => ?_) fun rs hl hr => ?_⟩
    · simp [and_assoc, Rho.set, dropOwn, ftLend, fLend, lendR, frz, ow, fsApp, nList, -forall_exists_index, fBody, fsSeq, fsIf, fsRet, fsNext, fsDrop, fsAsg, fsNever, fsFor, fsOwn, fsPar2, fsPar_od, fsPar_do, fsPar_oo, fVar, fC, fUn, fOp, fChain, fTup, fLst, fCall, faD, faSt, flCons, flNil, fSl, foSome, foNone, fAnd, fOr, fNot, fIf, fOfN, fn1, fnLst, fnCat, fgN, fgTup, fgCons, fgNil, fiSeq, fiRange1, fiRange2, fiEnumA, fiZip, ftOr, ftAnd, ftNot, ftB, ftT, ftYes, truD_b, truD_i, truD_l, truD_t, truD_n, gIx_t0, gIx_t1, gIx_t2, gSl_t, gSl_l, gIsT, notDict, isT, isN, tyName, gLen_t, gLen_l, gTuple_l, gCmp, gAdd_ii, gAdd_ss, gAdd_tt, gAdd_ll, PD.gSub, gNeg, gMod, seqD, forD, wipeR, gEqA, gNeA, gEq_ii, gNe_ii, gEq_tt, gIn_ints, gIn_intsL, gNotIn_ints, gNotIn_intsL]
      refine ⟨b, rfl, by omega, by omega, by simp; omega, fun r h0 h1 => ?_⟩
      exact hk r h0 h1 _ rfl
    · rw [List.length_range] at hl
      rw [List.nil_append, List.length_range]
      simp [and_assoc, Rho.set, dropOwn, ftLend, fLend, lendR, frz, ow, nList, -forall_exists_index, fBody, fsSeq, fsIf, fsRet, fsNext, fsDrop, fsAsg, fsNever, fsFor, fsOwn, fsPar2, fsPar_od, fsPar_do, fsPar_oo, fVar, fC, fUn, fOp, fChain, fTup, fLst, fCall, faD, faSt, flCons, flNil, fSl, foSome, foNone, fAnd, fOr, fNot, fIf, fOfN, fn1, fnLst, fnCat, fgN, fgTup, fgCons, fgNil, fiSeq, fiRange1, fiRange2, fiEnumA, fiZip, ftOr, ftAnd, ftNot, ftB, ftT, ftYes, truD_b, truD_i, truD_l, truD_t, truD_n, gIx_t0, gIx_t1, gIx_t2, gSl_t, gSl_l, gIsT, notDict, isT, isN, tyName, gLen_t, gLen_l, gTuple_l, gCmp, gAdd_ii, gAdd_ss, gAdd_tt, gAdd_ll, PD.gSub, gNeg, gMod, seqD, forD, wipeR, gEqA, gNeA, gEq_ii, gNe_ii, gEq_tt, gIn_ints, gIn_intsL, gNotIn_ints, gNotIn_intsL]
      refine ⟨by omega, ?_⟩
      have := ih (Tc ++ [rs]) (n + a) (.d (.int j)) x7 P (by omega) (by rw [List.length_append, List.length_singleton]; omega) (fun r hr' => ?_) (fun Tf n' x6 x7 g1 g2 g3 => h Tf n' x6 x7 g1 (by rw [g2, List.length_append, List.length_singleton, List.length_cons]; omega) (by rw [List.length_cons, Nat.succ_mul]; omega)) (by rw [List.length_append, List.length_singleton]; omega)
      · rw [List.map_append] at this
        exact this
      · rcases List.mem_append.mp hr' with u | u
        · exact hT r u
        · rw [List.mem_singleton] at u
          subst u
          exact ⟨hl, hr⟩
def W_law_goal : FE := fun ρ k => ρ.sl = [.st, .d (.int 4), .d (.int 6)] ∧ (True) ∧ ρ.n + 100 ≤ 1000000000000 ∧ ∀ (q : Int) (T : List (List Int)) (G : List Int) (nn : Nat), (WOK q T G) → nn ≤ ρ.n + 100 → k (wishD q T G) ⟨ρ.sl, nn⟩
theorem mW_law_goal (ρ : Rho) (k k' : KD) (h : ∀ d ρ', k d ρ' → k' d ρ') (q : W_law_goal ρ k) : W_law_goal ρ k' := by
  obtain ⟨e1, e2, e3, e4⟩ := q
  exact ⟨e1, e2, e3, fun q T G nn a b => h _ _ (e4 q T G nn a b)⟩
theorem ok_law_goal : ∀ ρ k, W_law_goal ρ k → fBody 9 w_law_goal ρ k := by
  rintro ⟨sl, n⟩ k ⟨e, _, hn, z⟩
  simp only at e hn z
  subst e
  simp [w_law_goal]
  simp [and_assoc, Rho.set, dropOwn, ftLend, fLend, lendR, frz, ow, nList, -forall_exists_index, fBody, fsSeq, fsIf, fsRet, fsNext, fsDrop, fsAsg, fsNever, fsFor, fsOwn, fsPar2, fsPar3, fsPar_od, fsPar_do, fsPar_oo, fVar, fC, fUn, fOp, fChain, fTup, fLst, fCall, faD, faSt, flCons, flNil, fSl, foSome, foNone, fAnd, fOr, fNot, fIf, fOfN, fn1, fnLst, fnCat, fgN, fgTup, fgCons, fgNil, fiSeq, fiRange1, fiRange2, fiEnumA, fiZip, ftOr, ftAnd, ftNot, ftB, ftT, ftYes, truD_b, truD_i, truD_l, truD_t, truD_n, gIx_t0, gIx_t1, gIx_t2, gSl_t, gSl_l, gIsT, notDict, isT, isN, tyName, gLen_t, gLen_l, gTuple_l, gCmp, gAdd_ii, gAdd_ll, PD.gSub, gNeg, gMod, seqD, forD, wipeR, gEqA, gNeA, gEq_ii, gNe_ii, gEq_tt, gIn_ints, gIn_intsL, gNotIn_ints, gNotIn_intsL, fM0, fM1, fJoined, fJ, flStar, starD, fCall0]
  refine ⟨4, rfl, by decide, by decide, by simp; omega, fun r1 a1 b1 => ?_⟩
  simp [and_assoc, Rho.set, dropOwn, ftLend, fLend, lendR, frz, ow, nList, -forall_exists_index, fBody, fsSeq, fsIf, fsRet, fsNext, fsDrop, fsAsg, fsNever, fsFor, fsOwn, fsPar2, fsPar3, fsPar_od, fsPar_do, fsPar_oo, fVar, fC, fUn, fOp, fChain, fTup, fLst, fCall, faD, faSt, flCons, flNil, fSl, foSome, foNone, fAnd, fOr, fNot, fIf, fOfN, fn1, fnLst, fnCat, fgN, fgTup, fgCons, fgNil, fiSeq, fiRange1, fiRange2, fiEnumA, fiZip, ftOr, ftAnd, ftNot, ftB, ftT, ftYes, truD_b, truD_i, truD_l, truD_t, truD_n, gIx_t0, gIx_t1, gIx_t2, gSl_t, gSl_l, gIsT, notDict, isT, isN, tyName, gLen_t, gLen_l, gTuple_l, gCmp, gAdd_ii, gAdd_ll, PD.gSub, gNeg, gMod, seqD, forD, wipeR, gEqA, gNeA, gEq_ii, gNe_ii, gEq_tt, gIn_ints, gIn_intsL, gNotIn_ints, gNotIn_intsL, fM0, fM1, fJoined, fJ, flStar, starD, fCall0]
  refine ⟨6, rfl, by decide, by decide, by simp; omega, fun r2 a2 b2 => ?_⟩
  simp [and_assoc, Rho.set, dropOwn, ftLend, fLend, lendR, frz, ow, nList, -forall_exists_index, fBody, fsSeq, fsIf, fsRet, fsNext, fsDrop, fsAsg, fsNever, fsFor, fsOwn, fsPar2, fsPar3, fsPar_od, fsPar_do, fsPar_oo, fVar, fC, fUn, fOp, fChain, fTup, fLst, fCall, faD, faSt, flCons, flNil, fSl, foSome, foNone, fAnd, fOr, fNot, fIf, fOfN, fn1, fnLst, fnCat, fgN, fgTup, fgCons, fgNil, fiSeq, fiRange1, fiRange2, fiEnumA, fiZip, ftOr, ftAnd, ftNot, ftB, ftT, ftYes, truD_b, truD_i, truD_l, truD_t, truD_n, gIx_t0, gIx_t1, gIx_t2, gSl_t, gSl_l, gIsT, notDict, isT, isN, tyName, gLen_t, gLen_l, gTuple_l, gCmp, gAdd_ii, gAdd_ll, PD.gSub, gNeg, gMod, seqD, forD, wipeR, gEqA, gNeA, gEq_ii, gNe_ii, gEq_tt, gIn_ints, gIn_intsL, gNotIn_ints, gNotIn_intsL, fM0, fM1, fJoined, fJ, flStar, starD, fCall0]
  obtain ⟨a, rfl⟩ := Int.eq_ofNat_of_zero_le a1
  obtain ⟨b, rfl⟩ := Int.eq_ofNat_of_zero_le a2
  rw [show (1 : Int) + (a : Int) = ((1 + a : Nat) : Int) by omega, show (1 : Int) + (b : Int) = ((1 + b : Nat) : Int) by omega, rangeD_nat]
  refine ⟨by omega, by omega, goal_rows (1 + a) (1 + b) (by omega) (by omega) (by omega) _ _ _ (List.range (1 + b)) [] _ _ _ _ (by rw [List.length_range]; omega) (by simp) (fun r hr => absurd hr List.not_mem_nil) (fun T n' x6 x7 g1 g2 g3 => ?_) (by rw [List.length_range]; simp; omega)⟩
  rw [List.length_range] at g2 g3
  rw [List.length_nil, Nat.zero_add] at g2
  dsimp only
  refine fnComp_i ?_
  simp [and_assoc, Rho.set, dropOwn, ftLend, fLend, lendR, frz, ow, nList, -forall_exists_index, fBody, fsSeq, fsIf, fsRet, fsNext, fsDrop, fsAsg, fsNever, fsFor, fsOwn, fsPar2, fsPar3, fsPar_od, fsPar_do, fsPar_oo, fVar, fC, fUn, fOp, fChain, fTup, fLst, fCall, faD, faSt, flCons, flNil, fSl, foSome, foNone, fAnd, fOr, fNot, fIf, fOfN, fn1, fnLst, fnCat, fgN, fgTup, fgCons, fgNil, fiSeq, fiRange1, fiRange2, fiEnumA, fiZip, ftOr, ftAnd, ftNot, ftB, ftT, ftYes, truD_b, truD_i, truD_l, truD_t, truD_n, gIx_t0, gIx_t1, gIx_t2, gSl_t, gSl_l, gIsT, notDict, isT, isN, tyName, gLen_t, gLen_l, gTuple_l, gCmp, gAdd_ii, gAdd_ll, PD.gSub, gNeg, gMod, seqD, forD, wipeR, gEqA, gNeA, gEq_ii, gNe_ii, gEq_tt, gIn_ints, gIn_intsL, gNotIn_ints, gNotIn_intsL, fM0, fM1, fJoined, fJ, flStar, starD, fCall0]
  rw [rangeD_from]
  refine ⟨by omega, by omega, by rw [List.length_map, List.length_range]; omega, comp_drawS (fun i : Nat => PyData.int (1 + (i : Int))) (fun i : Nat => PyData.int (1 + (i : Int))) (n' + 10) _ (List.range b) [] n' (by rw [List.length_range]; omega) (fun i hi m hm kt kf c1 c2 => ?_) fun ys hy => ?_⟩
  · simp [and_assoc, Rho.set, dropOwn, ftLend, fLend, lendR, frz, ow, nList, -forall_exists_index, fBody, fsSeq, fsIf, fsRet, fsNext, fsDrop, fsAsg, fsNever, fsFor, fsOwn, fsPar2, fsPar3, fsPar_od, fsPar_do, fsPar_oo, fVar, fC, fUn, fOp, fChain, fTup, fLst, fCall, faD, faSt, flCons, flNil, fSl, foSome, foNone, fAnd, fOr, fNot, fIf, fOfN, fn1, fnLst, fnCat, fgN, fgTup, fgCons, fgNil, fiSeq, fiRange1, fiRange2, fiEnumA, fiZip, ftOr, ftAnd, ftNot, ftB, ftT, ftYes, truD_b, truD_i, truD_l, truD_t, truD_n, gIx_t0, gIx_t1, gIx_t2, gSl_t, gSl_l, gIsT, notDict, isT, isN, tyName, gLen_t, gLen_l, gTuple_l, gCmp, gAdd_ii, gAdd_ll, PD.gSub, gNeg, gMod, seqD, forD, wipeR, gEqA, gNeA, gEq_ii, gNe_ii, gEq_tt, gIn_ints, gIn_intsL, gNotIn_ints, gNotIn_intsL, fM0, fM1, fJoined, fJ, flStar, starD, fCall0]
    refine ⟨2, rfl, by decide, by decide, by simp; omega, fun r h0 h1 => ?_⟩
    simp [and_assoc, Rho.set, dropOwn, ftLend, fLend, lendR, frz, ow, nList, -forall_exists_index, fBody, fsSeq, fsIf, fsRet, fsNext, fsDrop, fsAsg, fsNever, fsFor, fsOwn, fsPar2, fsPar3, fsPar_od, fsPar_do, fsPar_oo, fVar, fC, fUn, fOp, fChain, fTup, fLst, fCall, faD, faSt, flCons, flNil, fSl, foSome, foNone, fAnd, fOr, fNot, fIf, fOfN, fn1, fnLst, fnCat, fgN, fgTup, fgCons, fgNil, fiSeq, fiRange1, fiRange2, fiEnumA, fiZip, ftOr, ftAnd, ftNot, ftB, ftT, ftYes, truD_b, truD_i, truD_l, truD_t, truD_n, gIx_t0, gIx_t1, gIx_t2, gSl_t, gSl_l, gIsT, notDict, isT, isN, tyName, gLen_t, gLen_l, gTuple_l, gCmp, gAdd_ii, gAdd_ll, PD.gSub, gNeg, gMod, seqD, forD, wipeR, gEqA, gNeA, gEq_ii, gNe_ii, gEq_tt, gIn_ints, gIn_intsL, gNotIn_ints, gNotIn_intsL, fM0, fM1, fJoined, fJ, flStar, starD, fCall0]
    by_cases e : r = 0
    · exact .inr ⟨e, c1 _ rfl⟩
    · exact .inl ⟨e, c2 _ rfl⟩
  · rw [List.nil_append, List.length_range]
    simp [and_assoc, Rho.set, dropOwn, ftLend, fLend, lendR, frz, ow, nList, -forall_exists_index, fBody, fsSeq, fsIf, fsRet, fsNext, fsDrop, fsAsg, fsNever, fsFor, fsOwn, fsPar2, fsPar3, fsPar_od, fsPar_do, fsPar_oo, fVar, fC, fUn, fOp, fChain, fTup, fLst, fCall, faD, faSt, flCons, flNil, fSl, foSome, foNone, fAnd, fOr, fNot, fIf, fOfN, fn1, fnLst, fnCat, fgN, fgTup, fgCons, fgNil, fiSeq, fiRange1, fiRange2, fiEnumA, fiZip, ftOr, ftAnd, ftNot, ftB, ftT, ftYes, truD_b, truD_i, truD_l, truD_t, truD_n, gIx_t0, gIx_t1, gIx_t2, gSl_t, gSl_l, gIsT, notDict, isT, isN, tyName, gLen_t, gLen_l, gTuple_l, gCmp, gAdd_ii, gAdd_ll, PD.gSub, gNeg, gMod, seqD, forD, wipeR, gEqA, gNeA, gEq_ii, gNe_ii, gEq_tt, gIn_ints, gIn_intsL, gNotIn_ints, gNotIn_intsL, fM0, fM1, fJoined, fJ, flStar, starD, fCall0]
    have hl := hy.length_le
    rw [List.length_range] at hl
    refine ⟨_, gAdd_t _ _ (by rw [List.length_map]; simp; omega), ?_⟩
    rw [List.singleton_append]
    have e : PyData.int 0 :: ys.map (fun i : Nat => PyData.int (1 + (i : Int))) = ((0 : Int) :: ys.map fun i : Nat => 1 + (i : Int)).map .int := by
      rw [List.map_cons, List.map_map]
      rfl
    rw [e]
    refine z (1 + a) T _ _ ⟨by omega, by omega, by omega, by omega, fun r hr => ⟨by rw [(g1 r hr).1]; omega, fun x hx => ?_⟩, ?_, fun x hx => ?_, List.mem_cons_self⟩ (by show n' + b ≤ n + 100; omega)
    · have := (g1 r hr).2 x hx
      omega
    · refine List.pairwise_cons.mpr ⟨fun x hx => ?_, ?_⟩
      · obtain ⟨i, hi, rfl⟩ := List.mem_map.mp hx
        omega
      · refine List.Pairwise.map _ (R := fun i j : Nat => i < j) (fun i j h => by omega) ?_
        exact List.Pairwise.sublist hy List.pairwise_lt_range
    · rcases List.mem_cons.mp hx with u | u
      · subst u; omega
      · obtain ⟨i, hi, rfl⟩ := List.mem_map.mp u
        have := List.mem_range.mp (hy.subset hi)
        omega
abbrev s_law_marks : Stmt := top 42
theorem sc_law_marks : FnScope ["m", "count", "k"] ["m", "count"] (defScope s_law_marks) := ⟨rfl, rfl, rfl, by decide +kernel, rfl, by decide +kernel, by decide +kernel⟩
def w_law_marks : FS := fsRet (fUn gTuple (fOfN (fnComp (fiRange1 (flCons (fCall 2 W_law_of (faSt 0 (flCons (fLst (flCons (fC (.int 0)) (flCons (fC (.int 0)) (flCons (fC (.int 1)) (flCons (fC (.int 1)) (flCons (fC (.int 2)) (flCons (fC (.int 3)) (flCons (fC (.int 6)) (flNil))))))))) (flNil)))) (flNil))) (fgN 2) (ftYes) (fCall 2 W_law_next (faSt 0 (flCons (fVar 1) (flNil)))) [2])))
theorem raw_law_marks {f : Addr} {fd : FuncData} {a_law_next : Addr} {d_law_next : FuncData} {a_law_of : Addr} {d_law_of : FuncData} (F : Fun K "_law_marks" "_law_marks" s_law_marks f fd) (T : Txt mg) (g_law_next : mg "_law_next" = some (.ref a_law_next)) (g_law_of : mg "_law_of" = some (.ref a_law_of)) (G_law_next : FnG P w K mg base (L2.CX P w) 1 a_law_next d_law_next ["m", "total"] (spD ⟨K, w⟩ M 2 W_law_next)) (b_law_next : Binds K d_law_next ["m", "total"] []) (k_law_next : PySem.W.keepIn K (.ref a_law_next) = true) (G_law_of : FnG P w K mg base (L2.CX P w) 2 a_law_of d_law_of ["m", "some"] (spD ⟨K, w⟩ M 2 W_law_of)) (b_law_of : Binds K d_law_of ["m", "some"] []) (k_law_of : PySem.W.keepIn K (.ref a_law_of) = true) : FnG P w K mg base (L2.CX P w) 3 f fd ["m", "count"] (spD ⟨K, w⟩ M 2 (fBody 3 w_law_marks)) := by
  refine fnD F sc_law_marks fun cdv A outer s H E hgd hr => ?_
  have nd := (sc_law_marks).nd
  have hu : (A.deeper (envOfC "_law_marks" (defScope s_law_marks) s.heap.objs.size f cdv)).units + 64 < cLine := hr.units
  exact pds_one (pds_ret (pd_t1 call_tuple_of r1_tuple (by rfl) T.tuple (by decide +kernel) (pd_ofN (pn_lc rfl nd (own := [("k", 2)]) (vs := [2]) (pdi_range1 (by rfl) T.range (pdl_cons (pd_call mW_law_of (G_law_of.mono (by decide)) hgd hr (by rfl) g_law_of k_law_of b_law_of (pda_st (pv 0) (pdl_cons (pd_lst (pdl_cons (pd_int) (pdl_cons (pd_int) (pdl_cons (pd_int) (pdl_cons (pd_int) (pdl_cons (pd_int) (pdl_cons (pd_int) (pdl_cons (pd_int) (pdl_nil))))))))) (pdl_nil)))) (pdl_nil))) (blkOk_by (own := [("k", 2)]) (N := ["m", "count", "k"]) (sc := defScope s_law_marks) (by decide +kernel)) rfl (fun _ _ _ _ _ => pg1_name (i := 2) (pg_name (i := 2) nd rfl (by first | exact Or.inl rfl | exact Or.inr rfl))) (fun _ _ _ _ _ => ptn_nil) (fun _ _ _ _ _ => pd_call mW_law_next (G_law_next.mono (by decide)) hgd hr (by rfl) g_law_next k_law_next b_law_next (pda_st (pv 0) (pdl_cons (pd_var (pv 1)) (pdl_nil)))) s))))
def W_law_marks : FE := fun ρ k => ∃ (q : Int), ρ.sl = [.st, .d (.int q)] ∧ (1 ≤ q ∧ q ≤ 4) ∧ ρ.n + 10 ≤ 1000000000000 ∧ ∀ (ns : List Int) (nn : Nat), (ns.length ≤ 6 ∧ ∀ x ∈ ns, 0 ≤ x ∧ x ≤ q - 1) → nn ≤ ρ.n + 10 → k (tupI ns) ⟨ρ.sl, nn⟩
theorem mW_law_marks (ρ : Rho) (k k' : KD) (h : ∀ d ρ', k d ρ' → k' d ρ') (q : W_law_marks ρ k) : W_law_marks ρ k' := by
  obtain ⟨q, e1, e2, e3, e4⟩ := q
  exact ⟨q, e1, e2, e3, fun ns nn a b => h _ _ (e4 ns nn a b)⟩
theorem ok_law_marks : ∀ ρ k, W_law_marks ρ k → fBody 3 w_law_marks ρ k := by
  rintro ⟨sl, n⟩ k ⟨q, e, hq, hn, z⟩
  simp only at e hn z
  subst e
  simp [w_law_marks]
  simp [and_assoc, Rho.set, dropOwn, ftLend, fLend, lendR, frz, ow, nList, -forall_exists_index, fBody, fsSeq, fsIf, fsRet, fsNext, fsDrop, fsAsg, fsNever, fsFor, fsOwn, fsPar2, fsPar3, fsPar_od, fsPar_do, fsPar_oo, fVar, fC, fUn, fOp, fChain, fTup, fLst, fCall, faD, faSt, flCons, flNil, fSl, foSome, foNone, fAnd, fOr, fNot, fIf, fOfN, fn1, fnLst, fnCat, fgN, fgTup, fgCons, fgNil, fiSeq, fiRange1, fiRange2, fiEnumA, fiZip, ftOr, ftAnd, ftNot, ftB, ftT, ftYes, truD_b, truD_i, truD_l, truD_t, truD_n, gIx_t0, gIx_t1, gIx_t2, gSl_t, gSl_l, gIsT, notDict, isT, isN, tyName, gLen_t, gLen_l, gTuple_l, gCmp, gAdd_ii, gAdd_ll, PD.gSub, gNeg, gMod, seqD, forD, wipeR, gEqA, gNeA, gEq_ii, gNe_ii, gEq_tt, gIn_ints, gIn_intsL, gNotIn_ints, gNotIn_intsL, fM0, fM1, fJoined, fJ, flStar, starD, fCall0]
  refine fnComp_i ?_
  simp [and_assoc, Rho.set, dropOwn, ftLend, fLend, lendR, frz, ow, nList, -forall_exists_index, fBody, fsSeq, fsIf, fsRet, fsNext, fsDrop, fsAsg, fsNever, fsFor, fsOwn, fsPar2, fsPar3, fsPar_od, fsPar_do, fsPar_oo, fVar, fC, fUn, fOp, fChain, fTup, fLst, fCall, faD, faSt, flCons, flNil, fSl, foSome, foNone, fAnd, fOr, fNot, fIf, fOfN, fn1, fnLst, fnCat, fgN, fgTup, fgCons, fgNil, fiSeq, fiRange1, fiRange2, fiEnumA, fiZip, ftOr, ftAnd, ftNot, ftB, ftT, ftYes, truD_b, truD_i, truD_l, truD_t, truD_n, gIx_t0, gIx_t1, gIx_t2, gSl_t, gSl_l, gIsT, notDict, isT, isN, tyName, gLen_t, gLen_l, gTuple_l, gCmp, gAdd_ii, gAdd_ll, PD.gSub, gNeg, gMod, seqD, forD, wipeR, gEqA, gNeA, gEq_ii, gNe_ii, gEq_tt, gIn_ints, gIn_intsL, gNotIn_ints, gNotIn_intsL, fM0, fM1, fJoined, fJ, flStar, starD, fCall0]
  refine ⟨_, rfl, by simp, by simp, by simp; omega, fun x hx nn hnn => ?_⟩
  have hx : ∃ j : Nat, x = .int j ∧ j ≤ 6 := by
    simp at hx
    rcases hx with h | h | h | h | h <;> subst h
    · exact ⟨0, rfl, by omega⟩
    · exact ⟨1, rfl, by omega⟩
    · exact ⟨2, rfl, by omega⟩
    · exact ⟨3, rfl, by omega⟩
    · exact ⟨6, rfl, by omega⟩
  obtain ⟨j, rfl, hj⟩ := hx
  simp only at hnn
  refine ⟨j, rfl, by omega, by omega, ?_⟩
  rw [rangeD_nat]
  refine ⟨by rw [List.length_map, List.length_range]; omega, comp_draw (fun i : Nat => PyData.int (i : Int)) q (nn + 7) _ (List.range j) [] nn (by rw [List.length_range]; omega) (fun i hi n' hn' kt hk => ?_) fun rs hl hr => ?_⟩
  · simp [and_assoc, Rho.set, dropOwn, ftLend, fLend, lendR, frz, ow, nList, -forall_exists_index, fBody, fsSeq, fsIf, fsRet, fsNext, fsDrop, fsAsg, fsNever, fsFor, fsOwn, fsPar2, fsPar3, fsPar_od, fsPar_do, fsPar_oo, fVar, fC, fUn, fOp, fChain, fTup, fLst, fCall, faD, faSt, flCons, flNil, fSl, foSome, foNone, fAnd, fOr, fNot, fIf, fOfN, fn1, fnLst, fnCat, fgN, fgTup, fgCons, fgNil, fiSeq, fiRange1, fiRange2, fiEnumA, fiZip, ftOr, ftAnd, ftNot, ftB, ftT, ftYes, truD_b, truD_i, truD_l, truD_t, truD_n, gIx_t0, gIx_t1, gIx_t2, gSl_t, gSl_l, gIsT, notDict, isT, isN, tyName, gLen_t, gLen_l, gTuple_l, gCmp, gAdd_ii, gAdd_ll, PD.gSub, gNeg, gMod, seqD, forD, wipeR, gEqA, gNeA, gEq_ii, gNe_ii, gEq_tt, gIn_ints, gIn_intsL, gNotIn_ints, gNotIn_intsL, fM0, fM1, fJoined, fJ, flStar, starD, fCall0]
    refine ⟨q, rfl, by omega, by omega, by simp; omega, fun r h0 h1 => ?_⟩
    exact hk r h0 h1 _ rfl
  · rw [List.length_range] at hl ⊢
    rw [List.nil_append]
    exact z rs _ ⟨by omega, fun x hx => by have := hr x hx; omega⟩ (by show nn + j ≤ _; omega)
abbrev s_law_watchman : Stmt := top 43
theorem sc_law_watchman : FnScope ["m", "count", "many", "rows", "k", "act"] ["m", "count"] (defScope s_law_watchman) := ⟨rfl, rfl, rfl, by decide +kernel, rfl, by decide +kernel, by decide +kernel⟩
def b_law_watchman_1 : FS := (fun ρ P => (∃ xs : List D, ρ.sl[3]? = some (Sl.own xs)) ∧ fsApp 3 (fUn gTuple (fOfN (fnComp (fiRange1 (flCons (fVar 1) (flNil))) (fgN 5) (ftYes) (fTup (flCons (fCall 2 W_law_next (faSt 0 (flCons (fVar 2) (flNil)))) (flCons (fCall 2 W_law_marks (faSt 0 (flCons (fVar 1) (flNil)))) (flNil)))) [5]))) ρ P)
def w_law_watchman : FS := fsSeq (fsPar_do 2 3 (fOp gAdd (fC (.int 1)) (fCall 2 W_law_next (faSt 0 (flCons (fC (.int 8)) (flNil))))) (fnLst (flNil)))
  (fsSeq (fsFor (fiRange1 (flCons (fVar 2) (flNil))) (fgN 4) b_law_watchman_1)
  ((fun ρ P => (fsRet (fUn gTuple (fVar 3))) (frz 3 ρ) P)))
theorem raw_law_watchman {f : Addr} {fd : FuncData} {a_law_next : Addr} {d_law_next : FuncData} {a_law_marks : Addr} {d_law_marks : FuncData} (F : Fun K "_law_watchman" "_law_watchman" s_law_watchman f fd) (T : Txt mg) (g_law_next : mg "_law_next" = some (.ref a_law_next)) (g_law_marks : mg "_law_marks" = some (.ref a_law_marks)) (G_law_next : FnG P w K mg base (L2.CX P w) 1 a_law_next d_law_next ["m", "total"] (spD ⟨K, w⟩ M 2 W_law_next)) (b_law_next : Binds K d_law_next ["m", "total"] []) (k_law_next : PySem.W.keepIn K (.ref a_law_next) = true) (G_law_marks : FnG P w K mg base (L2.CX P w) 3 a_law_marks d_law_marks ["m", "count"] (spD ⟨K, w⟩ M 2 W_law_marks)) (b_law_marks : Binds K d_law_marks ["m", "count"] []) (k_law_marks : PySem.W.keepIn K (.ref a_law_marks) = true) : FnG P w K mg base (L2.CX P w) 4 f fd ["m", "count"] (spD ⟨K, w⟩ M 2 (fBody 6 w_law_watchman)) := by
  refine fnD F sc_law_watchman fun cdv A outer s H E hgd hr => ?_
  have nd := (sc_law_watchman).nd
  have hu : (A.deeper (envOfC "_law_watchman" (defScope s_law_watchman) s.heap.objs.size f cdv)).units + 64 < cLine := hr.units
  exact pds_cons (pds_tp_do (i := 2) (j := 3) (pg_tup rfl (pgs_cons (pg_name (i := 2) nd rfl (by first | exact Or.inl rfl | exact Or.inr rfl)) (pgs_cons (pg_name (i := 3) nd rfl (by first | exact Or.inl rfl | exact Or.inr rfl)) pgs_nil))) (pd_op op_addA rd_add (pd_int) (pd_call mW_law_next (G_law_next.mono (by decide)) hgd hr (by rfl) g_law_next k_law_next b_law_next (pda_st (pv 0) (pdl_cons (pd_int) (pdl_nil))))) (pn_lst (pdl_nil)))
    (pds_cons (pds_for (fs := b_law_watchman_1) PassesOwn.never rfl (pdi_range1 (by rfl) T.range (pdl_cons (pd_var (pv 2)) (pdl_nil))) (pg1_name (i := 4) (pg_name (i := 4) nd rfl (by first | exact Or.inl rfl | exact Or.inr rfl))) (pds_one (pds_app (i := 3) (pd_t1 call_tuple_of r1_tuple (by rfl) T.tuple (by decide +kernel) (pd_ofN (pn_lc rfl nd (own := [("act", 5)]) (vs := [5]) (pdi_range1 (by rfl) T.range (pdl_cons (pd_var (pv 1)) (pdl_nil))) (blkOk_by (own := [("act", 5)]) (N := ["m", "count", "many", "rows", "k", "act"]) (sc := defScope s_law_watchman) (by decide +kernel)) rfl (fun _ _ _ _ _ => pg1_name (i := 5) (pg_name (i := 5) nd rfl (by first | exact Or.inl rfl | exact Or.inr rfl))) (fun _ _ _ _ _ => ptn_nil) (fun _ _ _ _ _ => pd_tup (pdl_cons (pd_call mW_law_next (G_law_next.mono (by decide)) hgd hr (by rfl) g_law_next k_law_next b_law_next (pda_st (pv 0) (pdl_cons (pd_var (pv 2)) (pdl_nil)))) (pdl_cons (pd_call mW_law_marks (G_law_marks.mono (by decide)) hgd hr (by rfl) g_law_marks k_law_marks b_law_marks (pda_st (pv 0) (pdl_cons (pd_var (pv 1)) (pdl_nil)))) (pdl_nil)))) s))) (pe_bm PySem.F.plainAttrs_list PySem.F.slot_list_append PySem.F.type_list_append mt_append (pv 3) (pa_cons (pd_t1 call_tuple_of r1_tuple (by rfl) T.tuple (by decide +kernel) (pd_ofN (pn_lc rfl nd (own := [("act", 5)]) (vs := [5]) (pdi_range1 (by rfl) T.range (pdl_cons (pd_var (pv 1)) (pdl_nil))) (blkOk_by (own := [("act", 5)]) (N := ["m", "count", "many", "rows", "k", "act"]) (sc := defScope s_law_watchman) (by decide +kernel)) rfl (fun _ _ _ _ _ => pg1_name (i := 5) (pg_name (i := 5) nd rfl (by first | exact Or.inl rfl | exact Or.inr rfl))) (fun _ _ _ _ _ => ptn_nil) (fun _ _ _ _ _ => pd_tup (pdl_cons (pd_call mW_law_next (G_law_next.mono (by decide)) hgd hr (by rfl) g_law_next k_law_next b_law_next (pda_st (pv 0) (pdl_cons (pd_var (pv 2)) (pdl_nil)))) (pdl_cons (pd_call mW_law_marks (G_law_marks.mono (by decide)) hgd hr (by rfl) g_law_marks k_law_marks b_law_marks (pda_st (pv 0) (pdl_cons (pd_var (pv 1)) (pdl_nil)))) (pdl_nil)))) s))).pe pa_nil)))))
    (pds_one (pds_frz1 3 (pds_ret (pd_t1 call_tuple_of r1_tuple (by rfl) T.tuple (by decide +kernel) (pd_var (pv 3)))))))
theorem ward_rows (q a b : Nat) (hq : 1 ≤ q ∧ q ≤ 4) (hb : b ≤ 8) (hb1 : 1 ≤ b) : ∀ (js : List Nat) (gc : List (List (Int × List Int))) (n : Nat) (x4 x5 : Sl) (P : Post), n + js.length * 50 < 1000000000000 → gc.length + js.length ≤ 1000 →
    (∀ m ∈ gc, m.length = q ∧ ∀ p ∈ m, (0 ≤ p.1 ∧ p.1 < (b : Int)) ∧ p.2.length ≤ 6 ∧ ∀ x ∈ p.2, 0 ≤ x ∧ x ≤ (q : Int) - 1) →
    (∀ (gf : List (List (Int × List Int))) (n' : Nat) (x4 x5 : Sl), (∀ m ∈ gf, m.length = q ∧ ∀ p ∈ m, (0 ≤ p.1 ∧ p.1 < (b : Int)) ∧ p.2.length ≤ 6 ∧ ∀ x ∈ p.2, 0 ≤ x ∧ x ≤ (q : Int) - 1) → gf.length = gc.length + js.length → n' ≤ n + js.length * 50 →
      P.nx ⟨[.st, .d (.int q), .d (.int b), .own (.l (gf.map memD)), x4, x5], n'⟩) →
    forD (fgN 4) b_law_watchman_1 (js.map fun i : Nat => PyData.int (i : Int)) ⟨[.st, .d (.int q), .d (.int b), .own (.l (gc.map memD)), x4, x5], n⟩ P := by
  intro js
  induction js with
  | nil => intro gc n x4 x5 P _ _ hT h; exact h gc n x4 x5 hT (by simp) (by simp)
  | cons j js ih =>
    intro gc n x4 x5 P hn hl hT h
    rw [List.length_cons, Nat.succ_mul] at hn
    rw [List.length_cons] at hl
    rw [List.map_cons]
    unfold forD
    simp only [b_law_watchman_1]
    simp [and_assoc, Rho.set, dropOwn, ftLend, fLend, lendR, frz, ow, nList, -forall_exists_index, fBody, fsSeq, fsIf, fsRet, fsNext, fsDrop, fsAsg, fsNever, fsFor, fsOwn, fsPar2, fsPar_od, fsPar_do, fsPar_oo, fVar, fC, fUn, fOp, fChain, fTup, fLst, fCall, faD, faSt, flCons, flNil, fSl, foSome, foNone, fAnd, fOr, fNot, fIf, fOfN, fn1, fnLst, fnCat, fgN, fgTup, fgCons, fgNil, fiSeq, fiRange1, fiRange2, fiEnumA, fiZip, ftOr, ftAnd, ftNot, ftB, ftT, ftYes, truD_b, truD_i, truD_l, truD_t, truD_n, gIx_t0, gIx_t1, gIx_t2, gSl_t, gSl_l, gIsT, notDict, isT, isN, tyName, gLen_t, gLen_l, gTuple_l, gCmp, gAdd_ii, gAdd_ss, gAdd_tt, gAdd_ll, PD.gSub, gNeg, gMod, seqD, forD, wipeR, gEqA, gNeA, gEq_ii, gNe_ii, gEq_tt, gIn_ints, gIn_intsL, gNotIn_ints, gNotIn_intsL]
    refine fsApp_i ?_
    simp [and_assoc, Rho.set, dropOwn, ftLend, fLend, lendR, frz, ow, nList, -forall_exists_index, fBody, fsSeq, fsIf, fsRet, fsNext, fsDrop, fsAsg, fsNever, fsFor, fsOwn, fsPar2, fsPar_od, fsPar_do, fsPar_oo, fVar, fC, fUn, fOp, fChain, fTup, fLst, fCall, faD, faSt, flCons, flNil, fSl, foSome, foNone, fAnd, fOr, fNot, fIf, fOfN, fn1, fnLst, fnCat, fgN, fgTup, fgCons, fgNil, fiSeq, fiRange1, fiRange2, fiEnumA, fiZip, ftOr, ftAnd, ftNot, ftB, ftT, ftYes, truD_b, truD_i, truD_l, truD_t, truD_n, gIx_t0, gIx_t1, gIx_t2, gSl_t, gSl_l, gIsT, notDict, isT, isN, tyName, gLen_t, gLen_l, gTuple_l, gCmp, gAdd_ii, gAdd_ss, gAdd_tt, gAdd_ll, PD.gSub, gNeg, gMod, seqD, forD, wipeR, gEqA, gNeA, gEq_ii, gNe_ii, gEq_tt, gIn_ints, gIn_intsL, gNotIn_ints, gNotIn_intsL]
    refine fnComp_i ?_
    simp [and_assoc, Rho.set, dropOwn, ftLend, fLend, lendR, frz, ow, nList, -forall_exists_index, fBody, fsSeq, fsIf, fsRet, fsNext, fsDrop, fsAsg, fsNever, fsFor, fsOwn, fsPar2, fsPar_od, fsPar_do, fsPar_oo, fVar, fC, fUn, fOp, fChain, fTup, fLst, fCall, faD, faSt, flCons, flNil, fSl, foSome, foNone, fAnd, fOr, fNot, fIf, fOfN, fn1, fnLst, fnCat, fgN, fgTup, fgCons, fgNil, fiSeq, fiRange1, fiRange2, fiEnumA, fiZip, ftOr, ftAnd, ftNot, ftB, ftT, ftYes, truD_b, truD_i, truD_l, truD_t, truD_n, gIx_t0, gIx_t1, gIx_t2, gSl_t, gSl_l, gIsT, notDict, isT, isN, tyName, gLen_t, gLen_l, gTuple_l, gCmp, gAdd_ii, gAdd_ss, gAdd_tt, gAdd_ll, PD.gSub, gNeg, gMod, seqD, forD, wipeR, gEqA, gNeA, gEq_ii, gNe_ii, gEq_tt, gIn_ints, gIn_intsL, gNotIn_ints, gNotIn_intsL]
    rw [rangeD_nat]
    refine ⟨by omega, by rw [List.length_map, List.length_range]; omega, comp_st (fun i : Nat => PyData.int (i : Int)) pairD (fun p => (0 ≤ p.1 ∧ p.1 < (b : Int)) ∧ p.2.length ≤ 6 ∧ ∀ x ∈ p.2, 0 ≤ x ∧ x ≤ (q : Int) - 1) 11 (n + 44) _ (List.range q) [] n (by rw [List.length_range]; omega) (fun i hi n' hn' kt hk => ?_) fun rs m hl2 hr hm => ?_⟩
    · simp [and_assoc, Rho.set, dropOwn, ftLend, fLend, lendR, frz, ow, nList, -forall_exists_index, fBody, fsSeq, fsIf, fsRet, fsNext, fsDrop, fsAsg, fsNever, fsFor, fsOwn, fsPar2, fsPar3, fsPar_od, fsPar_do, fsPar_oo, fVar, fC, fUn, fOp, fChain, fTup, fLst, fCall, faD, faSt, flCons, flNil, fSl, foSome, foNone, fAnd, fOr, fNot, fIf, fOfN, fn1, fnLst, fnCat, fgN, fgTup, fgCons, fgNil, fiSeq, fiRange1, fiRange2, fiEnumA, fiZip, ftOr, ftAnd, ftNot, ftB, ftT, ftYes, truD_b, truD_i, truD_l, truD_t, truD_n, gIx_t0, gIx_t1, gIx_t2, gSl_t, gSl_l, gIsT, notDict, isT, isN, tyName, gLen_t, gLen_l, gTuple_l, gCmp, gAdd_ii, gAdd_ll, PD.gSub, gNeg, gMod, seqD, forD, wipeR, gEqA, gNeA, gEq_ii, gNe_ii, gEq_tt, gIn_ints, gIn_intsL, gNotIn_ints, gNotIn_intsL, fM0, fM1, fJoined, fJ, flStar, starD, fCall0]
      refine ⟨b, rfl, by omega, by omega, by simp; omega, fun r h0 h1 => ?_⟩
      simp [and_assoc, Rho.set, dropOwn, ftLend, fLend, lendR, frz, ow, nList, -forall_exists_index, fBody, fsSeq, fsIf, fsRet, fsNext, fsDrop, fsAsg, fsNever, fsFor, fsOwn, fsPar2, fsPar3, fsPar_od, fsPar_do, fsPar_oo, fVar, fC, fUn, fOp, fChain, fTup, fLst, fCall, faD, faSt, flCons, flNil, fSl, foSome, foNone, fAnd, fOr, fNot, fIf, fOfN, fn1, fnLst, fnCat, fgN, fgTup, fgCons, fgNil, fiSeq, fiRange1, fiRange2, fiEnumA, fiZip, ftOr, ftAnd, ftNot, ftB, ftT, ftYes, truD_b, truD_i, truD_l, truD_t, truD_n, gIx_t0, gIx_t1, gIx_t2, gSl_t, gSl_l, gIsT, notDict, isT, isN, tyName, gLen_t, gLen_l, gTuple_l, gCmp, gAdd_ii, gAdd_ll, PD.gSub, gNeg, gMod, seqD, forD, wipeR, gEqA, gNeA, gEq_ii, gNe_ii, gEq_tt, gIn_ints, gIn_intsL, gNotIn_ints, gNotIn_intsL, fM0, fM1, fJoined, fJ, flStar, starD, fCall0]
      refine ⟨q, rfl, by omega, by simp; omega, fun ns nn h2 h3 => ?_⟩
      simp [and_assoc, Rho.set, dropOwn, ftLend, fLend, lendR, frz, ow, nList, -forall_exists_index, fBody, fsSeq, fsIf, fsRet, fsNext, fsDrop, fsAsg, fsNever, fsFor, fsOwn, fsPar2, fsPar3, fsPar_od, fsPar_do, fsPar_oo, fVar, fC, fUn, fOp, fChain, fTup, fLst, fCall, faD, faSt, flCons, flNil, fSl, foSome, foNone, fAnd, fOr, fNot, fIf, fOfN, fn1, fnLst, fnCat, fgN, fgTup, fgCons, fgNil, fiSeq, fiRange1, fiRange2, fiEnumA, fiZip, ftOr, ftAnd, ftNot, ftB, ftT, ftYes, truD_b, truD_i, truD_l, truD_t, truD_n, gIx_t0, gIx_t1, gIx_t2, gSl_t, gSl_l, gIsT, notDict, isT, isN, tyName, gLen_t, gLen_l, gTuple_l, gCmp, gAdd_ii, gAdd_ll, PD.gSub, gNeg, gMod, seqD, forD, wipeR, gEqA, gNeA, gEq_ii, gNe_ii, gEq_tt, gIn_ints, gIn_intsL, gNotIn_ints, gNotIn_intsL, fM0, fM1, fJoined, fJ, flStar, starD, fCall0]
      refine hk (r, ns) ⟨_, nn⟩ ⟨⟨h0, h1⟩, h2⟩ ?_
      simp only at h3 ⊢
      omega
    · rw [List.length_range] at hl2 hm
      rw [List.nil_append]
      simp [and_assoc, Rho.set, dropOwn, ftLend, fLend, lendR, frz, ow, nList, -forall_exists_index, fBody, fsSeq, fsIf, fsRet, fsNext, fsDrop, fsAsg, fsNever, fsFor, fsOwn, fsPar2, fsPar_od, fsPar_do, fsPar_oo, fVar, fC, fUn, fOp, fChain, fTup, fLst, fCall, faD, faSt, flCons, flNil, fSl, foSome, foNone, fAnd, fOr, fNot, fIf, fOfN, fn1, fnLst, fnCat, fgN, fgTup, fgCons, fgNil, fiSeq, fiRange1, fiRange2, fiEnumA, fiZip, ftOr, ftAnd, ftNot, ftB, ftT, ftYes, truD_b, truD_i, truD_l, truD_t, truD_n, gIx_t0, gIx_t1, gIx_t2, gSl_t, gSl_l, gIsT, notDict, isT, isN, tyName, gLen_t, gLen_l, gTuple_l, gCmp, gAdd_ii, gAdd_ss, gAdd_tt, gAdd_ll, PD.gSub, gNeg, gMod, seqD, forD, wipeR, gEqA, gNeA, gEq_ii, gNe_ii, gEq_tt, gIn_ints, gIn_intsL, gNotIn_ints, gNotIn_intsL]
      refine ⟨by omega, ?_⟩
      have := ih (gc ++ [rs]) m (.d (.int j)) x5 P (by omega) (by rw [List.length_append, List.length_singleton]; omega) (fun r hr' => ?_) (fun gf n' x4 x5 g1 g2 g3 => h gf n' x4 x5 g1 (by rw [g2, List.length_append, List.length_singleton, List.length_cons]; omega) (by rw [List.length_cons, Nat.succ_mul]; omega))
      · rw [List.map_append] at this
        exact this
      · rcases List.mem_append.mp hr' with u | u
        · exact hT r u
        · rw [List.mem_singleton] at u
          subst u
          exact ⟨hl2, hr⟩
def W_law_watchman : FE := fun ρ k => ∃ (q : Int), ρ.sl = [.st, .d (.int q)] ∧ (1 ≤ q ∧ q ≤ 4) ∧ ρ.n + 1000 ≤ 1000000000000 ∧ ∀ (g : List (List (Int × List Int))) (nn : Nat), (GOK q g) → nn ≤ ρ.n + 1000 → k (guardD g) ⟨ρ.sl, nn⟩
theorem mW_law_watchman (ρ : Rho) (k k' : KD) (h : ∀ d ρ', k d ρ' → k' d ρ') (q : W_law_watchman ρ k) : W_law_watchman ρ k' := by
  obtain ⟨q, e1, e2, e3, e4⟩ := q
  exact ⟨q, e1, e2, e3, fun g nn a b => h _ _ (e4 g nn a b)⟩
theorem ok_law_watchman : ∀ ρ k, W_law_watchman ρ k → fBody 6 w_law_watchman ρ k := by
  rintro ⟨sl, n⟩ k ⟨q, e, hq, hn, z⟩
  simp only at e hn z
  subst e
  simp [w_law_watchman]
  simp [and_assoc, Rho.set, dropOwn, ftLend, fLend, lendR, frz, ow, nList, -forall_exists_index, fBody, fsSeq, fsIf, fsRet, fsNext, fsDrop, fsAsg, fsNever, fsFor, fsOwn, fsPar2, fsPar3, fsPar_od, fsPar_do, fsPar_oo, fVar, fC, fUn, fOp, fChain, fTup, fLst, fCall, faD, faSt, flCons, flNil, fSl, foSome, foNone, fAnd, fOr, fNot, fIf, fOfN, fn1, fnLst, fnCat, fgN, fgTup, fgCons, fgNil, fiSeq, fiRange1, fiRange2, fiEnumA, fiZip, ftOr, ftAnd, ftNot, ftB, ftT, ftYes, truD_b, truD_i, truD_l, truD_t, truD_n, gIx_t0, gIx_t1, gIx_t2, gSl_t, gSl_l, gIsT, notDict, isT, isN, tyName, gLen_t, gLen_l, gTuple_l, gCmp, gAdd_ii, gAdd_ll, PD.gSub, gNeg, gMod, seqD, forD, wipeR, gEqA, gNeA, gEq_ii, gNe_ii, gEq_tt, gIn_ints, gIn_intsL, gNotIn_ints, gNotIn_intsL, fM0, fM1, fJoined, fJ, flStar, starD, fCall0]
  refine ⟨8, rfl, by decide, by decide, by simp; omega, fun r1 a1 b1 => ?_⟩
  simp [and_assoc, Rho.set, dropOwn, ftLend, fLend, lendR, frz, ow, nList, -forall_exists_index, fBody, fsSeq, fsIf, fsRet, fsNext, fsDrop, fsAsg, fsNever, fsFor, fsOwn, fsPar2, fsPar3, fsPar_od, fsPar_do, fsPar_oo, fVar, fC, fUn, fOp, fChain, fTup, fLst, fCall, faD, faSt, flCons, flNil, fSl, foSome, foNone, fAnd, fOr, fNot, fIf, fOfN, fn1, fnLst, fnCat, fgN, fgTup, fgCons, fgNil, fiSeq, fiRange1, fiRange2, fiEnumA, fiZip, ftOr, ftAnd, ftNot, ftB, ftT, ftYes, truD_b, truD_i, truD_l, truD_t, truD_n, gIx_t0, gIx_t1, gIx_t2, gSl_t, gSl_l, gIsT, notDict, isT, isN, tyName, gLen_t, gLen_l, gTuple_l, gCmp, gAdd_ii, gAdd_ll, PD.gSub, gNeg, gMod, seqD, forD, wipeR, gEqA, gNeA, gEq_ii, gNe_ii, gEq_tt, gIn_ints, gIn_intsL, gNotIn_ints, gNotIn_intsL, fM0, fM1, fJoined, fJ, flStar, starD, fCall0]
  obtain ⟨b, rfl⟩ := Int.eq_ofNat_of_zero_le a1
  obtain ⟨c, rfl⟩ := Int.eq_ofNat_of_zero_le (show 0 ≤ q by omega)
  rw [show (1 : Int) + (b : Int) = ((1 + b : Nat) : Int) by omega, rangeD_nat]
  refine ⟨by omega, by omega, ward_rows c 0 (1 + b) (by omega) (by omega) (by omega) (List.range (1 + b)) [] _ _ _ _ (by rw [List.length_range]; omega) (by rw [List.length_range]; simp; omega) (fun m hm => absurd hm List.not_mem_nil) fun gf n' x4 x5 g1 g2 g3 => ?_⟩
  rw [List.length_range] at g2 g3
  rw [List.length_nil, Nat.zero_add] at g2
  refine ⟨_, rfl, _, rfl, z gf n' ⟨hq.1, hq.2, by omega, by omega, fun m hm => by rw [(g1 m hm).1], fun m hm p hp => ?_, fun m hm p hp => ?_⟩ (by omega)⟩
  · have := ((g1 m hm).2 p hp).1
    omega
  · exact ((g1 m hm).2 p hp).2
abbrev s_law_near_goal : Stmt := top 48
theorem sc_law_near_goal : FnScope ["m", "goal", "count", "rows", "good", "k", "act", "way", "other", "row"] ["m", "goal"] (defScope s_law_near_goal) := ⟨rfl, rfl, rfl, by decide +kernel, rfl, by decide +kernel, by decide +kernel⟩
def w_law_near_goal : FS := fsSeq (fsAsg (fVar 1) (fgTup 3 (fgCons (fgN 2) (fgCons (fgN 3) (fgCons (fgN 4) (fgNil))))))
  (fsSeq (fsPar3 5 6 7 (flCons (fCall 2 W_law_next (faSt 0 (flCons (fUn gLen (fVar 3)) (flNil)))) (flCons (fCall 2 W_law_next (faSt 0 (flCons (fVar 2) (flNil)))) (flCons (fCall 2 W_law_next (faSt 0 (flCons (fC (.int 4)) (flNil)))) (flNil)))))
  (fsSeq (fsIf (ftB (fOp gEqA (fVar 7) (fC (.int 0)))) (fsSeq (fsAsg (fOp gAdd (fOp gAdd (fSl gSl (fOp gIx (fVar 3) (fVar 5)) (foNone) (foSome (fVar 6))) (fTup (flCons (fCall 2 W_law_next (faSt 0 (flCons (fUn gLen (fVar 3)) (flNil)))) (flNil)))) (fSl gSl (fOp gIx (fVar 3) (fVar 5)) (foSome (fOp gAdd (fVar 6) (fC (.int 1)))) (foNone))) (fgN 8))
  (fsRet (fTup (flCons (fVar 2) (flCons (fOp gAdd (fOp gAdd (fSl gSl (fVar 3) (foNone) (foSome (fVar 5))) (fTup (flCons (fVar 8) (flNil)))) (fSl gSl (fVar 3) (foSome (fOp gAdd (fVar 5) (fC (.int 1)))) (foNone))) (flCons (fVar 4) (flNil))))))) (fsNext))
  (fsSeq (fsIf (ftB (fOp gEqA (fVar 7) (fC (.int 1)))) (fsRet (fTup (flCons (fVar 2) (flCons (fVar 3) (flCons (fUn gTuple (fOfN (fn1 nSortSetA (fOp gAdd (fTup (flCons (fC (.int 0)) (flCons (fVar 5) (flNil)))) (fSl gSl (fVar 4) (foNone) (foSome (fUn gNeg (fC (.int 1))))))))) (flNil)))))) (fsNext))
  (fsSeq (fsIf (ftAnd (ftB (fOp gEqA (fVar 7) (fC (.int 2)))) (ftB (fOp gLt (fUn gLen (fVar 3)) (fC (.int 6))))) (fsRet (fTup (flCons (fVar 2) (flCons (fOp gAdd (fVar 3) (fSl gSl (fVar 3) (foSome (fVar 5)) (foSome (fOp gAdd (fVar 5) (fC (.int 1)))))) (flCons (fVar 4) (flNil)))))) (fsNext))
  (fsSeq (fsIf (ftAnd (ftB (fOp gEqA (fVar 7) (fC (.int 3)))) (ftB (fOp gLt (fVar 2) (fC (.int 4))))) (fsRet (fTup (flCons (fOp gAdd (fVar 2) (fC (.int 1))) (flCons (fUn gTuple (fOfN (fnComp (fiSeq (fVar 3)) (fgN 9) (ftYes) (fOp gAdd (fVar 9) (fSl gSl (fVar 9) (foNone) (foSome (fC (.int 1))))) [9]))) (flCons (fVar 4) (flNil)))))) (fsNext))
  (fsRet (fTup (flCons (fVar 2) (flCons (fVar 3) (flCons (fUn gTupRg (fUn gLen (fVar 3))) (flNil)))))))))))
theorem raw_law_near_goal {f : Addr} {fd : FuncData} {a_law_next : Addr} {d_law_next : FuncData} (F : Fun K "_law_near_goal" "_law_near_goal" s_law_near_goal f fd) (T : Txt mg) (g_law_next : mg "_law_next" = some (.ref a_law_next)) (G_law_next : FnG P w K mg base (L2.CX P w) 1 a_law_next d_law_next ["m", "total"] (spD ⟨K, w⟩ M 2 W_law_next)) (b_law_next : Binds K d_law_next ["m", "total"] []) (k_law_next : PySem.W.keepIn K (.ref a_law_next) = true) : FnG P w K mg base (L2.CX P w) 2 f fd ["m", "goal"] (spD ⟨K, w⟩ M 2 (fBody 10 w_law_near_goal)) := by
  refine fnD F sc_law_near_goal fun cdv A outer s H E hgd hr => ?_
  have nd := (sc_law_near_goal).nd
  have hu : (A.deeper (envOfC "_law_near_goal" (defScope s_law_near_goal) s.heap.objs.size f cdv)).units + 64 < cLine := hr.units
  exact pds_cons (pds_asg (pd_var (pv 1)) (pg1_tup (pgn_cons (pg1_name (i := 2) (pg_name (i := 2) nd rfl (by first | exact Or.inl rfl | exact Or.inr rfl))) (pgn_cons (pg1_name (i := 3) (pg_name (i := 3) nd rfl (by first | exact Or.inl rfl | exact Or.inr rfl))) (pgn_cons (pg1_name (i := 4) (pg_name (i := 4) nd rfl (by first | exact Or.inl rfl | exact Or.inr rfl))) (pgn_nil) (pgs_cons (pg1_name (i := 4) (pg_name (i := 4) nd rfl (by first | exact Or.inl rfl | exact Or.inr rfl))).pg (pgn_nil).pg)) (pgs_cons (pg1_name (i := 3) (pg_name (i := 3) nd rfl (by first | exact Or.inl rfl | exact Or.inr rfl))).pg (pgn_cons (pg1_name (i := 4) (pg_name (i := 4) nd rfl (by first | exact Or.inl rfl | exact Or.inr rfl))) (pgn_nil) (pgs_cons (pg1_name (i := 4) (pg_name (i := 4) nd rfl (by first | exact Or.inl rfl | exact Or.inr rfl))).pg (pgn_nil).pg)).pg)) (pgs_cons (pg1_name (i := 2) (pg_name (i := 2) nd rfl (by first | exact Or.inl rfl | exact Or.inr rfl))).pg (pgn_cons (pg1_name (i := 3) (pg_name (i := 3) nd rfl (by first | exact Or.inl rfl | exact Or.inr rfl))) (pgn_cons (pg1_name (i := 4) (pg_name (i := 4) nd rfl (by first | exact Or.inl rfl | exact Or.inr rfl))) (pgn_nil) (pgs_cons (pg1_name (i := 4) (pg_name (i := 4) nd rfl (by first | exact Or.inl rfl | exact Or.inr rfl))).pg (pgn_nil).pg)) (pgs_cons (pg1_name (i := 3) (pg_name (i := 3) nd rfl (by first | exact Or.inl rfl | exact Or.inr rfl))).pg (pgn_cons (pg1_name (i := 4) (pg_name (i := 4) nd rfl (by first | exact Or.inl rfl | exact Or.inr rfl))) (pgn_nil) (pgs_cons (pg1_name (i := 4) (pg_name (i := 4) nd rfl (by first | exact Or.inl rfl | exact Or.inr rfl))).pg (pgn_nil).pg)).pg)).pg)) (pg_tup rfl (pgn_cons (pg1_name (i := 2) (pg_name (i := 2) nd rfl (by first | exact Or.inl rfl | exact Or.inr rfl))) (pgn_cons (pg1_name (i := 3) (pg_name (i := 3) nd rfl (by first | exact Or.inl rfl | exact Or.inr rfl))) (pgn_cons (pg1_name (i := 4) (pg_name (i := 4) nd rfl (by first | exact Or.inl rfl | exact Or.inr rfl))) (pgn_nil) (pgs_cons (pg1_name (i := 4) (pg_name (i := 4) nd rfl (by first | exact Or.inl rfl | exact Or.inr rfl))).pg (pgn_nil).pg)) (pgs_cons (pg1_name (i := 3) (pg_name (i := 3) nd rfl (by first | exact Or.inl rfl | exact Or.inr rfl))).pg (pgn_cons (pg1_name (i := 4) (pg_name (i := 4) nd rfl (by first | exact Or.inl rfl | exact Or.inr rfl))) (pgn_nil) (pgs_cons (pg1_name (i := 4) (pg_name (i := 4) nd rfl (by first | exact Or.inl rfl | exact Or.inr rfl))).pg (pgn_nil).pg)).pg)) (pgs_cons (pg1_name (i := 2) (pg_name (i := 2) nd rfl (by first | exact Or.inl rfl | exact Or.inr rfl))).pg (pgn_cons (pg1_name (i := 3) (pg_name (i := 3) nd rfl (by first | exact Or.inl rfl | exact Or.inr rfl))) (pgn_cons (pg1_name (i := 4) (pg_name (i := 4) nd rfl (by first | exact Or.inl rfl | exact Or.inr rfl))) (pgn_nil) (pgs_cons (pg1_name (i := 4) (pg_name (i := 4) nd rfl (by first | exact Or.inl rfl | exact Or.inr rfl))).pg (pgn_nil).pg)) (pgs_cons (pg1_name (i := 3) (pg_name (i := 3) nd rfl (by first | exact Or.inl rfl | exact Or.inr rfl))).pg (pgn_cons (pg1_name (i := 4) (pg_name (i := 4) nd rfl (by first | exact Or.inl rfl | exact Or.inr rfl))) (pgn_nil) (pgs_cons (pg1_name (i := 4) (pg_name (i := 4) nd rfl (by first | exact Or.inl rfl | exact Or.inr rfl))).pg (pgn_nil).pg)).pg)).pg)).pg)))
    (pds_cons (pds_par3 (ps_par3 (i := 5) (j := 6) (l := 7) rfl nd rfl rfl rfl (by decide) (by decide) (by decide) rfl rfl rfl (pdl_cons (pd_call mW_law_next (G_law_next.mono (by decide)) hgd hr (by rfl) g_law_next k_law_next b_law_next (pda_st (pv 0) (pdl_cons (pd_b1 call_lenA r1_len (by rfl) T.len (by decide +kernel) (pd_var (pv 3))) (pdl_nil)))) (pdl_cons (pd_call mW_law_next (G_law_next.mono (by decide)) hgd hr (by rfl) g_law_next k_law_next b_law_next (pda_st (pv 0) (pdl_cons (pd_var (pv 2)) (pdl_nil)))) (pdl_cons (pd_call mW_law_next (G_law_next.mono (by decide)) hgd hr (by rfl) g_law_next k_law_next b_law_next (pda_st (pv 0) (pdl_cons (pd_int) (pdl_nil)))) (pdl_nil)))).pa (by rfl)) (pdl_cons (pd_call mW_law_next (G_law_next.mono (by decide)) hgd hr (by rfl) g_law_next k_law_next b_law_next (pda_st (pv 0) (pdl_cons (pd_b1 call_lenA r1_len (by rfl) T.len (by decide +kernel) (pd_var (pv 3))) (pdl_nil)))) (pdl_cons (pd_call mW_law_next (G_law_next.mono (by decide)) hgd hr (by rfl) g_law_next k_law_next b_law_next (pda_st (pv 0) (pdl_cons (pd_var (pv 2)) (pdl_nil)))) (pdl_cons (pd_call mW_law_next (G_law_next.mono (by decide)) hgd hr (by rfl) g_law_next k_law_next b_law_next (pda_st (pv 0) (pdl_cons (pd_int) (pdl_nil)))) (pdl_nil)))))
    (pds_cons (pds_if (pdt_cmp (op_eqA hu) rd_eqA (pd_var (pv 7)) (pd_int) (by first | exact nomark _ | rfl)) (pds_cons (pds_asg (pd_op op_addA rd_add (pd_op op_addA rd_add (pd_slice (pd_ix ix_any rd_ix (pd_var (pv 3)) (pd_var (pv 5)) (fun _ _ => rfl)) (pdo_none) (pdo_some (pd_var (pv 6)))) (pd_tup (pdl_cons (pd_call mW_law_next (G_law_next.mono (by decide)) hgd hr (by rfl) g_law_next k_law_next b_law_next (pda_st (pv 0) (pdl_cons (pd_b1 call_lenA r1_len (by rfl) T.len (by decide +kernel) (pd_var (pv 3))) (pdl_nil)))) (pdl_nil)))) (pd_slice (pd_ix ix_any rd_ix (pd_var (pv 3)) (pd_var (pv 5)) (fun _ _ => rfl)) (pdo_some (pd_op op_addA rd_add (pd_var (pv 6)) (pd_int))) (pdo_none))) (pg1_name (i := 8) (pg_name (i := 8) nd rfl (by first | exact Or.inl rfl | exact Or.inr rfl))))
    (pds_one (pds_ret (pd_tup (pdl_cons (pd_var (pv 2)) (pdl_cons (pd_op op_addA rd_add (pd_op op_addA rd_add (pd_slice (pd_var (pv 3)) (pdo_none) (pdo_some (pd_var (pv 5)))) (pd_tup (pdl_cons (pd_var (pv 8)) (pdl_nil)))) (pd_slice (pd_var (pv 3)) (pdo_some (pd_op op_addA rd_add (pd_var (pv 5)) (pd_int))) (pdo_none))) (pdl_cons (pd_var (pv 4)) (pdl_nil)))))))) (pds_nil))
    (pds_cons (pds_if (pdt_cmp (op_eqA hu) rd_eqA (pd_var (pv 7)) (pd_int) (by first | exact nomark _ | rfl)) (pds_one (pds_ret (pd_tup (pdl_cons (pd_var (pv 2)) (pdl_cons (pd_var (pv 3)) (pdl_cons (pd_t1 call_tuple_of r1_tuple (by rfl) T.tuple (by decide +kernel) (pd_ofN (pn_sortsetA rfl (by rfl) T.sorted (by rfl) T.set (pd_op op_addA rd_add (pd_tup (pdl_cons (pd_int) (pdl_cons (pd_var (pv 5)) (pdl_nil)))) (pd_slice (pd_var (pv 4)) (pdo_none) (pdo_some (pd_un un_neg r1_neg (pd_int)))))))) (pdl_nil))))))) (pds_nil))
    (pds_cons (pds_if (PDW.pt (pdw_and (pdt_cmp (op_eqA hu) rd_eqA (pd_var (pv 7)) (pd_int) (by first | exact nomark _ | rfl)) (pdw_and1 (pdt_cmp op_lt rd_cmp (pd_b1 call_lenA r1_len (by rfl) T.len (by decide +kernel) (pd_var (pv 3))) (pd_int) (by first | exact nomark _ | rfl))))) (pds_one (pds_ret (pd_tup (pdl_cons (pd_var (pv 2)) (pdl_cons (pd_op op_addA rd_add (pd_var (pv 3)) (pd_slice (pd_var (pv 3)) (pdo_some (pd_var (pv 5))) (pdo_some (pd_op op_addA rd_add (pd_var (pv 5)) (pd_int))))) (pdl_cons (pd_var (pv 4)) (pdl_nil))))))) (pds_nil))
    (pds_cons (pds_if (PDW.pt (pdw_and (pdt_cmp (op_eqA hu) rd_eqA (pd_var (pv 7)) (pd_int) (by first | exact nomark _ | rfl)) (pdw_and1 (pdt_cmp op_lt rd_cmp (pd_var (pv 2)) (pd_int) (by first | exact nomark _ | rfl))))) (pds_one (pds_ret (pd_tup (pdl_cons (pd_op op_addA rd_add (pd_var (pv 2)) (pd_int)) (pdl_cons (pd_t1 call_tuple_of r1_tuple (by rfl) T.tuple (by decide +kernel) (pd_ofN (pn_lc rfl nd (own := [("row", 9)]) (vs := [9]) (pdi_seq (pd_var (pv 3))) (blkOk_by (own := [("row", 9)]) (N := ["m", "goal", "count", "rows", "good", "k", "act", "way", "other", "row"]) (sc := defScope s_law_near_goal) (by decide +kernel)) rfl (fun _ _ _ _ _ => pg1_name (i := 9) (pg_name (i := 9) nd rfl (by first | exact Or.inl rfl | exact Or.inr rfl))) (fun _ _ _ _ _ => ptn_nil) (fun _ _ _ _ _ => pd_op op_addA rd_add (pd_var (pv 9)) (pd_slice (pd_var (pv 9)) (pdo_none) (pdo_some (pd_int)))) s))) (pdl_cons (pd_var (pv 4)) (pdl_nil))))))) (pds_nil))
    (pds_one (pds_ret (pd_tup (pdl_cons (pd_var (pv 2)) (pdl_cons (pd_var (pv 3)) (pdl_cons (pd_tupRg rfl (by rfl) T.tuple (by rfl) T.range (pd_b1 call_lenA r1_len (by rfl) T.len (by decide +kernel) (pd_var (pv 3)))) (pdl_nil))))))))))))
def W_law_near_goal : FE := fun ρ k => ∃ q T G, ρ.sl = [.st, .d (wishD q T G)] ∧ (WOK q T G) ∧ ρ.n + 100 ≤ 1000000000000 ∧ ∀ (q2 : Int) (T2 : List (List Int)) (G2 : List Int) (nn : Nat), (WOK q2 T2 G2) → nn ≤ ρ.n + 100 → k (wishD q2 T2 G2) ⟨ρ.sl, nn⟩
theorem mW_law_near_goal (ρ : Rho) (k k' : KD) (h : ∀ d ρ', k d ρ' → k' d ρ') (q : W_law_near_goal ρ k) : W_law_near_goal ρ k' := by
  obtain ⟨q, T, G, e1, e2, e3, e4⟩ := q
  exact ⟨q, T, G, e1, e2, e3, fun q2 T2 G2 nn a b => h _ _ (e4 q2 T2 G2 nn a b)⟩
theorem ok_law_near_goal : ∀ ρ k, W_law_near_goal ρ k → fBody 10 w_law_near_goal ρ k := by
  rintro ⟨sl, n⟩ k ⟨q, T, G, e, h, hn, z⟩
  simp only at e hn z
  subst e
  have t1 := h.t1
  have t6 := h.t6
  have q1 := h.q1
  have q4 := h.q4
  simp [w_law_near_goal]
  simp [and_assoc, Rho.set, dropOwn, ftLend, fLend, lendR, frz, ow, nList, -forall_exists_index, fBody, fsSeq, fsIf, fsRet, fsNext, fsDrop, fsAsg, fsNever, fsFor, fsOwn, fsPar2, fsPar_od, fsPar_do, fsPar_oo, fVar, fC, fUn, fOp, fChain, fTup, fLst, fCall, faD, faSt, flCons, flNil, fSl, foSome, foNone, fAnd, fOr, fNot, fIf, fOfN, fn1, fnLst, fnCat, fgN, fgTup, fgCons, fgNil, fiSeq, fiRange1, fiRange2, fiEnumA, fiZip, ftOr, ftAnd, ftNot, ftB, ftT, ftYes, truD_b, truD_i, truD_l, truD_t, truD_n, gIx_t0, gIx_t1, gIx_t2, gSl_t, gSl_l, gIsT, notDict, isT, isN, tyName, gLen_t, gLen_l, gTuple_l, gCmp, gAdd_ii, gAdd_ss, gAdd_tt, gAdd_ll, PD.gSub, gNeg, gMod, seqD, forD, wipeR, gEqA, gNeA, gEq_ii, gNe_ii, gEq_tt, gIn_ints, gIn_intsL, gNotIn_ints, gNotIn_intsL]
  unfold fsPar3
  simp [and_assoc, Rho.set, dropOwn, ftLend, fLend, lendR, frz, ow, nList, -forall_exists_index, fBody, fsSeq, fsIf, fsRet, fsNext, fsDrop, fsAsg, fsNever, fsFor, fsOwn, fsPar2, fsPar3, fsPar_od, fsPar_do, fsPar_oo, fVar, fC, fUn, fOp, fChain, fTup, fLst, fCall, faD, faSt, flCons, flNil, fSl, foSome, foNone, fAnd, fOr, fNot, fIf, fOfN, fn1, fnLst, fnCat, fgN, fgTup, fgCons, fgNil, fiSeq, fiRange1, fiRange2, fiEnumA, fiZip, ftOr, ftAnd, ftNot, ftB, ftT, ftYes, truD_b, truD_i, truD_l, truD_t, truD_n, gIx_t0, gIx_t1, gIx_t2, gSl_t, gSl_l, gIsT, notDict, isT, isN, tyName, gLen_t, gLen_l, gTuple_l, gCmp, gAdd_ii, gAdd_ll, PD.gSub, gNeg, gMod, seqD, forD, wipeR, gEqA, gNeA, gEq_ii, gNe_ii, gEq_tt, gIn_ints, gIn_intsL, gNotIn_ints, gNotIn_intsL, fM0, fM1, fJoined, fJ, flStar, starD, fCall0]
  refine ⟨T.length, rfl, by omega, by omega, by simp; omega, fun r1 a1 b1 => ?_⟩
  simp [and_assoc, Rho.set, dropOwn, ftLend, fLend, lendR, frz, ow, nList, -forall_exists_index, fBody, fsSeq, fsIf, fsRet, fsNext, fsDrop, fsAsg, fsNever, fsFor, fsOwn, fsPar2, fsPar3, fsPar_od, fsPar_do, fsPar_oo, fVar, fC, fUn, fOp, fChain, fTup, fLst, fCall, faD, faSt, flCons, flNil, fSl, foSome, foNone, fAnd, fOr, fNot, fIf, fOfN, fn1, fnLst, fnCat, fgN, fgTup, fgCons, fgNil, fiSeq, fiRange1, fiRange2, fiEnumA, fiZip, ftOr, ftAnd, ftNot, ftB, ftT, ftYes, truD_b, truD_i, truD_l, truD_t, truD_n, gIx_t0, gIx_t1, gIx_t2, gSl_t, gSl_l, gIsT, notDict, isT, isN, tyName, gLen_t, gLen_l, gTuple_l, gCmp, gAdd_ii, gAdd_ll, PD.gSub, gNeg, gMod, seqD, forD, wipeR, gEqA, gNeA, gEq_ii, gNe_ii, gEq_tt, gIn_ints, gIn_intsL, gNotIn_ints, gNotIn_intsL, fM0, fM1, fJoined, fJ, flStar, starD, fCall0]
  refine ⟨q, rfl, by omega, by omega, by simp; omega, fun r2 a2 b2 => ?_⟩
  simp [and_assoc, Rho.set, dropOwn, ftLend, fLend, lendR, frz, ow, nList, -forall_exists_index, fBody, fsSeq, fsIf, fsRet, fsNext, fsDrop, fsAsg, fsNever, fsFor, fsOwn, fsPar2, fsPar3, fsPar_od, fsPar_do, fsPar_oo, fVar, fC, fUn, fOp, fChain, fTup, fLst, fCall, faD, faSt, flCons, flNil, fSl, foSome, foNone, fAnd, fOr, fNot, fIf, fOfN, fn1, fnLst, fnCat, fgN, fgTup, fgCons, fgNil, fiSeq, fiRange1, fiRange2, fiEnumA, fiZip, ftOr, ftAnd, ftNot, ftB, ftT, ftYes, truD_b, truD_i, truD_l, truD_t, truD_n, gIx_t0, gIx_t1, gIx_t2, gSl_t, gSl_l, gIsT, notDict, isT, isN, tyName, gLen_t, gLen_l, gTuple_l, gCmp, gAdd_ii, gAdd_ll, PD.gSub, gNeg, gMod, seqD, forD, wipeR, gEqA, gNeA, gEq_ii, gNe_ii, gEq_tt, gIn_ints, gIn_intsL, gNotIn_ints, gNotIn_intsL, fM0, fM1, fJoined, fJ, flStar, starD, fCall0]
  refine ⟨4, rfl, by omega, by omega, by simp; omega, fun r3 a3 b3 => ?_⟩
  simp [and_assoc, Rho.set, dropOwn, ftLend, fLend, lendR, frz, ow, nList, -forall_exists_index, fBody, fsSeq, fsIf, fsRet, fsNext, fsDrop, fsAsg, fsNever, fsFor, fsOwn, fsPar2, fsPar3, fsPar_od, fsPar_do, fsPar_oo, fVar, fC, fUn, fOp, fChain, fTup, fLst, fCall, faD, faSt, flCons, flNil, fSl, foSome, foNone, fAnd, fOr, fNot, fIf, fOfN, fn1, fnLst, fnCat, fgN, fgTup, fgCons, fgNil, fiSeq, fiRange1, fiRange2, fiEnumA, fiZip, ftOr, ftAnd, ftNot, ftB, ftT, ftYes, truD_b, truD_i, truD_l, truD_t, truD_n, gIx_t0, gIx_t1, gIx_t2, gSl_t, gSl_l, gIsT, notDict, isT, isN, tyName, gLen_t, gLen_l, gTuple_l, gCmp, gAdd_ii, gAdd_ll, PD.gSub, gNeg, gMod, seqD, forD, wipeR, gEqA, gNeA, gEq_ii, gNe_ii, gEq_tt, gIn_ints, gIn_intsL, gNotIn_ints, gNotIn_intsL, fM0, fM1, fJoined, fJ, flStar, starD, fCall0]
  obtain ⟨i, rfl⟩ := Int.eq_ofNat_of_zero_le a1
  obtain ⟨j, rfl⟩ := Int.eq_ofNat_of_zero_le a2
  have hi : i < T.length := by omega
  have hm : T[i] ∈ T := List.getElem_mem hi
  have hrow := h.row T[i] hm
  have hj : j < T[i].length := by omega
  have last : ∃ d, gTupRg (.int (T.length : Int)) = some d ∧ k (.tuple [.int q, tupT T, d]) ⟨[.st, .d (wishD q T G)], n + 1 + 1 + 1⟩ := by
    refine ⟨_, gTupRg_nat _ (by omega), z q T _ _ ⟨h.q1, h.q4, h.t1, h.t6, h.row, ?_, fun x hx => ?_, ?_⟩ (by omega)⟩
    · exact List.Pairwise.map _ (R := fun i j : Nat => i < j) (fun i j h => by omega) List.pairwise_lt_range
    · obtain ⟨c, hc, rfl⟩ := List.mem_map.mp hx
      have := List.mem_range.mp hc
      omega
    · exact List.mem_map.mpr ⟨0, List.mem_range.mpr (by omega), rfl⟩
  have gi : gIx (tupT T) (.int (i : Int)) = some (tupI T[i]) := gIx_tup (by rw [List.getElem?_map, List.getElem?_eq_getElem hi]; rfl)
  rcases (by omega : r3 = 0 ∨ r3 = 1 ∨ r3 = 2 ∨ r3 = 3) with rfl | rfl | rfl | rfl
  · refine .inr ⟨rfl, _, gi, _, by rw [gSl_tt, cut_to], T.length, rfl, by omega, by omega, by simp; omega, fun x x0 x1 => ⟨_, gAdd_t _ _ (by simp; omega), _, gi, _, by rw [show (j : Int) + 1 = ((j + 1 : Nat) : Int) by omega, gSl_tt, cut_from], _, gAdd_t _ _ (by simp; omega), ?_⟩⟩
    have e1 : (T[i].map PyData.int).take j ++ [.int x] ++ (T[i].map PyData.int).drop (j + 1) = (T[i].set j x).map .int := by
      rw [set_cut _ _ _ (by rw [List.length_map]; exact hj), List.map_set]
    rw [e1]
    refine ⟨_, by rw [gSl_tt, cut_to], _, gAdd_t _ _ (by simp; omega), _, by rw [show (i : Int) + 1 = ((i + 1 : Nat) : Int) by omega, gSl_tt, cut_from], _, gAdd_t _ _ (by simp; omega), ?_⟩
    have e2 : (T.map tupI).take i ++ [tupI (T[i].set j x)] ++ (T.map tupI).drop (i + 1) = (T.set i (T[i].set j x)).map tupI := by
      rw [set_cut _ _ _ (by rw [List.length_map]; exact hi), List.map_set]
    rw [e2]
    refine z q (T.set i (T[i].set j x)) G _ ⟨h.q1, h.q4, by rw [List.length_set]; exact h.t1, by rw [List.length_set]; exact h.t6, fun r hr => ?_, h.gs, fun y hy => by rw [List.length_set]; exact h.gr y hy, h.g0⟩ (by show n + 1 + 1 + 1 + 1 ≤ n + 100; omega)
    rw [List.length_set]
    rcases List.mem_or_eq_of_mem_set hr with u | u
    · exact h.row r u
    · subst u
      refine ⟨by rw [List.length_set]; exact hrow.1, fun y hy => ?_⟩
      rcases List.mem_or_eq_of_mem_set hy with u | u
      · exact hrow.2 y u
      · subst u; omega
  · refine .inl ⟨by decide, .inr ⟨rfl, _, by rw [gSl_tt, cut_init], _, gAdd_t _ _ (by have := h.goodDg.2; simp; omega), ?_⟩⟩
    have e : ([.int 0, .int (i : Int)] ++ (G.map PyData.int).dropLast : List D) = ((0 : Int) :: (i : Int) :: G.dropLast).map .int := by
      rw [List.map_cons, List.map_cons, List.map_dropLast]
      rfl
    rw [e]
    have hmem : ∀ x ∈ usort ((0 : Int) :: (i : Int) :: G.dropLast), 0 ≤ x ∧ x ≤ (T.length : Int) - 1 := fun x hx => by
      have hx := usort_mem.mp hx
      rcases List.mem_cons.mp hx with u | u
      · omega
      · rcases List.mem_cons.mp u with u | u
        · omega
        · exact h.gr x (List.dropLast_subset _ u)
    exact ⟨_, nSortSetA_ints (by have := h.goodDg.2; simp; omega), z q T _ _ ⟨h.q1, h.q4, h.t1, h.t6, h.row, usort_lt _, hmem, usort_mem.mpr List.mem_cons_self⟩ (by omega)⟩
  · refine .inl ⟨by decide, .inl ⟨by decide, .inr ⟨rfl, ?_⟩⟩⟩
    by_cases e : (6 : Int) ≤ T.length
    · exact .inl ⟨e, .inl ⟨by decide, last⟩⟩
    · refine .inr ⟨by omega, _, by rw [gSl_tt, cut_mid _ i 0 (by rw [List.length_map]; exact hi)], _, gAdd_t _ _ (by simp; omega), ?_⟩
      have e2 : T.map tupI ++ [(T.map tupI)[i]'(by rw [List.length_map]; exact hi)] = (T ++ [T[i]]).map tupI := by
        rw [List.map_append, List.getElem_map]
        rfl
      rw [e2]
      refine z q (T ++ [T[i]]) G _ ⟨h.q1, h.q4, by rw [List.length_append]; omega, by rw [List.length_append, List.length_singleton]; omega, fun r hr => ?_, h.gs, fun y hy => ?_, h.g0⟩ (by omega)
      · rw [List.length_append, List.length_singleton]
        have : r ∈ T := by
          rcases List.mem_append.mp hr with u | u
          · exact u
          · rw [List.mem_singleton] at u
            subst u
            exact hm
        refine ⟨(h.row r this).1, fun y hy => ?_⟩
        have := (h.row r this).2 y hy
        omega
      · rw [List.length_append, List.length_singleton]
        have := h.gr y hy
        omega
  · refine .inl ⟨by decide, .inl ⟨by decide, .inl ⟨by decide, .inr ⟨rfl, ?_⟩⟩⟩⟩
    by_cases e : 4 ≤ q
    · exact .inl ⟨e, last⟩
    · refine .inr ⟨by omega, ?_⟩
      refine fnComp_i ?_
      simp [and_assoc, Rho.set, dropOwn, ftLend, fLend, lendR, frz, ow, nList, -forall_exists_index, fBody, fsSeq, fsIf, fsRet, fsNext, fsDrop, fsAsg, fsNever, fsFor, fsOwn, fsPar2, fsPar3, fsPar_od, fsPar_do, fsPar_oo, fVar, fC, fUn, fOp, fChain, fTup, fLst, fCall, faD, faSt, flCons, flNil, fSl, foSome, foNone, fAnd, fOr, fNot, fIf, fOfN, fn1, fnLst, fnCat, fgN, fgTup, fgCons, fgNil, fiSeq, fiRange1, fiRange2, fiEnumA, fiZip, ftOr, ftAnd, ftNot, ftB, ftT, ftYes, truD_b, truD_i, truD_l, truD_t, truD_n, gIx_t0, gIx_t1, gIx_t2, gSl_t, gSl_l, gIsT, notDict, isT, isN, tyName, gLen_t, gLen_l, gTuple_l, gCmp, gAdd_ii, gAdd_ll, PD.gSub, gNeg, gMod, seqD, forD, wipeR, gEqA, gNeA, gEq_ii, gNe_ii, gEq_tt, gIn_ints, gIn_intsL, gNotIn_ints, gNotIn_intsL, fM0, fM1, fJoined, fJ, flStar, starD, fCall0]
      refine ⟨by omega, comp_all tupI (fun r => tupI (r ++ r.take 1)) T (fun r hr kt h3 => ?_) ?_⟩
      · have := (h.row r hr).1
        simp [and_assoc, Rho.set, dropOwn, ftLend, fLend, lendR, frz, ow, nList, -forall_exists_index, fBody, fsSeq, fsIf, fsRet, fsNext, fsDrop, fsAsg, fsNever, fsFor, fsOwn, fsPar2, fsPar3, fsPar_od, fsPar_do, fsPar_oo, fVar, fC, fUn, fOp, fChain, fTup, fLst, fCall, faD, faSt, flCons, flNil, fSl, foSome, foNone, fAnd, fOr, fNot, fIf, fOfN, fn1, fnLst, fnCat, fgN, fgTup, fgCons, fgNil, fiSeq, fiRange1, fiRange2, fiEnumA, fiZip, ftOr, ftAnd, ftNot, ftB, ftT, ftYes, truD_b, truD_i, truD_l, truD_t, truD_n, gIx_t0, gIx_t1, gIx_t2, gSl_t, gSl_l, gIsT, notDict, isT, isN, tyName, gLen_t, gLen_l, gTuple_l, gCmp, gAdd_ii, gAdd_ll, PD.gSub, gNeg, gMod, seqD, forD, wipeR, gEqA, gNeA, gEq_ii, gNe_ii, gEq_tt, gIn_ints, gIn_intsL, gNotIn_ints, gNotIn_intsL, fM0, fM1, fJoined, fJ, flStar, starD, fCall0]
        refine ⟨_, by rw [gSl_tt, show (1 : Int) = ((1 : Nat) : Int) by rfl, cut_to], _, gAdd_t _ _ (by simp; omega), ?_⟩
        rw [← List.map_take, ← List.map_append]
        exact h3 _ rfl
      · have e2 : T.map (fun r => tupI (r ++ r.take 1)) = (T.map fun r => r ++ r.take 1).map tupI := by rw [List.map_map]; rfl
        rw [e2]
        refine z (q + 1) (T.map fun r => r ++ r.take 1) G _ ⟨by omega, by omega, by rw [List.length_map]; exact h.t1, by rw [List.length_map]; exact h.t6, fun r hr => ?_, h.gs, fun y hy => by rw [List.length_map]; exact h.gr y hy, h.g0⟩ (by show n + 1 + 1 + 1 ≤ n + 100; omega)
        obtain ⟨r', hr', rfl⟩ := List.mem_map.mp hr
        have f := h.row r' hr'
        rw [List.length_map]
        refine ⟨by rw [List.length_append, List.length_take]; omega, fun y hy => ?_⟩
        rcases List.mem_append.mp hy with u | u
        · exact f.2 y u
        · exact f.2 y (List.mem_of_mem_take u)
abbrev s_law_near_watchman : Stmt := top 49
theorem sc_law_near_watchman : FnScope ["m", "ward", "count", "k", "act", "there", "shown", "pair", "row"] ["m", "ward", "count"] (defScope s_law_near_watchman) := ⟨rfl, rfl, rfl, by decide +kernel, rfl, by decide +kernel, by decide +kernel⟩
def w_law_near_watchman : FS := fsSeq (fsPar2 3 4 (flCons (fCall 2 W_law_next (faSt 0 (flCons (fUn gLen (fVar 1)) (flNil)))) (flCons (fCall 2 W_law_next (faSt 0 (flCons (fVar 2) (flNil)))) (flNil))))
  (fsSeq (fsAsg (fOp gIx (fOp gIx (fVar 1) (fVar 3)) (fVar 4)) (fgTup 2 (fgCons (fgN 5) (fgCons (fgN 6) (fgNil)))))
  (fsSeq (fsAsg (fCall 2 W_law_of (faSt 0 (flCons (fLst (flCons (fTup (flCons (fCall 2 W_law_next (faSt 0 (flCons (fUn gLen (fVar 1)) (flNil)))) (flCons (fVar 6) (flNil)))) (flCons (fTup (flCons (fVar 5) (flCons (fCall 2 W_law_marks (faSt 0 (flCons (fVar 2) (flNil)))) (flNil)))) (flCons (fTup (flCons (fVar 5) (flCons (fUn gRevT (fVar 6)) (flNil)))) (flNil))))) (flNil)))) (fgN 7))
  (fsSeq (fsIf (ftAnd (ftB (fOp gLt (fUn gLen (fVar 1)) (fC (.int 8)))) (ftB (fOp gEqA (fCall 2 W_law_next (faSt 0 (flCons (fC (.int 3)) (flNil)))) (fC (.int 0))))) (fsRet (fOp gAdd (fVar 1) (fSl gSl (fVar 1) (foSome (fVar 3)) (foSome (fOp gAdd (fVar 3) (fC (.int 1))))))) (fsNext))
  (fsSeq (fsAsg (fOp gAdd (fOp gAdd (fSl gSl (fOp gIx (fVar 1) (fVar 3)) (foNone) (foSome (fVar 4))) (fTup (flCons (fVar 7) (flNil)))) (fSl gSl (fOp gIx (fVar 1) (fVar 3)) (foSome (fOp gAdd (fVar 4) (fC (.int 1)))) (foNone))) (fgN 8))
  (fsRet (fOp gAdd (fOp gAdd (fSl gSl (fVar 1) (foNone) (foSome (fVar 3))) (fTup (flCons (fVar 8) (flNil)))) (fSl gSl (fVar 1) (foSome (fOp gAdd (fVar 3) (fC (.int 1)))) (foNone))))))))
theorem raw_law_near_watchman {f : Addr} {fd : FuncData} {a_law_next : Addr} {d_law_next : FuncData} {a_law_of : Addr} {d_law_of : FuncData} {a_law_marks : Addr} {d_law_marks : FuncData} (F : Fun K "_law_near_watchman" "_law_near_watchman" s_law_near_watchman f fd) (T : Txt mg) (g_law_next : mg "_law_next" = some (.ref a_law_next)) (g_law_of : mg "_law_of" = some (.ref a_law_of)) (g_law_marks : mg "_law_marks" = some (.ref a_law_marks)) (G_law_next : FnG P w K mg base (L2.CX P w) 1 a_law_next d_law_next ["m", "total"] (spD ⟨K, w⟩ M 2 W_law_next)) (b_law_next : Binds K d_law_next ["m", "total"] []) (k_law_next : PySem.W.keepIn K (.ref a_law_next) = true) (G_law_of : FnG P w K mg base (L2.CX P w) 2 a_law_of d_law_of ["m", "some"] (spD ⟨K, w⟩ M 2 W_law_of)) (b_law_of : Binds K d_law_of ["m", "some"] []) (k_law_of : PySem.W.keepIn K (.ref a_law_of) = true) (G_law_marks : FnG P w K mg base (L2.CX P w) 3 a_law_marks d_law_marks ["m", "count"] (spD ⟨K, w⟩ M 2 W_law_marks)) (b_law_marks : Binds K d_law_marks ["m", "count"] []) (k_law_marks : PySem.W.keepIn K (.ref a_law_marks) = true) : FnG P w K mg base (L2.CX P w) 4 f fd ["m", "ward", "count"] (spD ⟨K, w⟩ M 3 (fBody 9 w_law_near_watchman)) := by
  refine fnD F sc_law_near_watchman fun cdv A outer s H E hgd hr => ?_
  have nd := (sc_law_near_watchman).nd
  have hu : (A.deeper (envOfC "_law_near_watchman" (defScope s_law_near_watchman) s.heap.objs.size f cdv)).units + 64 < cLine := hr.units
  exact pds_cons (pds_par2 (ps_par (i := 3) (j := 4) rfl nd rfl rfl (by decide) rfl rfl (pdl_cons (pd_call mW_law_next (G_law_next.mono (by decide)) hgd hr (by rfl) g_law_next k_law_next b_law_next (pda_st (pv 0) (pdl_cons (pd_b1 call_lenA r1_len (by rfl) T.len (by decide +kernel) (pd_var (pv 1))) (pdl_nil)))) (pdl_cons (pd_call mW_law_next (G_law_next.mono (by decide)) hgd hr (by rfl) g_law_next k_law_next b_law_next (pda_st (pv 0) (pdl_cons (pd_var (pv 2)) (pdl_nil)))) (pdl_nil))).pa (by rfl)) (pdl_cons (pd_call mW_law_next (G_law_next.mono (by decide)) hgd hr (by rfl) g_law_next k_law_next b_law_next (pda_st (pv 0) (pdl_cons (pd_b1 call_lenA r1_len (by rfl) T.len (by decide +kernel) (pd_var (pv 1))) (pdl_nil)))) (pdl_cons (pd_call mW_law_next (G_law_next.mono (by decide)) hgd hr (by rfl) g_law_next k_law_next b_law_next (pda_st (pv 0) (pdl_cons (pd_var (pv 2)) (pdl_nil)))) (pdl_nil))))
    (pds_cons (pds_asg (pd_ix ix_any rd_ix (pd_ix ix_any rd_ix (pd_var (pv 1)) (pd_var (pv 3)) (fun _ _ => rfl)) (pd_var (pv 4)) (fun _ _ => rfl)) (pg1_tup (pgn_cons (pg1_name (i := 5) (pg_name (i := 5) nd rfl (by first | exact Or.inl rfl | exact Or.inr rfl))) (pgn_cons (pg1_name (i := 6) (pg_name (i := 6) nd rfl (by first | exact Or.inl rfl | exact Or.inr rfl))) (pgn_nil) (pgs_cons (pg1_name (i := 6) (pg_name (i := 6) nd rfl (by first | exact Or.inl rfl | exact Or.inr rfl))).pg (pgn_nil).pg)) (pgs_cons (pg1_name (i := 5) (pg_name (i := 5) nd rfl (by first | exact Or.inl rfl | exact Or.inr rfl))).pg (pgn_cons (pg1_name (i := 6) (pg_name (i := 6) nd rfl (by first | exact Or.inl rfl | exact Or.inr rfl))) (pgn_nil) (pgs_cons (pg1_name (i := 6) (pg_name (i := 6) nd rfl (by first | exact Or.inl rfl | exact Or.inr rfl))).pg (pgn_nil).pg)).pg)) (pg_tup rfl (pgn_cons (pg1_name (i := 5) (pg_name (i := 5) nd rfl (by first | exact Or.inl rfl | exact Or.inr rfl))) (pgn_cons (pg1_name (i := 6) (pg_name (i := 6) nd rfl (by first | exact Or.inl rfl | exact Or.inr rfl))) (pgn_nil) (pgs_cons (pg1_name (i := 6) (pg_name (i := 6) nd rfl (by first | exact Or.inl rfl | exact Or.inr rfl))).pg (pgn_nil).pg)) (pgs_cons (pg1_name (i := 5) (pg_name (i := 5) nd rfl (by first | exact Or.inl rfl | exact Or.inr rfl))).pg (pgn_cons (pg1_name (i := 6) (pg_name (i := 6) nd rfl (by first | exact Or.inl rfl | exact Or.inr rfl))) (pgn_nil) (pgs_cons (pg1_name (i := 6) (pg_name (i := 6) nd rfl (by first | exact Or.inl rfl | exact Or.inr rfl))).pg (pgn_nil).pg)).pg)).pg)))
    (pds_cons (pds_asg (pd_call mW_law_of (G_law_of.mono (by decide)) hgd hr (by rfl) g_law_of k_law_of b_law_of (pda_st (pv 0) (pdl_cons (pd_lst (pdl_cons (pd_tup (pdl_cons (pd_call mW_law_next (G_law_next.mono (by decide)) hgd hr (by rfl) g_law_next k_law_next b_law_next (pda_st (pv 0) (pdl_cons (pd_b1 call_lenA r1_len (by rfl) T.len (by decide +kernel) (pd_var (pv 1))) (pdl_nil)))) (pdl_cons (pd_var (pv 6)) (pdl_nil)))) (pdl_cons (pd_tup (pdl_cons (pd_var (pv 5)) (pdl_cons (pd_call mW_law_marks (G_law_marks.mono (by decide)) hgd hr (by rfl) g_law_marks k_law_marks b_law_marks (pda_st (pv 0) (pdl_cons (pd_var (pv 2)) (pdl_nil)))) (pdl_nil)))) (pdl_cons (pd_tup (pdl_cons (pd_var (pv 5)) (pdl_cons (pd_revT (pd_var (pv 6))) (pdl_nil)))) (pdl_nil))))) (pdl_nil)))) (pg1_name (i := 7) (pg_name (i := 7) nd rfl (by first | exact Or.inl rfl | exact Or.inr rfl))))
    (pds_cons (pds_if (PDW.pt (pdw_and (pdt_cmp op_lt rd_cmp (pd_b1 call_lenA r1_len (by rfl) T.len (by decide +kernel) (pd_var (pv 1))) (pd_int) (by first | exact nomark _ | rfl)) (pdw_and1 (pdt_cmp (op_eqA hu) rd_eqA (pd_call mW_law_next (G_law_next.mono (by decide)) hgd hr (by rfl) g_law_next k_law_next b_law_next (pda_st (pv 0) (pdl_cons (pd_int) (pdl_nil)))) (pd_int) (by first | exact nomark _ | rfl))))) (pds_one (pds_ret (pd_op op_addA rd_add (pd_var (pv 1)) (pd_slice (pd_var (pv 1)) (pdo_some (pd_var (pv 3))) (pdo_some (pd_op op_addA rd_add (pd_var (pv 3)) (pd_int))))))) (pds_nil))
    (pds_cons (pds_asg (pd_op op_addA rd_add (pd_op op_addA rd_add (pd_slice (pd_ix ix_any rd_ix (pd_var (pv 1)) (pd_var (pv 3)) (fun _ _ => rfl)) (pdo_none) (pdo_some (pd_var (pv 4)))) (pd_tup (pdl_cons (pd_var (pv 7)) (pdl_nil)))) (pd_slice (pd_ix ix_any rd_ix (pd_var (pv 1)) (pd_var (pv 3)) (fun _ _ => rfl)) (pdo_some (pd_op op_addA rd_add (pd_var (pv 4)) (pd_int))) (pdo_none))) (pg1_name (i := 8) (pg_name (i := 8) nd rfl (by first | exact Or.inl rfl | exact Or.inr rfl))))
    (pds_one (pds_ret (pd_op op_addA rd_add (pd_op op_addA rd_add (pd_slice (pd_var (pv 1)) (pdo_none) (pdo_some (pd_var (pv 3)))) (pd_tup (pdl_cons (pd_var (pv 8)) (pdl_nil)))) (pd_slice (pd_var (pv 1)) (pdo_some (pd_op op_addA rd_add (pd_var (pv 3)) (pd_int))) (pdo_none)))))))))
def W_law_near_watchman : FE := fun ρ k => ∃ (q : Int) (g : List (List (Int × List Int))), ρ.sl = [.st, .d (guardD g), .d (.int q)] ∧ (GOK q g) ∧ ρ.n + 100 ≤ 1000000000000 ∧ ∀ (g2 : List (List (Int × List Int))) (nn : Nat), (GOK q g2) → nn ≤ ρ.n + 100 → k (guardD g2) ⟨ρ.sl, nn⟩
theorem mW_law_near_watchman (ρ : Rho) (k k' : KD) (h : ∀ d ρ', k d ρ' → k' d ρ') (q : W_law_near_watchman ρ k) : W_law_near_watchman ρ k' := by
  obtain ⟨q, g, e1, e2, e3, e4⟩ := q
  exact ⟨q, g, e1, e2, e3, fun g2 nn a b => h _ _ (e4 g2 nn a b)⟩
theorem ok_law_near_watchman : ∀ ρ k, W_law_near_watchman ρ k → fBody 9 w_law_near_watchman ρ k := by
  rintro ⟨sl, n⟩ k ⟨q, g, e, h, hn, z⟩
  simp only at e hn z
  subst e
  have g1 := h.g1
  have g8 := h.g8
  have q1 := h.q1
  have q4 := h.q4
  simp [w_law_near_watchman]
  simp [and_assoc, Rho.set, dropOwn, ftLend, fLend, lendR, frz, ow, nList, -forall_exists_index, fBody, fsSeq, fsIf, fsRet, fsNext, fsDrop, fsAsg, fsNever, fsFor, fsOwn, fsPar2, fsPar3, fsPar_od, fsPar_do, fsPar_oo, fVar, fC, fUn, fOp, fChain, fTup, fLst, fCall, faD, faSt, flCons, flNil, fSl, foSome, foNone, fAnd, fOr, fNot, fIf, fOfN, fn1, fnLst, fnCat, fgN, fgTup, fgCons, fgNil, fiSeq, fiRange1, fiRange2, fiEnumA, fiZip, ftOr, ftAnd, ftNot, ftB, ftT, ftYes, truD_b, truD_i, truD_l, truD_t, truD_n, gIx_t0, gIx_t1, gIx_t2, gSl_t, gSl_l, gIsT, notDict, isT, isN, tyName, gLen_t, gLen_l, gTuple_l, gCmp, gAdd_ii, gAdd_ll, PD.gSub, gNeg, gMod, seqD, forD, wipeR, gEqA, gNeA, gEq_ii, gNe_ii, gEq_tt, gIn_ints, gIn_intsL, gNotIn_ints, gNotIn_intsL, fM0, fM1, fJoined, fJ, flStar, starD, fCall0]
  refine ⟨g.length, rfl, by omega, by omega, by simp; omega, fun r1 a1 b1 => ?_⟩
  simp [and_assoc, Rho.set, dropOwn, ftLend, fLend, lendR, frz, ow, nList, -forall_exists_index, fBody, fsSeq, fsIf, fsRet, fsNext, fsDrop, fsAsg, fsNever, fsFor, fsOwn, fsPar2, fsPar3, fsPar_od, fsPar_do, fsPar_oo, fVar, fC, fUn, fOp, fChain, fTup, fLst, fCall, faD, faSt, flCons, flNil, fSl, foSome, foNone, fAnd, fOr, fNot, fIf, fOfN, fn1, fnLst, fnCat, fgN, fgTup, fgCons, fgNil, fiSeq, fiRange1, fiRange2, fiEnumA, fiZip, ftOr, ftAnd, ftNot, ftB, ftT, ftYes, truD_b, truD_i, truD_l, truD_t, truD_n, gIx_t0, gIx_t1, gIx_t2, gSl_t, gSl_l, gIsT, notDict, isT, isN, tyName, gLen_t, gLen_l, gTuple_l, gCmp, gAdd_ii, gAdd_ll, PD.gSub, gNeg, gMod, seqD, forD, wipeR, gEqA, gNeA, gEq_ii, gNe_ii, gEq_tt, gIn_ints, gIn_intsL, gNotIn_ints, gNotIn_intsL, fM0, fM1, fJoined, fJ, flStar, starD, fCall0]
  refine ⟨q, rfl, by omega, by omega, by simp; omega, fun r2 a2 b2 => ?_⟩
  simp [and_assoc, Rho.set, dropOwn, ftLend, fLend, lendR, frz, ow, nList, -forall_exists_index, fBody, fsSeq, fsIf, fsRet, fsNext, fsDrop, fsAsg, fsNever, fsFor, fsOwn, fsPar2, fsPar3, fsPar_od, fsPar_do, fsPar_oo, fVar, fC, fUn, fOp, fChain, fTup, fLst, fCall, faD, faSt, flCons, flNil, fSl, foSome, foNone, fAnd, fOr, fNot, fIf, fOfN, fn1, fnLst, fnCat, fgN, fgTup, fgCons, fgNil, fiSeq, fiRange1, fiRange2, fiEnumA, fiZip, ftOr, ftAnd, ftNot, ftB, ftT, ftYes, truD_b, truD_i, truD_l, truD_t, truD_n, gIx_t0, gIx_t1, gIx_t2, gSl_t, gSl_l, gIsT, notDict, isT, isN, tyName, gLen_t, gLen_l, gTuple_l, gCmp, gAdd_ii, gAdd_ll, PD.gSub, gNeg, gMod, seqD, forD, wipeR, gEqA, gNeA, gEq_ii, gNe_ii, gEq_tt, gIn_ints, gIn_intsL, gNotIn_ints, gNotIn_intsL, fM0, fM1, fJoined, fJ, flStar, starD, fCall0]
  obtain ⟨i, rfl⟩ := Int.eq_ofNat_of_zero_le a1
  obtain ⟨j, rfl⟩ := Int.eq_ofNat_of_zero_le a2
  have hi : i < g.length := by omega
  have hm : g[i] ∈ g := List.getElem_mem hi
  have hrow := h.row g[i] hm
  have hj : j < g[i].length := by omega
  have gi : gIx (guardD g) (.int (i : Int)) = some (memD g[i]) := gIx_tup (by rw [List.getElem?_map, List.getElem?_eq_getElem hi]; rfl)
  have gj : gIx (memD g[i]) (.int (j : Int)) = some (pairD g[i][j]) := gIx_tup (by rw [List.getElem?_map, List.getElem?_eq_getElem hj]; rfl)
  have main : ∀ (p : Int × List Int) (nn : Nat), (0 ≤ p.1 ∧ p.1 ≤ (g.length : Int) - 1) → (p.2.length ≤ 6 ∧ ∀ x ∈ p.2, 0 ≤ x ∧ x ≤ q - 1) → nn ≤ n + 100 →
      ∃ d_3, gIx (guardD g) (.int (i : Int)) = some d_3 ∧ ∃ d_4, gSl d_3 none (some (j : Int)) = some d_4 ∧ ∃ d_5, gAdd d_4 (.tuple [pairD p]) = some d_5 ∧ ∃ d, gIx (guardD g) (.int (i : Int)) = some d ∧ ∃ d_6, gSl d (some ((j : Int) + 1)) none = some d_6 ∧ ∃ d, gAdd d_5 d_6 = some d ∧
        ∃ d_7, gSl (guardD g) none (some (i : Int)) = some d_7 ∧ ∃ d_8, gAdd d_7 (.tuple [d]) = some d_8 ∧ ∃ d, gSl (guardD g) (some ((i : Int) + 1)) none = some d ∧ ∃ d_9, gAdd d_8 d = some d_9 ∧ k d_9 ⟨[.st, .d (guardD g), .d (.int q)], nn⟩ := by
    intro p nn hp1 hp2 hnn
    refine ⟨_, gi, _, by rw [gSl_tt, cut_to], _, gAdd_t _ _ (by simp; omega), _, gi, _, by rw [show (j : Int) + 1 = ((j + 1 : Nat) : Int) by omega, gSl_tt, cut_from], _, gAdd_t _ _ (by simp; omega), ?_⟩
    have e1 : (g[i].map pairD).take j ++ [pairD p] ++ (g[i].map pairD).drop (j + 1) = (g[i].set j p).map pairD := by
      rw [set_cut _ _ _ (by rw [List.length_map]; exact hj), List.map_set]
    rw [e1]
    refine ⟨_, by rw [gSl_tt, cut_to], _, gAdd_t _ _ (by simp; omega), _, by rw [show (i : Int) + 1 = ((i + 1 : Nat) : Int) by omega, gSl_tt, cut_from], _, gAdd_t _ _ (by simp; omega), ?_⟩
    have e2 : (g.map memD).take i ++ [memD (g[i].set j p)] ++ (g.map memD).drop (i + 1) = (g.set i (g[i].set j p)).map memD := by
      rw [set_cut _ _ _ (by rw [List.length_map]; exact hi), List.map_set]
    rw [e2]
    have mem : ∀ m ∈ g.set i (g[i].set j p), m ∈ g ∨ m = g[i].set j p := fun m hm => List.mem_or_eq_of_mem_set hm
    refine z (g.set i (g[i].set j p)) nn ⟨h.q1, h.q4, by rw [List.length_set]; exact h.g1, by rw [List.length_set]; exact h.g8, fun m hm' => ?_, fun m hm' p' hp' => ?_, fun m hm' p' hp' => ?_⟩ hnn
    · rcases mem m hm' with u | u
      · exact h.row m u
      · subst u
        rw [List.length_set]
        exact hrow
    · rw [List.length_set]
      rcases mem m hm' with u | u
      · exact h.nx m u p' hp'
      · subst u
        rcases List.mem_or_eq_of_mem_set hp' with v | v
        · exact h.nx _ hm p' v
        · subst v; exact hp1
    · rcases mem m hm' with u | u
      · exact h.sh m u p' hp'
      · subst u
        rcases List.mem_or_eq_of_mem_set hp' with v | v
        · exact h.sh _ hm p' v
        · subst v; exact hp2
  have hpi := h.nx g[i] hm g[i][j] (List.getElem_mem hj)
  have hps := h.sh g[i] hm g[i][j] (List.getElem_mem hj)
  refine ⟨_, gi, _, gj, ?_⟩
  simp [and_assoc, Rho.set, dropOwn, ftLend, fLend, lendR, frz, ow, nList, -forall_exists_index, fBody, fsSeq, fsIf, fsRet, fsNext, fsDrop, fsAsg, fsNever, fsFor, fsOwn, fsPar2, fsPar3, fsPar_od, fsPar_do, fsPar_oo, fVar, fC, fUn, fOp, fChain, fTup, fLst, fCall, faD, faSt, flCons, flNil, fSl, foSome, foNone, fAnd, fOr, fNot, fIf, fOfN, fn1, fnLst, fnCat, fgN, fgTup, fgCons, fgNil, fiSeq, fiRange1, fiRange2, fiEnumA, fiZip, ftOr, ftAnd, ftNot, ftB, ftT, ftYes, truD_b, truD_i, truD_l, truD_t, truD_n, gIx_t0, gIx_t1, gIx_t2, gSl_t, gSl_l, gIsT, notDict, isT, isN, tyName, gLen_t, gLen_l, gTuple_l, gCmp, gAdd_ii, gAdd_ll, PD.gSub, gNeg, gMod, seqD, forD, wipeR, gEqA, gNeA, gEq_ii, gNe_ii, gEq_tt, gIn_ints, gIn_intsL, gNotIn_ints, gNotIn_intsL, fM0, fM1, fJoined, fJ, flStar, starD, fCall0]
  refine ⟨g.length, rfl, by omega, by omega, by simp; omega, fun r3 a3 b3 => ?_⟩
  simp [and_assoc, Rho.set, dropOwn, ftLend, fLend, lendR, frz, ow, nList, -forall_exists_index, fBody, fsSeq, fsIf, fsRet, fsNext, fsDrop, fsAsg, fsNever, fsFor, fsOwn, fsPar2, fsPar3, fsPar_od, fsPar_do, fsPar_oo, fVar, fC, fUn, fOp, fChain, fTup, fLst, fCall, faD, faSt, flCons, flNil, fSl, foSome, foNone, fAnd, fOr, fNot, fIf, fOfN, fn1, fnLst, fnCat, fgN, fgTup, fgCons, fgNil, fiSeq, fiRange1, fiRange2, fiEnumA, fiZip, ftOr, ftAnd, ftNot, ftB, ftT, ftYes, truD_b, truD_i, truD_l, truD_t, truD_n, gIx_t0, gIx_t1, gIx_t2, gSl_t, gSl_l, gIsT, notDict, isT, isN, tyName, gLen_t, gLen_l, gTuple_l, gCmp, gAdd_ii, gAdd_ll, PD.gSub, gNeg, gMod, seqD, forD, wipeR, gEqA, gNeA, gEq_ii, gNe_ii, gEq_tt, gIn_ints, gIn_intsL, gNotIn_ints, gNotIn_intsL, fM0, fM1, fJoined, fJ, flStar, starD, fCall0]
  refine ⟨q, rfl, ⟨q1, q4⟩, by simp; omega, fun ns nn h1 h2 => ?_⟩
  simp only at h2
  simp [and_assoc, Rho.set, dropOwn, ftLend, fLend, lendR, frz, ow, nList, -forall_exists_index, fBody, fsSeq, fsIf, fsRet, fsNext, fsDrop, fsAsg, fsNever, fsFor, fsOwn, fsPar2, fsPar3, fsPar_od, fsPar_do, fsPar_oo, fVar, fC, fUn, fOp, fChain, fTup, fLst, fCall, faD, faSt, flCons, flNil, fSl, foSome, foNone, fAnd, fOr, fNot, fIf, fOfN, fn1, fnLst, fnCat, fgN, fgTup, fgCons, fgNil, fiSeq, fiRange1, fiRange2, fiEnumA, fiZip, ftOr, ftAnd, ftNot, ftB, ftT, ftYes, truD_b, truD_i, truD_l, truD_t, truD_n, gIx_t0, gIx_t1, gIx_t2, gSl_t, gSl_l, gIsT, notDict, isT, isN, tyName, gLen_t, gLen_l, gTuple_l, gCmp, gAdd_ii, gAdd_ll, PD.gSub, gNeg, gMod, seqD, forD, wipeR, gEqA, gNeA, gEq_ii, gNe_ii, gEq_tt, gIn_ints, gIn_intsL, gNotIn_ints, gNotIn_intsL, fM0, fM1, fJoined, fJ, flStar, starD, fCall0]
  refine ⟨_, rfl, _, rfl, by simp, by simp, by simp; omega, fun x hx nn2 h3 => ?_⟩
  simp only at h3
  have hx : ∃ p : Int × List Int, x = pairD p ∧ (0 ≤ p.1 ∧ p.1 ≤ (g.length : Int) - 1) ∧ p.2.length ≤ 6 ∧ ∀ x ∈ p.2, 0 ≤ x ∧ x ≤ q - 1 := by
    simp only [List.mem_cons, List.not_mem_nil, or_false] at hx
    rcases hx with u | u | u
    · exact ⟨(r3, g[i][j].2), u, by show 0 ≤ r3 ∧ r3 ≤ (g.length : Int) - 1; omega, hps⟩
    · exact ⟨(g[i][j].1, ns), u, hpi, h1⟩
    · refine ⟨(g[i][j].1, g[i][j].2.reverse), ?_, hpi, by show g[i][j].2.reverse.length ≤ 6; rw [List.length_reverse]; exact hps.1, fun x hx => hps.2 x (List.mem_reverse.mp hx)⟩
      rw [u]
      show PyData.tuple [.int g[i][j].1, .tuple (g[i][j].2.map PyData.int).reverse] = PyData.tuple [.int g[i][j].1, .tuple (g[i][j].2.reverse.map PyData.int)]
      rw [List.map_reverse]
  obtain ⟨p, rfl, hp1, hp2⟩ := hx
  by_cases e : (8 : Int) ≤ g.length
  · exact .inl ⟨e, main p nn2 hp1 hp2 (by omega)⟩
  · refine .inr ⟨by omega, 3, rfl, by omega, by omega, by simp; omega, fun r4 a4 b4 => ?_⟩
    refine ⟨_, gEq_ii _ _, ?_⟩
    by_cases e2 : r4 = 0
    · refine .inr ⟨by rw [decide_eq_true e2], _, by rw [gSl_tt, cut_mid _ i 0 (by rw [List.length_map]; exact hi)], _, gAdd_t _ _ (by simp; omega), ?_⟩
      have e3 : g.map memD ++ [(g.map memD)[i]'(by rw [List.length_map]; exact hi)] = (g ++ [g[i]]).map memD := by
        rw [List.map_append, List.getElem_map]
        rfl
      rw [e3]
      have mem : ∀ m ∈ g ++ [g[i]], m ∈ g := fun m hm' => by
        rcases List.mem_append.mp hm' with u | u
        · exact u
        · rw [List.mem_singleton] at u
          subst u
          exact hm
      refine z (g ++ [g[i]]) _ ⟨h.q1, h.q4, by rw [List.length_append]; omega, by rw [List.length_append, List.length_singleton]; omega, fun m hm' => h.row m (mem m hm'), fun m hm' p' hp' => ?_, fun m hm' => h.sh m (mem m hm')⟩ (by show nn2 + 1 ≤ n + 100; omega)
      have := h.nx m (mem m hm') p' hp'
      rw [List.length_append, List.length_singleton]
      omega
    · exact .inl ⟨by rw [decide_eq_false e2], main p (nn2 + 1) hp1 hp2 (by omega)⟩
abbrev s_law_wish_right : Stmt := top 50
theorem sc_law_wish_right : FnScope ["goal", "far", "was", "page"] ["goal", "far"] (defScope s_law_wish_right) := ⟨rfl, rfl, rfl, by decide +kernel, rfl, by decide +kernel, by decide +kernel⟩
def w_law_wish_right : FS := fsSeq (fsPar2 2 3 (flCons (fUn gRepr (fLst (flCons (fVar 0) (flCons (fVar 1) (flNil))))) (flCons (fCall 1 W_law_wish_page (faD (flCons (fVar 0) (flNil)))) (flNil))))
  (fsSeq (fsIf (ftB (fOp gNeA (fLst (flCons (fCall 1 W_wish_text (faD (flCons (fVar 0) (flNil)))) (flCons (fCall 1 W_wish_text (faD (flCons (fVar 0) (flNil)))) (flNil)))) (fLst (flCons (fVar 3) (flCons (fVar 3) (flNil)))))) (fsRet (fC (.bool false))) (fsNext))
  (fsSeq (fsIf (ftB (fOp gNeA (fUn gRepr (fLst (flCons (fCall 1 W_read_wish (faD (flCons (fVar 3) (flNil)))) (flCons (fCall 1 W_read_wish (faD (flCons (fVar 3) (flNil)))) (flNil))))) (fUn gRepr (fLst (flCons (fVar 0) (flCons (fVar 0) (flNil))))))) (fsRet (fC (.bool false))) (fsNext))
  (fsRet (fAnd (fOp gEqA (fOp gEqA (fCall 1 W_wish_text (faD (flCons (fVar 1) (flNil)))) (fVar 3)) (fOp gEqA (fVar 1) (fVar 0))) (fOp gEqA (fUn gRepr (fLst (flCons (fVar 0) (flCons (fVar 1) (flNil))))) (fVar 2))))))
theorem raw_law_wish_right {f : Addr} {fd : FuncData} {a_wish_text : Addr} {d_wish_text : FuncData} {a_read_wish : Addr} {d_read_wish : FuncData} {a_law_wish_page : Addr} {d_law_wish_page : FuncData} (F : Fun K "_law_wish_right" "_law_wish_right" s_law_wish_right f fd) (T : Txt mg) (g_wish_text : mg "wish_text" = some (.ref a_wish_text)) (g_read_wish : mg "read_wish" = some (.ref a_read_wish)) (g_law_wish_page : mg "_law_wish_page" = some (.ref a_law_wish_page)) (G_wish_text : FnG P w K mg base (L2.CX P w) 6 a_wish_text d_wish_text ["wish"] (spD ⟨K, w⟩ M 1 W_wish_text)) (b_wish_text : Binds K d_wish_text ["wish"] []) (k_wish_text : PySem.W.keepIn K (.ref a_wish_text) = true) (G_read_wish : FnG P w K mg base (L2.CX P w) 6 a_read_wish d_read_wish ["string"] (spD ⟨K, w⟩ M 1 W_read_wish)) (b_read_wish : Binds K d_read_wish ["string"] []) (k_read_wish : PySem.W.keepIn K (.ref a_read_wish) = true) (G_law_wish_page : FnG P w K mg base (L2.CX P w) 2 a_law_wish_page d_law_wish_page ["goal"] (spD ⟨K, w⟩ M 1 W_law_wish_page)) (b_law_wish_page : Binds K d_law_wish_page ["goal"] []) (k_law_wish_page : PySem.W.keepIn K (.ref a_law_wish_page) = true) : FnG P w K mg base (L2.CX P w) 7 f fd ["goal", "far"] (spD ⟨K, w⟩ M 2 (fBody 4 w_law_wish_right)) := by
  refine fnD F sc_law_wish_right fun cdv A outer s H E hgd hr => ?_
  have nd := (sc_law_wish_right).nd
  have hu : (A.deeper (envOfC "_law_wish_right" (defScope s_law_wish_right) s.heap.objs.size f cdv)).units + 64 < cLine := hr.units
  exact pds_cons (pds_par2 (ps_par (i := 2) (j := 3) rfl nd rfl rfl (by decide) rfl rfl (pdl_cons (pd_b1 (call_reprD hgd hu) r1_repr (by rfl) T.repr (by decide +kernel) (pd_lst (pdl_cons (pd_var (pv 0)) (pdl_cons (pd_var (pv 1)) (pdl_nil))))) (pdl_cons (pd_call mW_law_wish_page (G_law_wish_page.mono (by decide)) hgd hr (by rfl) g_law_wish_page k_law_wish_page b_law_wish_page (pda_d (pdl_cons (pd_var (pv 0)) (pdl_nil)))) (pdl_nil))).pa (by rfl)) (pdl_cons (pd_b1 (call_reprD hgd hu) r1_repr (by rfl) T.repr (by decide +kernel) (pd_lst (pdl_cons (pd_var (pv 0)) (pdl_cons (pd_var (pv 1)) (pdl_nil))))) (pdl_cons (pd_call mW_law_wish_page (G_law_wish_page.mono (by decide)) hgd hr (by rfl) g_law_wish_page k_law_wish_page b_law_wish_page (pda_d (pdl_cons (pd_var (pv 0)) (pdl_nil)))) (pdl_nil))))
    (pds_cons (pds_if (pdt_cmp (op_neA hu) rd_neA (pd_lst (pdl_cons (pd_call mW_wish_text (G_wish_text.mono (by decide)) hgd hr (by rfl) g_wish_text k_wish_text b_wish_text (pda_d (pdl_cons (pd_var (pv 0)) (pdl_nil)))) (pdl_cons (pd_call mW_wish_text (G_wish_text.mono (by decide)) hgd hr (by rfl) g_wish_text k_wish_text b_wish_text (pda_d (pdl_cons (pd_var (pv 0)) (pdl_nil)))) (pdl_nil)))) (pd_lst (pdl_cons (pd_var (pv 3)) (pdl_cons (pd_var (pv 3)) (pdl_nil)))) (by first | exact nomark _ | rfl)) (pds_one (pds_ret (pd_bl))) (pds_nil))
    (pds_cons (pds_if (pdt_cmp (op_neA hu) rd_neA (pd_b1 (call_reprD hgd hu) r1_repr (by rfl) T.repr (by decide +kernel) (pd_lst (pdl_cons (pd_call mW_read_wish (G_read_wish.mono (by decide)) hgd hr (by rfl) g_read_wish k_read_wish b_read_wish (pda_d (pdl_cons (pd_var (pv 3)) (pdl_nil)))) (pdl_cons (pd_call mW_read_wish (G_read_wish.mono (by decide)) hgd hr (by rfl) g_read_wish k_read_wish b_read_wish (pda_d (pdl_cons (pd_var (pv 3)) (pdl_nil)))) (pdl_nil))))) (pd_b1 (call_reprD hgd hu) r1_repr (by rfl) T.repr (by decide +kernel) (pd_lst (pdl_cons (pd_var (pv 0)) (pdl_cons (pd_var (pv 0)) (pdl_nil))))) (by first | exact nomark _ | rfl)) (pds_one (pds_ret (pd_bl))) (pds_nil))
    (pds_one (pds_ret (pd_and (pd_cmp (op_eqA hu) rd_eqA (pd_cmp (op_eqA hu) rd_eqA (pd_call mW_wish_text (G_wish_text.mono (by decide)) hgd hr (by rfl) g_wish_text k_wish_text b_wish_text (pda_d (pdl_cons (pd_var (pv 1)) (pdl_nil)))) (pd_var (pv 3)) (by first | exact nomark _ | rfl)) (pd_cmp (op_eqA hu) rd_eqA (pd_var (pv 1)) (pd_var (pv 0)) (by first | exact nomark _ | rfl)) (by first | exact nomark _ | rfl)) (pd_one (pd_cmp (op_eqA hu) rd_eqA (pd_b1 (call_reprD hgd hu) r1_repr (by rfl) T.repr (by decide +kernel) (pd_lst (pdl_cons (pd_var (pv 0)) (pdl_cons (pd_var (pv 1)) (pdl_nil))))) (pd_var (pv 2)) (by first | exact nomark _ | rfl))))))))
theorem small10 {i : Int} (h0 : 0 ≤ i) (h1 : i < 10) : i.natAbs < 10 ^ 12 := by
  have : i.natAbs < 10 := by omega
  exact Nat.lt_trans this (by decide)
theorem neat_digs {ns : List Int} (h : Dgs ns) (hl : ns.length ≤ 6) : Neat (tupI ns) 1 300 :=
  (neat_tup (neatAll_map fun x hx => neat_int (small10 (h x hx).1 (h x hx).2))).mono (Nat.le_refl _) (by omega)
theorem neat_wish {q : Int} {T : List (List Int)} {G : List Int} (h : WOK q T G) : Neat (wishD q T G) 3 3000 := by
  have q1 := h.q1
  have q4 := h.q4
  have a := neat_int (i := q) (small10 (by omega) (by omega))
  have b : Neat (tupT T) 2 1806 := (neat_tup (neatAll_map fun r hr => neat_digs (h.rowDg hr).1 (by have := (h.rowDg hr).2; omega))).mono (Nat.le_refl _) (by have := h.t6; omega)
  have c := neat_digs h.goodDg.1 h.goodDg.2
  exact (neat_tup (neatAll_cons a (neatAll_cons b (neatAll_cons c neatAll_nil)))).mono (by decide) (by decide)
theorem neat_guard {q : Int} {g : List (List (Int × List Int))} (h : GOK q g) : Neat (guardD g) 4 20000 := by
  refine (neat_tup (neatAll_map (f := memD) (a := 3) (w := 2000) fun m hm => (neat_tup (neatAll_map (f := pairD) (a := 2) (w := 400) fun p hp => ?_)).mono (Nat.le_refl _) (by have := h.mem4 hm; omega))).mono (Nat.le_refl _) (by have := h.g8; omega)
  have d := PairD.of h hm hp
  exact (neat_tup (neatAll_cons (neat_int (small10 d.1.1 d.1.2)) (neatAll_cons (neat_digs d.2.1 d.2.2) neatAll_nil))).mono (by decide) (by decide)
theorem itree_wish (q : Int) (T : List (List Int)) (G : List Int) : itree (wishD q T G) = true := by
  show (true && (itree (tupT T) && (itree (tupI G) && true))) = true
  have a : itree (tupT T) = true := by
    show itreeAll _ = true
    exact itreeAll_map fun r _ => itree_ints r
  rw [a, itree_ints]
  rfl
theorem itree_guard (g : List (List (Int × List Int))) : itree (guardD g) = true := by
  show itreeAll _ = true
  refine itreeAll_map fun m _ => ?_
  show itreeAll _ = true
  refine itreeAll_map fun p _ => ?_
  show (true && (itree (tupI p.2) && true)) = true
  rw [itree_ints]
  rfl
theorem dgs_inj {xs ys : List Int} (h1 : Dgs xs) (h2 : Dgs ys) (e : xs.map dg = ys.map dg) : xs = ys := map_inj_on (Pa := fun i => 0 ≤ i ∧ i < 10) (fun a b ha hb e => dg_inj ha hb e) h1 h2 e
theorem nosp_dgs {xs : List Int} (h : Dgs xs) {c : Nat} (hc : c < 48 ∨ 57 < c) : ∀ p ∈ xs.map dg, c ∉ tl p := fun p hp => by
  obtain ⟨x, hx, rfl⟩ := List.mem_map.mp hp
  exact nos_dg (h x hx).1 (h x hx).2 hc
theorem rowS_inj {r s : List Int} (h1 : Dgs r ∧ r ≠ []) (h2 : Dgs s ∧ s ≠ []) (e : rowS r = rowS s) : r = s :=
  dgs_inj h1.1 h2.1 (join_inj sp_tl (by decide +kernel) (by simpa using h1.2) (by simpa using h2.2) (nosp_dgs h1.1 (by omega)) (nosp_dgs h2.1 (by omega)) e)
theorem goodS_inj {G H : List Int} (h1 : Dgs G) (h2 : Dgs H) (e : goodS G = goodS H) : G = H := by
  have g : ∀ K : List Int, Dgs K → ∀ p ∈ ("good" : Str) :: K.map dg, 32 ∉ tl p := fun K hK p hp => by
    rcases List.mem_cons.mp hp with u | u
    · subst u; rw [go_tl]; simp
    · exact nosp_dgs hK (by omega) p u
  have := join_inj sp_tl (by decide +kernel) (by simp) (by simp) (g G h1) (g H h2) e
  exact dgs_inj h1 h2 (List.cons.inj this).2
theorem pageW_inj {q q2 : Int} {T T2 : List (List Int)} {G G2 : List Int} (h : WOK q T G) (h2 : WOK q2 T2 G2) : pageW q2 T2 G2 = pageW q T G ↔ wishD q2 T2 G2 = wishD q T G := by
  constructor
  · intro e
    have e := join_inj nl_tl (by decide +kernel) (by simp) (by simp) (fun p hp => (page_parts h2 p hp).1) (fun p hp => (page_parts h p hp).1) e
    obtain ⟨a, b⟩ := List.cons.inj e
    obtain ⟨c, d⟩ := List.append_inj' b rfl
    have q1 := h.q1
    have q4 := h.q4
    have q1' := h2.q1
    have q4' := h2.q4
    have ne : ∀ {q : Int} {T : List (List Int)} {G : List Int}, WOK q T G → ∀ r ∈ T, Dgs r ∧ r ≠ [] := fun h r hr => ⟨(h.rowDg hr).1, fun z => by
      have e1 := (h.row r hr).1
      have e2 := h.q1
      rw [z] at e1
      simp at e1
      omega⟩
    have e1 : q2 = q := dg_inj ⟨by omega, by omega⟩ ⟨by omega, by omega⟩ a
    have e2 : T2 = T := map_inj_on (Pa := fun r => Dgs r ∧ r ≠ []) (fun r s h1 h2 e => rowS_inj h1 h2 e) (ne h2) (ne h) c
    have e3 : G2 = G := goodS_inj h2.goodDg.1 h.goodDg.1 (List.cons.inj d).1
    rw [e1, e2, e3]
  · intro e
    have e := PyData.tuple.inj e
    obtain ⟨a, b⟩ := List.cons.inj e
    obtain ⟨b, c⟩ := List.cons.inj b
    obtain ⟨c, _⟩ := List.cons.inj c
    have intsE : ∀ {xs ys : List Int}, xs.map PyData.int = ys.map PyData.int → xs = ys := fun e => map_inj_on (Pa := fun _ => True) (fun a b _ _ e => PyData.int.inj e) (fun _ _ => trivial) (fun _ _ => trivial) e
    have e1 := PyData.int.inj a
    have e2 : T2 = T := map_inj_on (Pa := fun _ => True) (fun a b _ _ e => intsE (PyData.tuple.inj e)) (fun _ _ => trivial) (fun _ _ => trivial) (PyData.tuple.inj b)
    have e3 := intsE (PyData.tuple.inj c)
    rw [e1, e2, e3]
theorem shownS_inj {r s : List Int} (h1 : Dgs r) (h2 : Dgs s) (e : shownS r = shownS s) : r = s := by
  by_cases hr : r = []
  · subst hr
    by_cases hs : s = []
    · exact hs.symm
    · exact absurd e.symm (by rw [show shownS [] = ("-" : Str) from rfl]; exact shownS_hy h2 hs)
  · by_cases hs : s = []
    · subst hs
      exact absurd e (by rw [show shownS [] = ("-" : Str) from rfl]; exact shownS_hy h1 hr)
    · unfold shownS at e
      rw [if_neg hr, if_neg hs] at e
      exact dgs_inj h1 h2 (join_inj cm_tl (by decide +kernel) (by simpa using hr) (by simpa using hs) (nosp_dgs h1 (by omega)) (nosp_dgs h2 (by omega)) e)
theorem pairS_inj {p r : Int × List Int} (h1 : PairD p) (h2 : PairD r) (e : pairS p = pairS r) : p = r := by
  have a : Txt.partition (pairS p) ":" = (dg p.1, (":" : Str), shownS p.2) := partition_app cl_tl (nos_dg h1.1.1 h1.1.2 (by omega))
  have b : Txt.partition (pairS r) ":" = (dg r.1, (":" : Str), shownS r.2) := partition_app cl_tl (nos_dg h2.1.1 h2.1.2 (by omega))
  rw [e, b] at a
  have e1 := dg_inj h2.1 h1.1 (congrArg Prod.fst a)
  have e2 := shownS_inj h2.2.1 h1.2.1 (congrArg (fun z => z.2.2) a)
  exact Prod.ext e1.symm e2.symm
theorem pageG_inj {q : Int} {g g2 : List (List (Int × List Int))} (h : GOK q g) (h2 : GOK q g2) : pageG g2 = pageG g ↔ guardD g2 = guardD g := by
  constructor
  · intro e
    have ne : ∀ {g : List (List (Int × List Int))}, GOK q g → g.map memS ≠ [] := fun h z => by
      have := h.g1
      rw [List.map_eq_nil_iff.mp z] at this
      simp at this
    have e := join_inj nl_tl (by decide +kernel) (ne h2) (ne h) (fun p hp => (pageG_parts h2 p hp).1) (fun p hp => (pageG_parts h p hp).1) e
    have pa : ∀ {g : List (List (Int × List Int))}, GOK q g → ∀ m ∈ g, (∀ p ∈ m, PairD p) ∧ m ≠ [] := fun h m hm => ⟨fun p hp => PairD.of h hm hp, fun z => by
      have e1 := h.row m hm
      have e2 := h.q1
      rw [z] at e1
      simp at e1
      omega⟩
    have : g2 = g := map_inj_on (Pa := fun m => (∀ p ∈ m, PairD p) ∧ m ≠ []) (fun m m' a b e => by
      have nos : ∀ m : List (Int × List Int), (∀ p ∈ m, PairD p) → ∀ s ∈ m.map pairS, 32 ∉ tl s := fun m hm s hs => by
        obtain ⟨x, hx, rfl⟩ := List.mem_map.mp hs
        exact pairS_nos (hm x hx) (by omega)
      have := join_inj sp_tl (by decide +kernel) (by simpa using a.2) (by simpa using b.2) (nos m a.1) (nos m' b.1) e
      exact map_inj_on (Pa := PairD) (fun x y hx hy e => pairS_inj hx hy e) a.1 b.1 this) (pa h2) (pa h) e
    rw [this]
  · intro e
    have intsE : ∀ {xs ys : List Int}, xs.map PyData.int = ys.map PyData.int → xs = ys := fun e => map_inj_on (Pa := fun _ => True) (fun a b _ _ e => PyData.int.inj e) (fun _ _ => trivial) (fun _ _ => trivial) e
    have : g2 = g := map_inj_on (Pa := fun _ => True) (fun m m' _ _ e => map_inj_on (Pa := fun _ => True) (fun p r _ _ e => by
      obtain ⟨a, b⟩ := List.cons.inj (PyData.tuple.inj e)
      obtain ⟨b, _⟩ := List.cons.inj b
      exact Prod.ext (PyData.int.inj a) (intsE (PyData.tuple.inj b))) (fun _ _ => trivial) (fun _ _ => trivial) (PyData.tuple.inj e)) (fun _ _ => trivial) (fun _ _ => trivial) (PyData.tuple.inj e)
    rw [this]
theorem dec_eqv {a b : Str} {d e : D} (h1 : itree d = true) (h2 : itree e = true) (h : a = b ↔ d = e) : PyData.eqv d e = decide (a = b) := by
  have := eqv_itree d e h1 h2
  by_cases z : a = b
  · rw [decide_eq_true z]
    exact this.mpr (h.mp z)
  · rw [decide_eq_false z]
    exact Bool.eq_false_iff.mpr fun y => z (h.mpr (this.mp y))
def W_law_wish_right : FE := fun ρ k => ∃ q T G q2 T2 G2, ρ.sl = [.d (wishD q T G), .d (wishD q2 T2 G2)] ∧ (WOK q T G ∧ WOK q2 T2 G2) ∧ k (.bool true) ρ
theorem mW_law_wish_right (ρ : Rho) (k k' : KD) (h : ∀ d ρ', k d ρ' → k' d ρ') (q : W_law_wish_right ρ k) : W_law_wish_right ρ k' := by
  obtain ⟨q, T, G, q2, T2, G2, e1, e2, e3⟩ := q
  exact ⟨q, T, G, q2, T2, G2, e1, e2, h _ _ e3⟩
theorem ok_law_wish_right : ∀ ρ k, W_law_wish_right ρ k → fBody 4 w_law_wish_right ρ k := by
  rintro ⟨sl, n⟩ k ⟨q, T, G, q2, T2, G2, e, ⟨h, h2⟩, z⟩
  simp only at e
  subst e
  have n1 := neat_wish h
  have n2 := neat_wish h2
  have np := neat_str (pageW_low h)
  have r12 := gRepr_neat (neat_lst (neatAll_cons n1 (neatAll_cons n2 neatAll_nil))) (by decide) (by decide)
  have r11 := gRepr_neat (neat_lst (neatAll_cons n1 (neatAll_cons n1 neatAll_nil))) (by decide) (by decide)
  simp [w_law_wish_right]
  simp [and_assoc, Rho.set, dropOwn, ftLend, fLend, lendR, frz, ow, nList, -forall_exists_index, fBody, fsSeq, fsIf, fsRet, fsNext, fsDrop, fsAsg, fsNever, fsFor, fsOwn, fsPar2, fsPar3, fsPar_od, fsPar_do, fsPar_oo, fVar, fC, fUn, fOp, fChain, fTup, fLst, fCall, faD, faSt, flCons, flNil, fSl, foSome, foNone, fAnd, fOr, fNot, fIf, fOfN, fn1, fnLst, fnCat, fgN, fgTup, fgCons, fgNil, fiSeq, fiRange1, fiRange2, fiEnumA, fiZip, ftOr, ftAnd, ftNot, ftB, ftT, ftYes, truD_b, truD_i, truD_l, truD_t, truD_n, gIx_t0, gIx_t1, gIx_t2, gSl_t, gSl_l, gIsT, notDict, isT, isN, tyName, gLen_t, gLen_l, gTuple_l, gCmp, gAdd_ii, gAdd_ll, PD.gSub, gNeg, gMod, seqD, forD, wipeR, gEqA, gNeA, gEq_ii, gNe_ii, gEq_tt, gIn_ints, gIn_intsL, gNotIn_ints, gNotIn_intsL, fM0, fM1, fJoined, fJ, flStar, starD, fCall0]
  refine ⟨_, r12, q, T, G, rfl, h, q, T, G, rfl, h, q, T, G, rfl, h, _, gNe_neat (neat_lst (neatAll_cons np (neatAll_cons np neatAll_nil))) (by decide), .inl ⟨rfl, q, T, G, rfl, h, q, T, G, rfl, h, _, r11, _, r11, _, rfl, .inl ⟨by rw [decide_eq_true rfl]; rfl, q2, T2, G2, rfl, h2, _, rfl, _, gEq_neat n2 (by decide) n1 (by decide), _, gEq_bb _ _, .inr ⟨?_, _, r12, _, rfl, ?_⟩⟩⟩⟩
  · rw [dec_eqv (itree_wish _ _ _) (itree_wish _ _ _) (pageW_inj h h2)]
    simp
  · rw [decide_eq_true rfl]
    exact z
abbrev s_law_guard_right : Stmt := top 51
theorem sc_law_guard_right : FnScope ["count", "ward", "far", "was", "page"] ["count", "ward", "far"] (defScope s_law_guard_right) := ⟨rfl, rfl, rfl, by decide +kernel, rfl, by decide +kernel, by decide +kernel⟩
def w_law_guard_right : FS := fsSeq (fsPar2 3 4 (flCons (fUn gRepr (fLst (flCons (fVar 1) (flCons (fVar 2) (flNil))))) (flCons (fCall 1 W_law_guard_page (faD (flCons (fVar 1) (flNil)))) (flNil))))
  (fsSeq (fsIf (ftB (fOp gNeA (fLst (flCons (fCall 2 W_guard_text (faD (flCons (fVar 0) (flCons (fVar 1) (flNil))))) (flCons (fCall 2 W_guard_text (faD (flCons (fVar 0) (flCons (fVar 1) (flNil))))) (flNil)))) (fLst (flCons (fVar 4) (flCons (fVar 4) (flNil)))))) (fsRet (fC (.bool false))) (fsNext))
  (fsSeq (fsIf (ftB (fOp gNeA (fUn gRepr (fLst (flCons (fCall 2 W_read_guard (faD (flCons (fVar 0) (flCons (fVar 4) (flNil))))) (flCons (fCall 2 W_read_guard (faD (flCons (fVar 0) (flCons (fVar 4) (flNil))))) (flNil))))) (fUn gRepr (fLst (flCons (fVar 1) (flCons (fVar 1) (flNil))))))) (fsRet (fC (.bool false))) (fsNext))
  (fsRet (fAnd (fOp gEqA (fOp gEqA (fCall 2 W_guard_text (faD (flCons (fVar 0) (flCons (fVar 2) (flNil))))) (fVar 4)) (fOp gEqA (fVar 2) (fVar 1))) (fOp gEqA (fUn gRepr (fLst (flCons (fVar 1) (flCons (fVar 2) (flNil))))) (fVar 3))))))
theorem raw_law_guard_right {f : Addr} {fd : FuncData} {a_guard_text : Addr} {d_guard_text : FuncData} {a_read_guard : Addr} {d_read_guard : FuncData} {a_law_guard_page : Addr} {d_law_guard_page : FuncData} (F : Fun K "_law_guard_right" "_law_guard_right" s_law_guard_right f fd) (T : Txt mg) (g_guard_text : mg "guard_text" = some (.ref a_guard_text)) (g_read_guard : mg "read_guard" = some (.ref a_read_guard)) (g_law_guard_page : mg "_law_guard_page" = some (.ref a_law_guard_page)) (G_guard_text : FnG P w K mg base (L2.CX P w) 6 a_guard_text d_guard_text ["deeds", "guard"] (spD ⟨K, w⟩ M 2 W_guard_text)) (b_guard_text : Binds K d_guard_text ["deeds", "guard"] []) (k_guard_text : PySem.W.keepIn K (.ref a_guard_text) = true) (G_read_guard : FnG P w K mg base (L2.CX P w) 6 a_read_guard d_read_guard ["deeds", "string"] (spD ⟨K, w⟩ M 2 W_read_guard)) (b_read_guard : Binds K d_read_guard ["deeds", "string"] []) (k_read_guard : PySem.W.keepIn K (.ref a_read_guard) = true) (G_law_guard_page : FnG P w K mg base (L2.CX P w) 2 a_law_guard_page d_law_guard_page ["ward"] (spD ⟨K, w⟩ M 1 W_law_guard_page)) (b_law_guard_page : Binds K d_law_guard_page ["ward"] []) (k_law_guard_page : PySem.W.keepIn K (.ref a_law_guard_page) = true) : FnG P w K mg base (L2.CX P w) 7 f fd ["count", "ward", "far"] (spD ⟨K, w⟩ M 3 (fBody 5 w_law_guard_right)) := by
  refine fnD F sc_law_guard_right fun cdv A outer s H E hgd hr => ?_
  have nd := (sc_law_guard_right).nd
  have hu : (A.deeper (envOfC "_law_guard_right" (defScope s_law_guard_right) s.heap.objs.size f cdv)).units + 64 < cLine := hr.units
  exact pds_cons (pds_par2 (ps_par (i := 3) (j := 4) rfl nd rfl rfl (by decide) rfl rfl (pdl_cons (pd_b1 (call_reprD hgd hu) r1_repr (by rfl) T.repr (by decide +kernel) (pd_lst (pdl_cons (pd_var (pv 1)) (pdl_cons (pd_var (pv 2)) (pdl_nil))))) (pdl_cons (pd_call mW_law_guard_page (G_law_guard_page.mono (by decide)) hgd hr (by rfl) g_law_guard_page k_law_guard_page b_law_guard_page (pda_d (pdl_cons (pd_var (pv 1)) (pdl_nil)))) (pdl_nil))).pa (by rfl)) (pdl_cons (pd_b1 (call_reprD hgd hu) r1_repr (by rfl) T.repr (by decide +kernel) (pd_lst (pdl_cons (pd_var (pv 1)) (pdl_cons (pd_var (pv 2)) (pdl_nil))))) (pdl_cons (pd_call mW_law_guard_page (G_law_guard_page.mono (by decide)) hgd hr (by rfl) g_law_guard_page k_law_guard_page b_law_guard_page (pda_d (pdl_cons (pd_var (pv 1)) (pdl_nil)))) (pdl_nil))))
    (pds_cons (pds_if (pdt_cmp (op_neA hu) rd_neA (pd_lst (pdl_cons (pd_call mW_guard_text (G_guard_text.mono (by decide)) hgd hr (by rfl) g_guard_text k_guard_text b_guard_text (pda_d (pdl_cons (pd_var (pv 0)) (pdl_cons (pd_var (pv 1)) (pdl_nil))))) (pdl_cons (pd_call mW_guard_text (G_guard_text.mono (by decide)) hgd hr (by rfl) g_guard_text k_guard_text b_guard_text (pda_d (pdl_cons (pd_var (pv 0)) (pdl_cons (pd_var (pv 1)) (pdl_nil))))) (pdl_nil)))) (pd_lst (pdl_cons (pd_var (pv 4)) (pdl_cons (pd_var (pv 4)) (pdl_nil)))) (by first | exact nomark _ | rfl)) (pds_one (pds_ret (pd_bl))) (pds_nil))
    (pds_cons (pds_if (pdt_cmp (op_neA hu) rd_neA (pd_b1 (call_reprD hgd hu) r1_repr (by rfl) T.repr (by decide +kernel) (pd_lst (pdl_cons (pd_call mW_read_guard (G_read_guard.mono (by decide)) hgd hr (by rfl) g_read_guard k_read_guard b_read_guard (pda_d (pdl_cons (pd_var (pv 0)) (pdl_cons (pd_var (pv 4)) (pdl_nil))))) (pdl_cons (pd_call mW_read_guard (G_read_guard.mono (by decide)) hgd hr (by rfl) g_read_guard k_read_guard b_read_guard (pda_d (pdl_cons (pd_var (pv 0)) (pdl_cons (pd_var (pv 4)) (pdl_nil))))) (pdl_nil))))) (pd_b1 (call_reprD hgd hu) r1_repr (by rfl) T.repr (by decide +kernel) (pd_lst (pdl_cons (pd_var (pv 1)) (pdl_cons (pd_var (pv 1)) (pdl_nil))))) (by first | exact nomark _ | rfl)) (pds_one (pds_ret (pd_bl))) (pds_nil))
    (pds_one (pds_ret (pd_and (pd_cmp (op_eqA hu) rd_eqA (pd_cmp (op_eqA hu) rd_eqA (pd_call mW_guard_text (G_guard_text.mono (by decide)) hgd hr (by rfl) g_guard_text k_guard_text b_guard_text (pda_d (pdl_cons (pd_var (pv 0)) (pdl_cons (pd_var (pv 2)) (pdl_nil))))) (pd_var (pv 4)) (by first | exact nomark _ | rfl)) (pd_cmp (op_eqA hu) rd_eqA (pd_var (pv 2)) (pd_var (pv 1)) (by first | exact nomark _ | rfl)) (by first | exact nomark _ | rfl)) (pd_one (pd_cmp (op_eqA hu) rd_eqA (pd_b1 (call_reprD hgd hu) r1_repr (by rfl) T.repr (by decide +kernel) (pd_lst (pdl_cons (pd_var (pv 1)) (pdl_cons (pd_var (pv 2)) (pdl_nil))))) (pd_var (pv 3)) (by first | exact nomark _ | rfl))))))))
def W_law_guard_right : FE := fun ρ k => ∃ (q : Int) (g g2 : List (List (Int × List Int))), ρ.sl = [.d (.int q), .d (guardD g), .d (guardD g2)] ∧ (GOK q g ∧ GOK q g2) ∧ k (.bool true) ρ
theorem mW_law_guard_right (ρ : Rho) (k k' : KD) (h : ∀ d ρ', k d ρ' → k' d ρ') (q : W_law_guard_right ρ k) : W_law_guard_right ρ k' := by
  obtain ⟨q, g, g2, e1, e2, e3⟩ := q
  exact ⟨q, g, g2, e1, e2, h _ _ e3⟩
theorem ok_law_guard_right : ∀ ρ k, W_law_guard_right ρ k → fBody 5 w_law_guard_right ρ k := by
  rintro ⟨sl, n⟩ k ⟨q, g, g2, e, ⟨h, h2⟩, z⟩
  simp only at e
  subst e
  have n1 := neat_guard h
  have n2 := neat_guard h2
  have np := neat_str (pageG_low h)
  have r12 := gRepr_neat (neat_lst (neatAll_cons n1 (neatAll_cons n2 neatAll_nil))) (by decide) (by decide)
  have r11 := gRepr_neat (neat_lst (neatAll_cons n1 (neatAll_cons n1 neatAll_nil))) (by decide) (by decide)
  simp [w_law_guard_right]
  simp [and_assoc, Rho.set, dropOwn, ftLend, fLend, lendR, frz, ow, nList, -forall_exists_index, fBody, fsSeq, fsIf, fsRet, fsNext, fsDrop, fsAsg, fsNever, fsFor, fsOwn, fsPar2, fsPar3, fsPar_od, fsPar_do, fsPar_oo, fVar, fC, fUn, fOp, fChain, fTup, fLst, fCall, faD, faSt, flCons, flNil, fSl, foSome, foNone, fAnd, fOr, fNot, fIf, fOfN, fn1, fnLst, fnCat, fgN, fgTup, fgCons, fgNil, fiSeq, fiRange1, fiRange2, fiEnumA, fiZip, ftOr, ftAnd, ftNot, ftB, ftT, ftYes, truD_b, truD_i, truD_l, truD_t, truD_n, gIx_t0, gIx_t1, gIx_t2, gSl_t, gSl_l, gIsT, notDict, isT, isN, tyName, gLen_t, gLen_l, gTuple_l, gCmp, gAdd_ii, gAdd_ll, PD.gSub, gNeg, gMod, seqD, forD, wipeR, gEqA, gNeA, gEq_ii, gNe_ii, gEq_tt, gIn_ints, gIn_intsL, gNotIn_ints, gNotIn_intsL, fM0, fM1, fJoined, fJ, flStar, starD, fCall0]
  refine ⟨_, r12, q, g, rfl, h, q, g, rfl, h, q, g, rfl, h, _, gNe_neat (neat_lst (neatAll_cons np (neatAll_cons np neatAll_nil))) (by decide), .inl ⟨rfl, q, g, rfl, h, q, g, rfl, h, _, r11, _, r11, _, rfl, .inl ⟨by rw [decide_eq_true rfl]; rfl, q, g2, rfl, h2, _, rfl, _, gEq_neat n2 (by decide) n1 (by decide), _, gEq_bb _ _, .inr ⟨?_, _, r12, _, rfl, ?_⟩⟩⟩⟩
  · rw [dec_eqv (itree_guard _) (itree_guard _) (pageG_inj h h2)]
    simp
  · rw [decide_eq_true rfl]
    exact z
abbrev s_law_hand : Stmt := top 52
theorem sc_law_hand : FnScope ["ward", "tall", "k", "wide", "act", "page"] [] (defScope s_law_hand) := ⟨rfl, rfl, rfl, by decide +kernel, rfl, by decide +kernel, by decide +kernel⟩
def w_law_hand : FS := fsSeq (fsIf (ftB (fOp gNeA (fCall 1 W_wish_text (faD (flCons (fTup (flCons (fC (.int 2)) (flCons (fTup (flCons (fTup (flCons (fC (.int 1)) (flCons (fC (.int 0)) (flNil)))) (flCons (fTup (flCons (fC (.int 0)) (flCons (fC (.int 2)) (flNil)))) (flCons (fTup (flCons (fC (.int 2)) (flCons (fC (.int 2)) (flNil)))) (flNil))))) (flCons (fTup (flCons (fC (.int 0)) (flCons (fC (.int 2)) (flNil)))) (flNil))))) (flNil)))) (fC (.str "2\n1 0\n0 2\n2 2\ngood 0 2")))) (fsRet (fC (.bool false))) (fsNext))
  (fsSeq (fsIf (ftB (fOp gNeA (fLst (flCons (fCall 1 W_wish_text (faD (flCons (fTup (flCons (fC (.int 1)) (flCons (fTup (flCons (fTup (flCons (fC (.int 0)) (flNil))) (flNil))) (flCons (fTup (flCons (fC (.int 0)) (flNil))) (flNil))))) (flNil)))) (flCons (fCall 2 W_guard_text (faD (flCons (fC (.int 1)) (flCons (fTup (flCons (fTup (flCons (fTup (flCons (fC (.int 0)) (flCons (fTup (flNil)) (flNil)))) (flNil))) (flNil))) (flNil))))) (flNil)))) (fLst (flCons (fC (.str "1\n0\ngood 0")) (flCons (fC (.str "0:-")) (flNil)))))) (fsRet (fC (.bool false))) (fsNext))
  (fsSeq (fsAsg (fTup (flCons (fTup (flCons (fTup (flCons (fC (.int 1)) (flCons (fTup (flCons (fC (.int 0)) (flCons (fC (.int 1)) (flCons (fC (.int 1)) (flNil))))) (flNil)))) (flCons (fTup (flCons (fC (.int 0)) (flCons (fTup (flNil)) (flNil)))) (flNil)))) (flCons (fTup (flCons (fTup (flCons (fC (.int 1)) (flCons (fTup (flCons (fC (.int 1)) (flNil))) (flNil)))) (flCons (fTup (flCons (fC (.int 0)) (flCons (fOp gMul (fTup (flCons (fC (.int 0)) (flNil))) (fC (.int 6))) (flNil)))) (flNil)))) (flNil)))) (fgN 0))
  (fsSeq (fsIf (ftOr (ftB (fOp gNeA (fCall 2 W_guard_text (faD (flCons (fC (.int 2)) (flCons (fVar 0) (flNil))))) (fC (.str "1:0,1,1 0:-\n1:1 0:0,0,0,0,0,0")))) (ftB (fOp gNeA (fCall 2 W_read_guard (faD (flCons (fC (.int 2)) (flCons (fCall 2 W_guard_text (faD (flCons (fC (.int 2)) (flCons (fVar 0) (flNil))))) (flNil))))) (fVar 0)))) (fsRet (fC (.bool false))) (fsNext))
  (fsSeq (fsAsg (fTup (flCons (fC (.int 4)) (flCons (fUn gTuple (fOfN (fnComp (fiRange1 (flCons (fC (.int 6)) (flNil))) (fgN 2) (ftYes) (fTup (flCons (fVar 2) (flCons (fC (.int 5)) (flCons (fC (.int 0)) (flCons (fOp gSub (fC (.int 5)) (fVar 2)) (flNil)))))) [2]))) (flCons (fTup (flCons (fC (.int 0)) (flCons (fC (.int 1)) (flCons (fC (.int 2)) (flCons (fC (.int 3)) (flCons (fC (.int 4)) (flCons (fC (.int 5)) (flNil)))))))) (flNil))))) (fgN 1))
  (fsSeq (fsIf (ftB (fOp gNeA (fCall 1 W_wish_text (faD (flCons (fVar 1) (flNil)))) (fC (.str "4\n0 5 0 5\n1 5 0 4\n2 5 0 3\n3 5 0 2\n4 5 0 1\n5 5 0 0\ngood 0 1 2 3 4 5")))) (fsRet (fC (.bool false))) (fsNext))
  (fsSeq (fsAsg (fUn gTuple (fOfN (fnComp (fiRange1 (flCons (fC (.int 8)) (flNil))) (fgN 2) (ftYes) (fUn gTuple (fOfN (fnComp (fiRange1 (flCons (fC (.int 4)) (flNil))) (fgN 4) (ftYes) (fTup (flCons (fOp gSub (fC (.int 7)) (fVar 2)) (flCons (fTup (flCons (fC (.int 3)) (flCons (fC (.int 2)) (flCons (fC (.int 1)) (flCons (fC (.int 0)) (flCons (fVar 4) (flCons (fC (.int 3)) (flNil)))))))) (flNil)))) [4]))) [2]))) (fgN 3))
  (fsSeq (fsAsg (fCall 2 W_guard_text (faD (flCons (fC (.int 4)) (flCons (fVar 3) (flNil))))) (fgN 5))
  (fsSeq (fsIf (ftB (fOp gNeA (fOp gIx (fM1 gSplit (fVar 5) (fC (.str "\n"))) (fC (.int 7))) (fC (.str "0:3,2,1,0,0,3 0:3,2,1,0,1,3 0:3,2,1,0,2,3 0:3,2,1,0,3,3")))) (fsRet (fC (.bool false))) (fsNext))
  (fsRet (fOp gEqA (fUn gRepr (fLst (flCons (fCall 1 W_read_wish (faD (flCons (fCall 1 W_wish_text (faD (flCons (fVar 1) (flNil)))) (flNil)))) (flCons (fCall 2 W_read_guard (faD (flCons (fC (.int 4)) (flCons (fVar 5) (flNil))))) (flNil))))) (fUn gRepr (fLst (flCons (fVar 1) (flCons (fVar 3) (flNil)))))))))))))))
theorem raw_law_hand {f : Addr} {fd : FuncData} {a_wish_text : Addr} {d_wish_text : FuncData} {a_guard_text : Addr} {d_guard_text : FuncData} {a_read_wish : Addr} {d_read_wish : FuncData} {a_read_guard : Addr} {d_read_guard : FuncData} (F : Fun K "_law_hand" "_law_hand" s_law_hand f fd) (T : Txt mg) (g_wish_text : mg "wish_text" = some (.ref a_wish_text)) (g_guard_text : mg "guard_text" = some (.ref a_guard_text)) (g_read_wish : mg "read_wish" = some (.ref a_read_wish)) (g_read_guard : mg "read_guard" = some (.ref a_read_guard)) (G_wish_text : FnG P w K mg base (L2.CX P w) 6 a_wish_text d_wish_text ["wish"] (spD ⟨K, w⟩ M 1 W_wish_text)) (b_wish_text : Binds K d_wish_text ["wish"] []) (k_wish_text : PySem.W.keepIn K (.ref a_wish_text) = true) (G_guard_text : FnG P w K mg base (L2.CX P w) 6 a_guard_text d_guard_text ["deeds", "guard"] (spD ⟨K, w⟩ M 2 W_guard_text)) (b_guard_text : Binds K d_guard_text ["deeds", "guard"] []) (k_guard_text : PySem.W.keepIn K (.ref a_guard_text) = true) (G_read_wish : FnG P w K mg base (L2.CX P w) 6 a_read_wish d_read_wish ["string"] (spD ⟨K, w⟩ M 1 W_read_wish)) (b_read_wish : Binds K d_read_wish ["string"] []) (k_read_wish : PySem.W.keepIn K (.ref a_read_wish) = true) (G_read_guard : FnG P w K mg base (L2.CX P w) 6 a_read_guard d_read_guard ["deeds", "string"] (spD ⟨K, w⟩ M 2 W_read_guard)) (b_read_guard : Binds K d_read_guard ["deeds", "string"] []) (k_read_guard : PySem.W.keepIn K (.ref a_read_guard) = true) : FnG P w K mg base (L2.CX P w) 7 f fd [] (spD ⟨K, w⟩ M 0 (fBody 6 w_law_hand)) := by
  refine fnD F sc_law_hand fun cdv A outer s H E hgd hr => ?_
  have nd := (sc_law_hand).nd
  have hu : (A.deeper (envOfC "_law_hand" (defScope s_law_hand) s.heap.objs.size f cdv)).units + 64 < cLine := hr.units
  exact pds_cons (pds_if (pdt_cmp (op_neA hu) rd_neA (pd_call mW_wish_text (G_wish_text.mono (by decide)) hgd hr (by rfl) g_wish_text k_wish_text b_wish_text (pda_d (pdl_cons (pd_tup (pdl_cons (pd_int) (pdl_cons (pd_tup (pdl_cons (pd_tup (pdl_cons (pd_int) (pdl_cons (pd_int) (pdl_nil)))) (pdl_cons (pd_tup (pdl_cons (pd_int) (pdl_cons (pd_int) (pdl_nil)))) (pdl_cons (pd_tup (pdl_cons (pd_int) (pdl_cons (pd_int) (pdl_nil)))) (pdl_nil))))) (pdl_cons (pd_tup (pdl_cons (pd_int) (pdl_cons (pd_int) (pdl_nil)))) (pdl_nil))))) (pdl_nil)))) (pd_str) (by first | exact nomark _ | rfl)) (pds_one (pds_ret (pd_bl))) (pds_nil))
    (pds_cons (pds_if (pdt_cmp (op_neA hu) rd_neA (pd_lst (pdl_cons (pd_call mW_wish_text (G_wish_text.mono (by decide)) hgd hr (by rfl) g_wish_text k_wish_text b_wish_text (pda_d (pdl_cons (pd_tup (pdl_cons (pd_int) (pdl_cons (pd_tup (pdl_cons (pd_tup (pdl_cons (pd_int) (pdl_nil))) (pdl_nil))) (pdl_cons (pd_tup (pdl_cons (pd_int) (pdl_nil))) (pdl_nil))))) (pdl_nil)))) (pdl_cons (pd_call mW_guard_text (G_guard_text.mono (by decide)) hgd hr (by rfl) g_guard_text k_guard_text b_guard_text (pda_d (pdl_cons (pd_int) (pdl_cons (pd_tup (pdl_cons (pd_tup (pdl_cons (pd_tup (pdl_cons (pd_int) (pdl_cons (pd_tup (pdl_nil)) (pdl_nil)))) (pdl_nil))) (pdl_nil))) (pdl_nil))))) (pdl_nil)))) (pd_lst (pdl_cons (pd_str) (pdl_cons (pd_str) (pdl_nil)))) (by first | exact nomark _ | rfl)) (pds_one (pds_ret (pd_bl))) (pds_nil))
    (pds_cons (pds_asg (pd_tup (pdl_cons (pd_tup (pdl_cons (pd_tup (pdl_cons (pd_int) (pdl_cons (pd_tup (pdl_cons (pd_int) (pdl_cons (pd_int) (pdl_cons (pd_int) (pdl_nil))))) (pdl_nil)))) (pdl_cons (pd_tup (pdl_cons (pd_int) (pdl_cons (pd_tup (pdl_nil)) (pdl_nil)))) (pdl_nil)))) (pdl_cons (pd_tup (pdl_cons (pd_tup (pdl_cons (pd_int) (pdl_cons (pd_tup (pdl_cons (pd_int) (pdl_nil))) (pdl_nil)))) (pdl_cons (pd_tup (pdl_cons (pd_int) (pdl_cons (pd_op op_mulA rd_mul (pd_tup (pdl_cons (pd_int) (pdl_nil))) (pd_int)) (pdl_nil)))) (pdl_nil)))) (pdl_nil)))) (pg1_name (i := 0) (pg_name (i := 0) nd rfl (by first | exact Or.inl rfl | exact Or.inr rfl))))
    (pds_cons (pds_if (PDW.pt (pdw_or (pdt_cmp (op_neA hu) rd_neA (pd_call mW_guard_text (G_guard_text.mono (by decide)) hgd hr (by rfl) g_guard_text k_guard_text b_guard_text (pda_d (pdl_cons (pd_int) (pdl_cons (pd_var (pv 0)) (pdl_nil))))) (pd_str) (by first | exact nomark _ | rfl)) (pdw_or1 (pdt_cmp (op_neA hu) rd_neA (pd_call mW_read_guard (G_read_guard.mono (by decide)) hgd hr (by rfl) g_read_guard k_read_guard b_read_guard (pda_d (pdl_cons (pd_int) (pdl_cons (pd_call mW_guard_text (G_guard_text.mono (by decide)) hgd hr (by rfl) g_guard_text k_guard_text b_guard_text (pda_d (pdl_cons (pd_int) (pdl_cons (pd_var (pv 0)) (pdl_nil))))) (pdl_nil))))) (pd_var (pv 0)) (by first | exact nomark _ | rfl))))) (pds_one (pds_ret (pd_bl))) (pds_nil))
    (pds_cons (pds_asg (pd_tup (pdl_cons (pd_int) (pdl_cons (pd_t1 call_tuple_of r1_tuple (by rfl) T.tuple (by decide +kernel) (pd_ofN (pn_lc rfl nd (own := [("k", 2)]) (vs := [2]) (pdi_range1 (by rfl) T.range (pdl_cons (pd_int) (pdl_nil))) (blkOk_by (own := [("k", 2)]) (N := ["ward", "tall", "k", "wide", "act", "page"]) (sc := defScope s_law_hand) (by decide +kernel)) rfl (fun _ _ _ _ _ => pg1_name (i := 2) (pg_name (i := 2) nd rfl (by first | exact Or.inl rfl | exact Or.inr rfl))) (fun _ _ _ _ _ => ptn_nil) (fun _ _ _ _ _ => pd_tup (pdl_cons (pd_var (pv 2)) (pdl_cons (pd_int) (pdl_cons (pd_int) (pdl_cons (pd_op op_sub rd_sub (pd_int) (pd_var (pv 2))) (pdl_nil)))))) s))) (pdl_cons (pd_tup (pdl_cons (pd_int) (pdl_cons (pd_int) (pdl_cons (pd_int) (pdl_cons (pd_int) (pdl_cons (pd_int) (pdl_cons (pd_int) (pdl_nil)))))))) (pdl_nil))))) (pg1_name (i := 1) (pg_name (i := 1) nd rfl (by first | exact Or.inl rfl | exact Or.inr rfl))))
    (pds_cons (pds_if (pdt_cmp (op_neA hu) rd_neA (pd_call mW_wish_text (G_wish_text.mono (by decide)) hgd hr (by rfl) g_wish_text k_wish_text b_wish_text (pda_d (pdl_cons (pd_var (pv 1)) (pdl_nil)))) (pd_str) (by first | exact nomark _ | rfl)) (pds_one (pds_ret (pd_bl))) (pds_nil))
    (pds_cons (pds_asg (pd_t1 call_tuple_of r1_tuple (by rfl) T.tuple (by decide +kernel) (pd_ofN (pn_lc rfl nd (own := [("k", 2)]) (vs := [2]) (pdi_range1 (by rfl) T.range (pdl_cons (pd_int) (pdl_nil))) (blkOk_by (own := [("k", 2)]) (N := ["ward", "tall", "k", "wide", "act", "page"]) (sc := defScope s_law_hand) (by decide +kernel)) rfl (fun _ _ _ _ _ => pg1_name (i := 2) (pg_name (i := 2) nd rfl (by first | exact Or.inl rfl | exact Or.inr rfl))) (fun _ _ _ _ _ => ptn_nil) (fun _ _ _ _ _ => pd_t1 call_tuple_of r1_tuple (by rfl) T.tuple (by decide +kernel) (pd_ofN (pn_lc rfl nd (own := [("act", 4)]) (vs := [4]) (pdi_range1 (by rfl) T.range (pdl_cons (pd_int) (pdl_nil))) (blkOk_by (own := [("act", 4)]) (N := ["ward", "tall", "k", "wide", "act", "page"]) (sc := {kind := PySem.ScopeKind.function, names := [ (PySem.Str.ofString ".0", PySem.NameKind.local), (PySem.Str.ofString "k", PySem.NameKind.cell), (PySem.Str.ofString "tuple", PySem.NameKind.globalImplicit), (PySem.Str.ofString "range", PySem.NameKind.globalImplicit)], isGenerator := false, isCoroutine := false, more := [] : PySem.Scope }) (by decide +kernel)) rfl (fun _ _ _ _ _ => pg1_name (i := 4) (pg_name (i := 4) nd rfl (by first | exact Or.inl rfl | exact Or.inr rfl))) (fun _ _ _ _ _ => ptn_nil) (fun _ _ _ _ _ => pd_tup (pdl_cons (pd_op op_sub rd_sub (pd_int) (pd_var (pv 2))) (pdl_cons (pd_tup (pdl_cons (pd_int) (pdl_cons (pd_int) (pdl_cons (pd_int) (pdl_cons (pd_int) (pdl_cons (pd_var (pv 4)) (pdl_cons (pd_int) (pdl_nil)))))))) (pdl_nil)))) s))) s))) (pg1_name (i := 3) (pg_name (i := 3) nd rfl (by first | exact Or.inl rfl | exact Or.inr rfl))))
    (pds_cons (pds_asg (pd_call mW_guard_text (G_guard_text.mono (by decide)) hgd hr (by rfl) g_guard_text k_guard_text b_guard_text (pda_d (pdl_cons (pd_int) (pdl_cons (pd_var (pv 3)) (pdl_nil))))) (pg1_name (i := 5) (pg_name (i := 5) nd rfl (by first | exact Or.inl rfl | exact Or.inr rfl))))
    (pds_cons (pds_if (pdt_cmp (op_neA hu) rd_neA (pd_ix ix_any rd_ix (pd_m1 PySem.F.slot_str_split PySem.F.type_str_split mt_split rd_split (pd_var (pv 5)) (pd_str)) (pd_int) (fun _ _ => rfl)) (pd_str) (by first | exact nomark _ | rfl)) (pds_one (pds_ret (pd_bl))) (pds_nil))
    (pds_one (pds_ret (pd_cmp (op_eqA hu) rd_eqA (pd_b1 (call_reprD hgd hu) r1_repr (by rfl) T.repr (by decide +kernel) (pd_lst (pdl_cons (pd_call mW_read_wish (G_read_wish.mono (by decide)) hgd hr (by rfl) g_read_wish k_read_wish b_read_wish (pda_d (pdl_cons (pd_call mW_wish_text (G_wish_text.mono (by decide)) hgd hr (by rfl) g_wish_text k_wish_text b_wish_text (pda_d (pdl_cons (pd_var (pv 1)) (pdl_nil)))) (pdl_nil)))) (pdl_cons (pd_call mW_read_guard (G_read_guard.mono (by decide)) hgd hr (by rfl) g_read_guard k_read_guard b_read_guard (pda_d (pdl_cons (pd_int) (pdl_cons (pd_var (pv 5)) (pdl_nil))))) (pdl_nil))))) (pd_b1 (call_reprD hgd hu) r1_repr (by rfl) T.repr (by decide +kernel) (pd_lst (pdl_cons (pd_var (pv 1)) (pdl_cons (pd_var (pv 3)) (pdl_nil))))) (by first | exact nomark _ | rfl))))))))))))
def W_law_hand : FE := fun ρ k => ρ.sl = [] ∧ (True) ∧ k (.bool true) ρ
theorem mW_law_hand (ρ : Rho) (k k' : KD) (h : ∀ d ρ', k d ρ' → k' d ρ') (q : W_law_hand ρ k) : W_law_hand ρ k' := by
  obtain ⟨e1, e2, e3⟩ := q
  exact ⟨e1, e2, h _ _ e3⟩
abbrev hW1 : List (List Int) := [[1, 0], [0, 2], [2, 2]]
abbrev hG1 : List (List (Int × List Int)) := [[(0, [])]]
abbrev hG2 : List (List (Int × List Int)) := [[(1, [0, 1, 1]), (0, [])], [(1, [1]), (0, [0, 0, 0, 0, 0, 0])]]
def hW2 : List (List Int) := (List.range 6).map fun k : Nat => [(k : Int), 5, 0, 5 - (k : Int)]
def hG3 : List (List (Int × List Int)) := (List.range 8).map fun k : Nat => (List.range 4).map fun a : Nat => (7 - (k : Int), [3, 2, 1, 0, (a : Int), 3])
theorem hw1 : WOK 2 hW1 [0, 2] := ⟨by decide, by decide, by decide, by decide, by decide, by decide, by decide, by decide⟩
theorem hw0 : WOK 1 [[0]] [0] := ⟨by decide, by decide, by decide, by decide, by decide, by decide, by decide, by decide⟩
theorem hw2 : WOK 4 hW2 [0, 1, 2, 3, 4, 5] := ⟨by decide, by decide, by decide, by decide, by decide, by decide, by decide, by decide⟩
theorem hg1 : GOK 1 hG1 := ⟨by decide, by decide, by decide, by decide, by decide, by decide, by decide⟩
theorem hg2 : GOK 2 hG2 := ⟨by decide, by decide, by decide, by decide, by decide, by decide, by decide⟩
theorem hg3 : GOK 4 hG3 := ⟨by decide, by decide, by decide, by decide, by decide, by decide, by decide⟩
theorem hp1 : pageW 2 hW1 [0, 2] = ("2\n1 0\n0 2\n2 2\ngood 0 2" : Str) := by decide +kernel
theorem hp0 : pageW 1 [[0]] [0] = ("1\n0\ngood 0" : Str) := by decide +kernel
theorem hq1 : pageG hG1 = ("0:-" : Str) := by decide +kernel
theorem hq2 : pageG hG2 = ("1:0,1,1 0:-\n1:1 0:0,0,0,0,0,0" : Str) := by decide +kernel
theorem hp2 : pageW 4 hW2 [0, 1, 2, 3, 4, 5] = ("4\n0 5 0 5\n1 5 0 4\n2 5 0 3\n3 5 0 2\n4 5 0 1\n5 5 0 0\ngood 0 1 2 3 4 5" : Str) := by decide +kernel
theorem hq3 : memS [(0, [3, 2, 1, 0, 0, 3]), (0, [3, 2, 1, 0, 1, 3]), (0, [3, 2, 1, 0, 2, 3]), (0, [3, 2, 1, 0, 3, 3])] = ("0:3,2,1,0,0,3 0:3,2,1,0,1,3 0:3,2,1,0,2,3 0:3,2,1,0,3,3" : Str) := by decide +kernel
theorem gMul6 : gMul (.tuple [.int 0]) (.int 6) = some (tupI [0, 0, 0, 0, 0, 0]) := by
  show (if ([PyData.int 0] ≠ [] ∧ 2 ≤ (6 : Int) ∧ (6 : Int) ≤ 1000 ∧ [PyData.int 0].length ≤ 1000) then some (PyData.tuple (List.replicate (6 : Int).toNat [PyData.int 0]).flatten) else none) = _
  rw [if_pos ⟨by simp, by decide, by decide, by decide⟩]
  rfl
theorem ok_law_hand : ∀ ρ k, W_law_hand ρ k → fBody 6 w_law_hand ρ k := by
  rintro ⟨sl, n⟩ k ⟨e, _, z⟩
  simp only at e
  subst e
  have s0 := neat_str (pageW_low hw0)
  have s1 := neat_str (pageG_low hg1)
  have l0 := neat_lst (neatAll_cons s0 (neatAll_cons s1 neatAll_nil))
  simp [w_law_hand]
  simp [and_assoc, Rho.set, dropOwn, ftLend, fLend, lendR, frz, ow, nList, -forall_exists_index, fBody, fsSeq, fsIf, fsRet, fsNext, fsDrop, fsAsg, fsNever, fsFor, fsOwn, fsPar2, fsPar3, fsPar_od, fsPar_do, fsPar_oo, fVar, fC, fUn, fOp, fChain, fTup, fLst, fCall, faD, faSt, flCons, flNil, fSl, foSome, foNone, fAnd, fOr, fNot, fIf, fOfN, fn1, fnLst, fnCat, fgN, fgTup, fgCons, fgNil, fiSeq, fiRange1, fiRange2, fiEnumA, fiZip, ftOr, ftAnd, ftNot, ftB, ftT, ftYes, truD_b, truD_i, truD_l, truD_t, truD_n, gIx_t0, gIx_t1, gIx_t2, gSl_t, gSl_l, gIsT, notDict, isT, isN, tyName, gLen_t, gLen_l, gTuple_l, gCmp, gAdd_ii, gAdd_ll, PD.gSub, gNeg, gMod, seqD, forD, wipeR, gEqA, gNeA, gEq_ii, gNe_ii, gEq_tt, gIn_ints, gIn_intsL, gNotIn_ints, gNotIn_intsL, fM0, fM1, fJoined, fJ, flStar, starD, fCall0]
  refine ⟨2, hW1, [0, 2], rfl, hw1, _, rfl, .inl ⟨by rw [decide_eq_true hp1]; rfl, ?_⟩⟩
  refine ⟨1, [[0]], [0], rfl, hw0, 1, hG1, rfl, hg1, .bool false, by rw [hp0, hq1] at *; exact gNe_neat l0 (by decide), .inl ⟨rfl, _, gMul6, ?_⟩⟩
  refine ⟨2, hG2, rfl, hg2, _, rfl, .inl ⟨by rw [decide_eq_true hq2]; rfl, ?_⟩⟩
  refine ⟨2, hG2, rfl, hg2, 2, hG2, rfl, hg2, _, gNe_neat (neat_guard hg2) (by decide), .inl ⟨rfl, ?_⟩⟩
  refine fnComp_i ?_
  simp [and_assoc, Rho.set, dropOwn, ftLend, fLend, lendR, frz, ow, nList, -forall_exists_index, fBody, fsSeq, fsIf, fsRet, fsNext, fsDrop, fsAsg, fsNever, fsFor, fsOwn, fsPar2, fsPar3, fsPar_od, fsPar_do, fsPar_oo, fVar, fC, fUn, fOp, fChain, fTup, fLst, fCall, faD, faSt, flCons, flNil, fSl, foSome, foNone, fAnd, fOr, fNot, fIf, fOfN, fn1, fnLst, fnCat, fgN, fgTup, fgCons, fgNil, fiSeq, fiRange1, fiRange2, fiEnumA, fiZip, ftOr, ftAnd, ftNot, ftB, ftT, ftYes, truD_b, truD_i, truD_l, truD_t, truD_n, gIx_t0, gIx_t1, gIx_t2, gSl_t, gSl_l, gIsT, notDict, isT, isN, tyName, gLen_t, gLen_l, gTuple_l, gCmp, gAdd_ii, gAdd_ll, PD.gSub, gNeg, gMod, seqD, forD, wipeR, gEqA, gNeA, gEq_ii, gNe_ii, gEq_tt, gIn_ints, gIn_intsL, gNotIn_ints, gNotIn_intsL, fM0, fM1, fJoined, fJ, flStar, starD, fCall0]
  rw [show (6 : Int) = ((6 : Nat) : Int) by rfl, rangeD_nat]
  refine ⟨by decide, comp_all (fun i : Nat => PyData.int (i : Int)) (fun k => tupI [(k : Int), 5, 0, 5 - (k : Int)]) (List.range 6) (fun i hi kt h3 => ?_) ?_⟩
  · simp [and_assoc, Rho.set, dropOwn, ftLend, fLend, lendR, frz, ow, nList, -forall_exists_index, fBody, fsSeq, fsIf, fsRet, fsNext, fsDrop, fsAsg, fsNever, fsFor, fsOwn, fsPar2, fsPar3, fsPar_od, fsPar_do, fsPar_oo, fVar, fC, fUn, fOp, fChain, fTup, fLst, fCall, faD, faSt, flCons, flNil, fSl, foSome, foNone, fAnd, fOr, fNot, fIf, fOfN, fn1, fnLst, fnCat, fgN, fgTup, fgCons, fgNil, fiSeq, fiRange1, fiRange2, fiEnumA, fiZip, ftOr, ftAnd, ftNot, ftB, ftT, ftYes, truD_b, truD_i, truD_l, truD_t, truD_n, gIx_t0, gIx_t1, gIx_t2, gSl_t, gSl_l, gIsT, notDict, isT, isN, tyName, gLen_t, gLen_l, gTuple_l, gCmp, gAdd_ii, gAdd_ll, PD.gSub, gNeg, gMod, seqD, forD, wipeR, gEqA, gNeA, gEq_ii, gNe_ii, gEq_tt, gIn_ints, gIn_intsL, gNotIn_ints, gNotIn_intsL, fM0, fM1, fJoined, fJ, flStar, starD, fCall0]
    exact h3 _ rfl
  · have e2 : (List.range 6).map (fun k : Nat => tupI [(k : Int), 5, 0, 5 - (k : Int)]) = hW2.map tupI := by unfold hW2; rw [List.map_map]; rfl
    rw [e2]
    refine ⟨4, hW2, [0, 1, 2, 3, 4, 5], rfl, hw2, _, rfl, .inl ⟨by rw [decide_eq_true hp2]; rfl, ?_⟩⟩
    refine fnComp_i ?_
    simp [and_assoc, Rho.set, dropOwn, ftLend, fLend, lendR, frz, ow, nList, -forall_exists_index, fBody, fsSeq, fsIf, fsRet, fsNext, fsDrop, fsAsg, fsNever, fsFor, fsOwn, fsPar2, fsPar3, fsPar_od, fsPar_do, fsPar_oo, fVar, fC, fUn, fOp, fChain, fTup, fLst, fCall, faD, faSt, flCons, flNil, fSl, foSome, foNone, fAnd, fOr, fNot, fIf, fOfN, fn1, fnLst, fnCat, fgN, fgTup, fgCons, fgNil, fiSeq, fiRange1, fiRange2, fiEnumA, fiZip, ftOr, ftAnd, ftNot, ftB, ftT, ftYes, truD_b, truD_i, truD_l, truD_t, truD_n, gIx_t0, gIx_t1, gIx_t2, gSl_t, gSl_l, gIsT, notDict, isT, isN, tyName, gLen_t, gLen_l, gTuple_l, gCmp, gAdd_ii, gAdd_ll, PD.gSub, gNeg, gMod, seqD, forD, wipeR, gEqA, gNeA, gEq_ii, gNe_ii, gEq_tt, gIn_ints, gIn_intsL, gNotIn_ints, gNotIn_intsL, fM0, fM1, fJoined, fJ, flStar, starD, fCall0]
    rw [show (8 : Int) = ((8 : Nat) : Int) by rfl, rangeD_nat]
    refine ⟨by decide, comp_all (fun i : Nat => PyData.int (i : Int)) (fun k => memD ((List.range 4).map fun a : Nat => (7 - (k : Int), [3, 2, 1, 0, (a : Int), 3]))) (List.range 8) (fun i hi kt h3 => ?_) ?_⟩
    · simp [and_assoc, Rho.set, dropOwn, ftLend, fLend, lendR, frz, ow, nList, -forall_exists_index, fBody, fsSeq, fsIf, fsRet, fsNext, fsDrop, fsAsg, fsNever, fsFor, fsOwn, fsPar2, fsPar3, fsPar_od, fsPar_do, fsPar_oo, fVar, fC, fUn, fOp, fChain, fTup, fLst, fCall, faD, faSt, flCons, flNil, fSl, foSome, foNone, fAnd, fOr, fNot, fIf, fOfN, fn1, fnLst, fnCat, fgN, fgTup, fgCons, fgNil, fiSeq, fiRange1, fiRange2, fiEnumA, fiZip, ftOr, ftAnd, ftNot, ftB, ftT, ftYes, truD_b, truD_i, truD_l, truD_t, truD_n, gIx_t0, gIx_t1, gIx_t2, gSl_t, gSl_l, gIsT, notDict, isT, isN, tyName, gLen_t, gLen_l, gTuple_l, gCmp, gAdd_ii, gAdd_ll, PD.gSub, gNeg, gMod, seqD, forD, wipeR, gEqA, gNeA, gEq_ii, gNe_ii, gEq_tt, gIn_ints, gIn_intsL, gNotIn_ints, gNotIn_intsL, fM0, fM1, fJoined, fJ, flStar, starD, fCall0]
      refine fnComp_i ?_
      simp [and_assoc, Rho.set, dropOwn, ftLend, fLend, lendR, frz, ow, nList, -forall_exists_index, fBody, fsSeq, fsIf, fsRet, fsNext, fsDrop, fsAsg, fsNever, fsFor, fsOwn, fsPar2, fsPar3, fsPar_od, fsPar_do, fsPar_oo, fVar, fC, fUn, fOp, fChain, fTup, fLst, fCall, faD, faSt, flCons, flNil, fSl, foSome, foNone, fAnd, fOr, fNot, fIf, fOfN, fn1, fnLst, fnCat, fgN, fgTup, fgCons, fgNil, fiSeq, fiRange1, fiRange2, fiEnumA, fiZip, ftOr, ftAnd, ftNot, ftB, ftT, ftYes, truD_b, truD_i, truD_l, truD_t, truD_n, gIx_t0, gIx_t1, gIx_t2, gSl_t, gSl_l, gIsT, notDict, isT, isN, tyName, gLen_t, gLen_l, gTuple_l, gCmp, gAdd_ii, gAdd_ll, PD.gSub, gNeg, gMod, seqD, forD, wipeR, gEqA, gNeA, gEq_ii, gNe_ii, gEq_tt, gIn_ints, gIn_intsL, gNotIn_ints, gNotIn_intsL, fM0, fM1, fJoined, fJ, flStar, starD, fCall0]
      rw [show (4 : Int) = ((4 : Nat) : Int) by rfl, rangeD_nat]
      refine ⟨by decide, comp_all (fun i : Nat => PyData.int (i : Int)) (fun a => pairD (7 - (i : Int), [3, 2, 1, 0, (a : Int), 3])) (List.range 4) (fun a ha kt2 h4 => ?_) ?_⟩
      · simp [and_assoc, Rho.set, dropOwn, ftLend, fLend, lendR, frz, ow, nList, -forall_exists_index, fBody, fsSeq, fsIf, fsRet, fsNext, fsDrop, fsAsg, fsNever, fsFor, fsOwn, fsPar2, fsPar3, fsPar_od, fsPar_do, fsPar_oo, fVar, fC, fUn, fOp, fChain, fTup, fLst, fCall, faD, faSt, flCons, flNil, fSl, foSome, foNone, fAnd, fOr, fNot, fIf, fOfN, fn1, fnLst, fnCat, fgN, fgTup, fgCons, fgNil, fiSeq, fiRange1, fiRange2, fiEnumA, fiZip, ftOr, ftAnd, ftNot, ftB, ftT, ftYes, truD_b, truD_i, truD_l, truD_t, truD_n, gIx_t0, gIx_t1, gIx_t2, gSl_t, gSl_l, gIsT, notDict, isT, isN, tyName, gLen_t, gLen_l, gTuple_l, gCmp, gAdd_ii, gAdd_ll, PD.gSub, gNeg, gMod, seqD, forD, wipeR, gEqA, gNeA, gEq_ii, gNe_ii, gEq_tt, gIn_ints, gIn_intsL, gNotIn_ints, gNotIn_intsL, fM0, fM1, fJoined, fJ, flStar, starD, fCall0]
        exact h4 _ rfl
      · have e5 : (List.range 4).map (fun a : Nat => pairD (7 - (i : Int), [3, 2, 1, 0, (a : Int), 3])) = ((List.range 4).map fun a : Nat => (7 - (i : Int), [3, 2, 1, 0, (a : Int), 3])).map pairD := by rw [List.map_map]; rfl
        rw [e5]
        exact h3 _ rfl
    · have e3 : (List.range 8).map (fun k : Nat => memD ((List.range 4).map fun a : Nat => (7 - (k : Int), [3, 2, 1, 0, (a : Int), 3]))) = hG3.map memD := by unfold hG3; rw [List.map_map]; rfl
      rw [e3]
      have e4 : gSplit (.str (pageG hG3)) (.str "\n") = some (.list ((hG3.map memS).map .str)) := gSplit_join nl_tl (by decide +kernel) (by decide) (fun p hp => (pageG_parts hg3 p hp).1) (by have := pageG_len hg3; unfold pageG at this; omega)
      have r := gRepr_neat (neat_lst (neatAll_cons (neat_wish hw2) (neatAll_cons (neat_guard hg3) neatAll_nil))) (by decide) (by decide)
      refine ⟨4, hG3, rfl, hg3, ⟨_, rfl⟩, _, e4, _, gIx_lst (i := 7) rfl, _, rfl, .inl ⟨congrArg (fun b => PyData.bool (!b)) (decide_eq_true hq3), ?_⟩⟩
      refine ⟨4, hW2, [0, 1, 2, 3, 4, 5], rfl, hw2, 4, hW2, [0, 1, 2, 3, 4, 5], rfl, hw2, 4, hG3, rfl, hg3, ?_⟩
      refine ⟨_, r, _, r, _, rfl, ?_⟩
      rw [decide_eq_true rfl]
      exact z
abbrev s_law : Stmt := top 53
theorem sc_law : FnScope ["script", "m", "lap", "goal", "ward", "again"] ["script"] (defScope s_law) := ⟨rfl, rfl, rfl, by decide +kernel, rfl, by decide +kernel, by decide +kernel⟩
def b_law_1 : FS := fsSeq (fsIf (ftNot (ftT (fCall 2 W_law_wish_right (faD (flCons (fVar 3) (flCons (fCall 2 W_law_near_goal (faSt 1 (flCons (fVar 3) (flNil)))) (flNil))))))) (fsRet (fC (.bool false))) (fsNext))
  (fsIf (ftNot (ftT (fCall 3 W_law_guard_right (faD (flCons (fOp gIx (fVar 3) (fC (.int 0))) (flCons (fVar 4) (flCons (fCall 3 W_law_near_watchman (faSt 1 (flCons (fVar 4) (flCons (fOp gIx (fVar 3) (fC (.int 0))) (flNil))))) (flNil)))))))) (fsRet (fC (.bool false))) (fsNext))
def b_law_2 : FS := fsSeq (fsAsg (fCall 3 W_law_goal (faSt 1 (flCons (fC (.int 4)) (flCons (fC (.int 6)) (flNil))))) (fgN 3))
  (fsSeq (fsAsg (fCall 2 W_law_watchman (faSt 1 (flCons (fOp gIx (fVar 3) (fC (.int 0))) (flNil)))) (fgN 4))
  (fsSeq (fsFor (fiRange1 (flCons (fC (.int 3)) (flNil))) (fgN 5) b_law_1)
  (fsIf (ftNot (ftT (fCall 2 W_law_wish_right (faD (flCons (fCall 3 W_law_goal (faSt 1 (flCons (fC (.int 4)) (flCons (fC (.int 6)) (flNil))))) (flCons (fVar 3) (flNil))))))) (fsRet (fC (.bool false))) (fsNext))))
def w_law : FS := fsBegin 1 1 B_law (flCons (fVar 0) (flNil))
  (fsSeq (fsFor (fiRange1 (flCons (fOp gAdd (fC (.int 3)) (fOp gMin2 (fUn gLen (fVar 0)) (fC (.int 8)))) (flNil))) (fgN 2) b_law_2)
  (fsRet (fCall0 W_law_hand)))
theorem raw_law {f : Addr} {fd : FuncData} {a_law_begun : Addr} {d_law_begun : FuncData} {a_law_goal : Addr} {d_law_goal : FuncData} {a_law_watchman : Addr} {d_law_watchman : FuncData} {a_law_near_goal : Addr} {d_law_near_goal : FuncData} {a_law_near_watchman : Addr} {d_law_near_watchman : FuncData} {a_law_wish_right : Addr} {d_law_wish_right : FuncData} {a_law_guard_right : Addr} {d_law_guard_right : FuncData} {a_law_hand : Addr} {d_law_hand : FuncData} (F : Fun K "law" "law" s_law f fd) (T : Txt mg) (g_law_begun : mg "_law_begun" = some (.ref a_law_begun)) (g_law_goal : mg "_law_goal" = some (.ref a_law_goal)) (g_law_watchman : mg "_law_watchman" = some (.ref a_law_watchman)) (g_law_near_goal : mg "_law_near_goal" = some (.ref a_law_near_goal)) (g_law_near_watchman : mg "_law_near_watchman" = some (.ref a_law_near_watchman)) (g_law_wish_right : mg "_law_wish_right" = some (.ref a_law_wish_right)) (g_law_guard_right : mg "_law_guard_right" = some (.ref a_law_guard_right)) (g_law_hand : mg "_law_hand" = some (.ref a_law_hand)) (G_law_begun : FnG P w K mg base (L2.CX P w) 1 a_law_begun d_law_begun ["script"] (spB ⟨K, w⟩ M 1 B_law)) (b_law_begun : Binds K d_law_begun ["script"] []) (k_law_begun : PySem.W.keepIn K (.ref a_law_begun) = true) (G_law_goal : FnG P w K mg base (L2.CX P w) 2 a_law_goal d_law_goal ["m", "acts", "most"] (spD ⟨K, w⟩ M 3 W_law_goal)) (b_law_goal : Binds K d_law_goal ["m", "acts", "most"] []) (k_law_goal : PySem.W.keepIn K (.ref a_law_goal) = true) (G_law_watchman : FnG P w K mg base (L2.CX P w) 4 a_law_watchman d_law_watchman ["m", "count"] (spD ⟨K, w⟩ M 2 W_law_watchman)) (b_law_watchman : Binds K d_law_watchman ["m", "count"] []) (k_law_watchman : PySem.W.keepIn K (.ref a_law_watchman) = true) (G_law_near_goal : FnG P w K mg base (L2.CX P w) 2 a_law_near_goal d_law_near_goal ["m", "goal"] (spD ⟨K, w⟩ M 2 W_law_near_goal)) (b_law_near_goal : Binds K d_law_near_goal ["m", "goal"] []) (k_law_near_goal : PySem.W.keepIn K (.ref a_law_near_goal) = true) (G_law_near_watchman : FnG P w K mg base (L2.CX P w) 4 a_law_near_watchman d_law_near_watchman ["m", "ward", "count"] (spD ⟨K, w⟩ M 3 W_law_near_watchman)) (b_law_near_watchman : Binds K d_law_near_watchman ["m", "ward", "count"] []) (k_law_near_watchman : PySem.W.keepIn K (.ref a_law_near_watchman) = true) (G_law_wish_right : FnG P w K mg base (L2.CX P w) 7 a_law_wish_right d_law_wish_right ["goal", "far"] (spD ⟨K, w⟩ M 2 W_law_wish_right)) (b_law_wish_right : Binds K d_law_wish_right ["goal", "far"] []) (k_law_wish_right : PySem.W.keepIn K (.ref a_law_wish_right) = true) (G_law_guard_right : FnG P w K mg base (L2.CX P w) 7 a_law_guard_right d_law_guard_right ["count", "ward", "far"] (spD ⟨K, w⟩ M 3 W_law_guard_right)) (b_law_guard_right : Binds K d_law_guard_right ["count", "ward", "far"] []) (k_law_guard_right : PySem.W.keepIn K (.ref a_law_guard_right) = true) (G_law_hand : FnG P w K mg base (L2.CX P w) 7 a_law_hand d_law_hand [] (spD ⟨K, w⟩ M 0 W_law_hand)) (b_law_hand : Binds K d_law_hand [] []) (k_law_hand : PySem.W.keepIn K (.ref a_law_hand) = true) : FnG P w K mg base (L2.CX P w) 8 f fd ["script"] (spD ⟨K, w⟩ M 1 (fBody 6 w_law)) := by
  refine fnD F sc_law fun cdv A outer s H E hgd hr => ?_
  have nd := (sc_law).nd
  have hu : (A.deeper (envOfC "law" (defScope s_law) s.heap.objs.size f cdv)).units + 64 < cLine := hr.units
  exact pds_begin (i := 1) (n := 1) (B := B_law) (G_law_begun.mono (by decide)) hgd hr (by rfl) g_law_begun k_law_begun b_law_begun (pdl_cons (pd_var (pv 0)) (pdl_nil)) (pg_name (i := 1) nd rfl (by first | exact Or.inl rfl | exact Or.inr rfl))
    (pds_cons (pds_for (fs := b_law_2) PassesOwn.never rfl (pdi_range1 (by rfl) T.range (pdl_cons (pd_op op_addA rd_add (pd_int) (pd_b2 (call_min2 rfl) rd_min2 (by rfl) T.min (by decide +kernel) (pd_b1 call_lenA r1_len (by rfl) T.len (by decide +kernel) (pd_var (pv 0))) (pd_int))) (pdl_nil))) (pg1_name (i := 2) (pg_name (i := 2) nd rfl (by first | exact Or.inl rfl | exact Or.inr rfl))) (pds_cons (pds_asg (pd_call mW_law_goal (G_law_goal.mono (by decide)) hgd hr (by rfl) g_law_goal k_law_goal b_law_goal (pda_st (pv 1) (pdl_cons (pd_int) (pdl_cons (pd_int) (pdl_nil))))) (pg1_name (i := 3) (pg_name (i := 3) nd rfl (by first | exact Or.inl rfl | exact Or.inr rfl))))
    (pds_cons (pds_asg (pd_call mW_law_watchman (G_law_watchman.mono (by decide)) hgd hr (by rfl) g_law_watchman k_law_watchman b_law_watchman (pda_st (pv 1) (pdl_cons (pd_ix ix_any rd_ix (pd_var (pv 3)) (pd_int) (fun _ _ => rfl)) (pdl_nil)))) (pg1_name (i := 4) (pg_name (i := 4) nd rfl (by first | exact Or.inl rfl | exact Or.inr rfl))))
    (pds_cons (pds_for (fs := b_law_1) PassesOwn.never rfl (pdi_range1 (by rfl) T.range (pdl_cons (pd_int) (pdl_nil))) (pg1_name (i := 5) (pg_name (i := 5) nd rfl (by first | exact Or.inl rfl | exact Or.inr rfl))) (pds_cons (pds_if (pdt_not (pdt_truth (pd_call mW_law_wish_right (G_law_wish_right.mono (by decide)) hgd hr (by rfl) g_law_wish_right k_law_wish_right b_law_wish_right (pda_d (pdl_cons (pd_var (pv 3)) (pdl_cons (pd_call mW_law_near_goal (G_law_near_goal.mono (by decide)) hgd hr (by rfl) g_law_near_goal k_law_near_goal b_law_near_goal (pda_st (pv 1) (pdl_cons (pd_var (pv 3)) (pdl_nil)))) (pdl_nil))))))) (pds_one (pds_ret (pd_bl))) (pds_nil))
    (pds_one (pds_if (pdt_not (pdt_truth (pd_call mW_law_guard_right (G_law_guard_right.mono (by decide)) hgd hr (by rfl) g_law_guard_right k_law_guard_right b_law_guard_right (pda_d (pdl_cons (pd_ix ix_any rd_ix (pd_var (pv 3)) (pd_int) (fun _ _ => rfl)) (pdl_cons (pd_var (pv 4)) (pdl_cons (pd_call mW_law_near_watchman (G_law_near_watchman.mono (by decide)) hgd hr (by rfl) g_law_near_watchman k_law_near_watchman b_law_near_watchman (pda_st (pv 1) (pdl_cons (pd_var (pv 4)) (pdl_cons (pd_ix ix_any rd_ix (pd_var (pv 3)) (pd_int) (fun _ _ => rfl)) (pdl_nil))))) (pdl_nil)))))))) (pds_one (pds_ret (pd_bl))) (pds_nil)))))
    (pds_one (pds_if (pdt_not (pdt_truth (pd_call mW_law_wish_right (G_law_wish_right.mono (by decide)) hgd hr (by rfl) g_law_wish_right k_law_wish_right b_law_wish_right (pda_d (pdl_cons (pd_call mW_law_goal (G_law_goal.mono (by decide)) hgd hr (by rfl) g_law_goal k_law_goal b_law_goal (pda_st (pv 1) (pdl_cons (pd_int) (pdl_cons (pd_int) (pdl_nil))))) (pdl_cons (pd_var (pv 3)) (pdl_nil))))))) (pds_one (pds_ret (pd_bl))) (pds_nil)))))))
    (pds_one (pds_ret (pd_call0 mW_law_hand (G_law_hand.mono (by decide)) hgd hr (by rfl) g_law_hand k_law_hand b_law_hand))))
theorem law_again (s0 s2 : Sl) (q : Int) (T : List (List Int)) (G : List Int) (g : List (List (Int × List Int))) (h : WOK q T G) (hg : GOK q g) : ∀ (js : List Nat) (n : Nat) (x5 : Sl) (P : Post), n + js.length * 300 ≤ 900000000000 → (∀ (n' : Nat) (x5 : Sl), n' ≤ n + js.length * 300 → P.nx ⟨[s0, .st, s2, .d (wishD q T G), .d (guardD g), x5], n'⟩) →
    forD (fgN 5) b_law_1 (js.map fun i : Nat => PyData.int (i : Int)) ⟨[s0, .st, s2, .d (wishD q T G), .d (guardD g), x5], n⟩ P := by
  intro js
  induction js with
  | nil => intro n x5 P _ h; exact h n x5 (by simp)
  | cons j js ih =>
    intro n x5 P hn hk
    rw [List.length_cons, Nat.succ_mul] at hn
    rw [List.map_cons]
    unfold forD
    simp only [b_law_1]
    simp [and_assoc, Rho.set, dropOwn, ftLend, fLend, lendR, frz, ow, nList, -forall_exists_index, fBody, fsSeq, fsIf, fsRet, fsNext, fsDrop, fsAsg, fsNever, fsFor, fsOwn, fsPar2, fsPar3, fsPar_od, fsPar_do, fsPar_oo, fVar, fC, fUn, fOp, fChain, fTup, fLst, fCall, faD, faSt, flCons, flNil, fSl, foSome, foNone, fAnd, fOr, fNot, fIf, fOfN, fn1, fnLst, fnCat, fgN, fgTup, fgCons, fgNil, fiSeq, fiRange1, fiRange2, fiEnumA, fiZip, ftOr, ftAnd, ftNot, ftB, ftT, ftYes, truD_b, truD_i, truD_l, truD_t, truD_n, gIx_t0, gIx_t1, gIx_t2, gSl_t, gSl_l, gIsT, notDict, isT, isN, tyName, gLen_t, gLen_l, gTuple_l, gCmp, gAdd_ii, gAdd_ll, PD.gSub, gNeg, gMod, seqD, forD, wipeR, gEqA, gNeA, gEq_ii, gNe_ii, gEq_tt, gIn_ints, gIn_intsL, gNotIn_ints, gNotIn_intsL, fM0, fM1, fJoined, fJ, flStar, starD, fCall0]
    refine ⟨q, T, G, rfl, h, by simp; omega, fun q2 T2 G2 n2 h2 hn2 => ?_⟩
    simp only at hn2
    refine ⟨q, T, G, q2, T2, G2, rfl, ⟨h, h2⟩, ?_⟩
    simp [and_assoc, Rho.set, dropOwn, ftLend, fLend, lendR, frz, ow, nList, -forall_exists_index, fBody, fsSeq, fsIf, fsRet, fsNext, fsDrop, fsAsg, fsNever, fsFor, fsOwn, fsPar2, fsPar3, fsPar_od, fsPar_do, fsPar_oo, fVar, fC, fUn, fOp, fChain, fTup, fLst, fCall, faD, faSt, flCons, flNil, fSl, foSome, foNone, fAnd, fOr, fNot, fIf, fOfN, fn1, fnLst, fnCat, fgN, fgTup, fgCons, fgNil, fiSeq, fiRange1, fiRange2, fiEnumA, fiZip, ftOr, ftAnd, ftNot, ftB, ftT, ftYes, truD_b, truD_i, truD_l, truD_t, truD_n, gIx_t0, gIx_t1, gIx_t2, gSl_t, gSl_l, gIsT, notDict, isT, isN, tyName, gLen_t, gLen_l, gTuple_l, gCmp, gAdd_ii, gAdd_ll, PD.gSub, gNeg, gMod, seqD, forD, wipeR, gEqA, gNeA, gEq_ii, gNe_ii, gEq_tt, gIn_ints, gIn_intsL, gNotIn_ints, gNotIn_intsL, fM0, fM1, fJoined, fJ, flStar, starD, fCall0]
    refine ⟨q, g, rfl, hg, by simp; omega, fun g2 n3 h3 hn3 => ?_⟩
    simp only at hn3
    refine ⟨q, g, g2, rfl, ⟨hg, h3⟩, ?_⟩
    simp [and_assoc, Rho.set, dropOwn, ftLend, fLend, lendR, frz, ow, nList, -forall_exists_index, fBody, fsSeq, fsIf, fsRet, fsNext, fsDrop, fsAsg, fsNever, fsFor, fsOwn, fsPar2, fsPar3, fsPar_od, fsPar_do, fsPar_oo, fVar, fC, fUn, fOp, fChain, fTup, fLst, fCall, faD, faSt, flCons, flNil, fSl, foSome, foNone, fAnd, fOr, fNot, fIf, fOfN, fn1, fnLst, fnCat, fgN, fgTup, fgCons, fgNil, fiSeq, fiRange1, fiRange2, fiEnumA, fiZip, ftOr, ftAnd, ftNot, ftB, ftT, ftYes, truD_b, truD_i, truD_l, truD_t, truD_n, gIx_t0, gIx_t1, gIx_t2, gSl_t, gSl_l, gIsT, notDict, isT, isN, tyName, gLen_t, gLen_l, gTuple_l, gCmp, gAdd_ii, gAdd_ll, PD.gSub, gNeg, gMod, seqD, forD, wipeR, gEqA, gNeA, gEq_ii, gNe_ii, gEq_tt, gIn_ints, gIn_intsL, gNotIn_ints, gNotIn_intsL, fM0, fM1, fJoined, fJ, flStar, starD, fCall0]
    refine ih n3 _ P (by omega) fun n' x5 hn' => hk n' x5 ?_
    rw [List.length_cons, Nat.succ_mul]
    omega
theorem law_laps (s0 : Sl) : ∀ (js : List Nat) (n : Nat) (x2 x3 x4 x5 : Sl) (P : Post), n + js.length * 5000 ≤ 800000000000 → (∀ (n' : Nat) (x2 x3 x4 x5 : Sl), P.nx ⟨[s0, .st, x2, x3, x4, x5], n'⟩) →
    forD (fgN 2) b_law_2 (js.map fun i : Nat => PyData.int (i : Int)) ⟨[s0, .st, x2, x3, x4, x5], n⟩ P := by
  intro js
  induction js with
  | nil => intro n x2 x3 x4 x5 P _ h; exact h n x2 x3 x4 x5
  | cons j js ih =>
    intro n x2 x3 x4 x5 P hn hk
    rw [List.length_cons, Nat.succ_mul] at hn
    rw [List.map_cons]
    unfold forD
    simp only [b_law_2]
    simp [and_assoc, Rho.set, dropOwn, ftLend, fLend, lendR, frz, ow, nList, -forall_exists_index, fBody, fsSeq, fsIf, fsRet, fsNext, fsDrop, fsAsg, fsNever, fsFor, fsOwn, fsPar2, fsPar3, fsPar_od, fsPar_do, fsPar_oo, fVar, fC, fUn, fOp, fChain, fTup, fLst, fCall, faD, faSt, flCons, flNil, fSl, foSome, foNone, fAnd, fOr, fNot, fIf, fOfN, fn1, fnLst, fnCat, fgN, fgTup, fgCons, fgNil, fiSeq, fiRange1, fiRange2, fiEnumA, fiZip, ftOr, ftAnd, ftNot, ftB, ftT, ftYes, truD_b, truD_i, truD_l, truD_t, truD_n, gIx_t0, gIx_t1, gIx_t2, gSl_t, gSl_l, gIsT, notDict, isT, isN, tyName, gLen_t, gLen_l, gTuple_l, gCmp, gAdd_ii, gAdd_ll, PD.gSub, gNeg, gMod, seqD, forD, wipeR, gEqA, gNeA, gEq_ii, gNe_ii, gEq_tt, gIn_ints, gIn_intsL, gNotIn_ints, gNotIn_intsL, fM0, fM1, fJoined, fJ, flStar, starD, fCall0]
    refine ⟨rfl, trivial, by show n + 100 ≤ _; omega, fun q T G n2 h hn2 => ?_⟩
    have hn2 : n2 ≤ n + 100 := hn2
    simp [and_assoc, Rho.set, dropOwn, ftLend, fLend, lendR, frz, ow, nList, -forall_exists_index, fBody, fsSeq, fsIf, fsRet, fsNext, fsDrop, fsAsg, fsNever, fsFor, fsOwn, fsPar2, fsPar3, fsPar_od, fsPar_do, fsPar_oo, fVar, fC, fUn, fOp, fChain, fTup, fLst, fCall, faD, faSt, flCons, flNil, fSl, foSome, foNone, fAnd, fOr, fNot, fIf, fOfN, fn1, fnLst, fnCat, fgN, fgTup, fgCons, fgNil, fiSeq, fiRange1, fiRange2, fiEnumA, fiZip, ftOr, ftAnd, ftNot, ftB, ftT, ftYes, truD_b, truD_i, truD_l, truD_t, truD_n, gIx_t0, gIx_t1, gIx_t2, gSl_t, gSl_l, gIsT, notDict, isT, isN, tyName, gLen_t, gLen_l, gTuple_l, gCmp, gAdd_ii, gAdd_ll, PD.gSub, gNeg, gMod, seqD, forD, wipeR, gEqA, gNeA, gEq_ii, gNe_ii, gEq_tt, gIn_ints, gIn_intsL, gNotIn_ints, gNotIn_intsL, fM0, fM1, fJoined, fJ, flStar, starD, fCall0]
    refine ⟨q, rfl, ⟨h.q1, h.q4⟩, by show n2 + 1000 ≤ _; omega, fun g n3 hg hn3 => ?_⟩
    have hn3 : n3 ≤ n2 + 1000 := hn3
    simp [and_assoc, Rho.set, dropOwn, ftLend, fLend, lendR, frz, ow, nList, -forall_exists_index, fBody, fsSeq, fsIf, fsRet, fsNext, fsDrop, fsAsg, fsNever, fsFor, fsOwn, fsPar2, fsPar3, fsPar_od, fsPar_do, fsPar_oo, fVar, fC, fUn, fOp, fChain, fTup, fLst, fCall, faD, faSt, flCons, flNil, fSl, foSome, foNone, fAnd, fOr, fNot, fIf, fOfN, fn1, fnLst, fnCat, fgN, fgTup, fgCons, fgNil, fiSeq, fiRange1, fiRange2, fiEnumA, fiZip, ftOr, ftAnd, ftNot, ftB, ftT, ftYes, truD_b, truD_i, truD_l, truD_t, truD_n, gIx_t0, gIx_t1, gIx_t2, gSl_t, gSl_l, gIsT, notDict, isT, isN, tyName, gLen_t, gLen_l, gTuple_l, gCmp, gAdd_ii, gAdd_ll, PD.gSub, gNeg, gMod, seqD, forD, wipeR, gEqA, gNeA, gEq_ii, gNe_ii, gEq_tt, gIn_ints, gIn_intsL, gNotIn_ints, gNotIn_intsL, fM0, fM1, fJoined, fJ, flStar, starD, fCall0]
    rw [show (3 : Int) = ((3 : Nat) : Int) by rfl, rangeD_nat]
    refine law_again _ _ q T G g h hg (List.range 3) n3 x5 _ (by rw [List.length_range]; omega) fun n4 x5 hn4 => ?_
    rw [List.length_range] at hn4
    simp [and_assoc, Rho.set, dropOwn, ftLend, fLend, lendR, frz, ow, nList, -forall_exists_index, fBody, fsSeq, fsIf, fsRet, fsNext, fsDrop, fsAsg, fsNever, fsFor, fsOwn, fsPar2, fsPar3, fsPar_od, fsPar_do, fsPar_oo, fVar, fC, fUn, fOp, fChain, fTup, fLst, fCall, faD, faSt, flCons, flNil, fSl, foSome, foNone, fAnd, fOr, fNot, fIf, fOfN, fn1, fnLst, fnCat, fgN, fgTup, fgCons, fgNil, fiSeq, fiRange1, fiRange2, fiEnumA, fiZip, ftOr, ftAnd, ftNot, ftB, ftT, ftYes, truD_b, truD_i, truD_l, truD_t, truD_n, gIx_t0, gIx_t1, gIx_t2, gSl_t, gSl_l, gIsT, notDict, isT, isN, tyName, gLen_t, gLen_l, gTuple_l, gCmp, gAdd_ii, gAdd_ll, PD.gSub, gNeg, gMod, seqD, forD, wipeR, gEqA, gNeA, gEq_ii, gNe_ii, gEq_tt, gIn_ints, gIn_intsL, gNotIn_ints, gNotIn_intsL, fM0, fM1, fJoined, fJ, flStar, starD, fCall0]
    refine ⟨rfl, trivial, by show n4 + 100 ≤ _; omega, fun q2 T2 G2 n5 h2 hn5 => ?_⟩
    have hn5 : n5 ≤ n4 + 100 := hn5
    refine ⟨q2, T2, G2, q, T, G, rfl, ⟨h2, h⟩, .inr ⟨rfl, ?_⟩⟩
    exact ih n5 _ _ _ _ P (by omega) hk
def W_law : FE := fun ρ k => ∃ ns : List Int, ρ.sl = [.d (.list (ns.map .int))] ∧ ns.length ≤ 63 ∧ ∀ n', k (.bool true) ⟨ρ.sl, n'⟩
theorem ok_law : ∀ ρ k, W_law ρ k → fBody 6 w_law ρ k := by
  rintro ⟨sl, n⟩ k ⟨ns, e, hl, z⟩
  simp only at e z
  subst e
  simp [w_law]
  simp [and_assoc, Rho.set, dropOwn, ftLend, fLend, lendR, frz, ow, nList, -forall_exists_index, fBody, fsSeq, fsIf, fsRet, fsNext, fsDrop, fsAsg, fsNever, fsFor, fsOwn, fsPar2, fsPar_od, fsPar_do, fsPar_oo, fVar, fC, fUn, fOp, fChain, fTup, fLst, fCall, faD, faSt, flCons, flNil, fSl, foSome, foNone, fAnd, fOr, fNot, fIf, fOfN, fn1, fnLst, fnCat, fgN, fgTup, fgCons, fgNil, fiSeq, fiRange1, fiRange2, fiEnumA, fiZip, ftOr, ftAnd, ftNot, ftB, ftT, ftYes, truD_b, truD_i, truD_l, truD_t, truD_n, gIx_t0, gIx_t1, gIx_t2, gSl_t, gSl_l, gIsT, notDict, isT, isN, tyName, gLen_t, gLen_l, gTuple_l, gCmp, gAdd_ii, gAdd_ss, gAdd_tt, gAdd_ll, PD.gSub, gNeg, gMod, seqD, forD, wipeR, gEqA, gNeA, gEq_ii, gNe_ii, gEq_tt, gIn_ints, gIn_intsL, gNotIn_ints, gNotIn_intsL]
  unfold fsBegin
  simp [and_assoc, Rho.set, dropOwn, ftLend, fLend, lendR, frz, ow, nList, -forall_exists_index, fBody, fsSeq, fsIf, fsRet, fsNext, fsDrop, fsAsg, fsNever, fsFor, fsOwn, fsPar2, fsPar3, fsPar_od, fsPar_do, fsPar_oo, fVar, fC, fUn, fOp, fChain, fTup, fLst, fCall, faD, faSt, flCons, flNil, fSl, foSome, foNone, fAnd, fOr, fNot, fIf, fOfN, fn1, fnLst, fnCat, fgN, fgTup, fgCons, fgNil, fiSeq, fiRange1, fiRange2, fiEnumA, fiZip, ftOr, ftAnd, ftNot, ftB, ftT, ftYes, truD_b, truD_i, truD_l, truD_t, truD_n, gIx_t0, gIx_t1, gIx_t2, gSl_t, gSl_l, gIsT, notDict, isT, isN, tyName, gLen_t, gLen_l, gTuple_l, gCmp, gAdd_ii, gAdd_ll, PD.gSub, gNeg, gMod, seqD, forD, wipeR, gEqA, gNeA, gEq_ii, gNe_ii, gEq_tt, gIn_ints, gIn_intsL, gNotIn_ints, gNotIn_intsL, fM0, fM1, fJoined, fJ, flStar, starD, fCall0]
  refine ⟨?_, ⟨ns, rfl, hl⟩, ?_⟩
  · intro j
    match j with
    | 0 => simp
    | 1 => simp
    | 2 => simp
    | 3 => simp
    | 4 => simp
    | 5 => simp
    | j + 6 => simp
  · obtain ⟨m, hm, hm5⟩ : ∃ m : Nat, gMin2 (PyData.int (ns.length : Int)) (PyData.int 8) = some (.int (m : Int)) ∧ m ≤ 8 := by
      by_cases h : ns.length ≤ 8
      · refine ⟨ns.length, ?_, h⟩
        simp [gMin2]
        omega
      · refine ⟨8, ?_, Nat.le_refl _⟩
        simp [gMin2]
        omega
    refine ⟨_, hm, _, rfl, _, rfl, by omega, by omega, ?_⟩
    rw [show (3 : Int) + (m : Int) = ((3 + m : Nat) : Int) by omega, rangeD_nat]
    refine law_laps _ (List.range (3 + m)) 0 .no .no .no .no _ (by rw [List.length_range]; omega) fun n' x2 x3 x4 x5 => ?_
    exact ⟨rfl, trivial, z _⟩
theorem all_mk {l : PySem.W.OpenLaw} {w : World} {K : PySem.W.Frag} {h : Heap} {mg : Str → Option Value} {fa : Addr} {f_is_count : Addr} {oc_is_count kV_is_count dc_is_count pm_is_count cd_is_count ct_is_count : Value} {od_is_count an_is_count : Option Addr} {sl_is_count : Array (Option Value)} {f_is_integer : Addr} {oc_is_integer kV_is_integer dc_is_integer pm_is_integer cd_is_integer ct_is_integer : Value} {od_is_integer an_is_integer : Option Addr} {sl_is_integer : Array (Option Value)} {f_is_pair : Addr} {oc_is_pair kV_is_pair dc_is_pair pm_is_pair cd_is_pair ct_is_pair : Value} {od_is_pair an_is_pair : Option Addr} {sl_is_pair : Array (Option Value)} {f_is_triple : Addr} {oc_is_triple kV_is_triple dc_is_triple pm_is_triple cd_is_triple ct_is_triple : Value} {od_is_triple an_is_triple : Option Addr} {sl_is_triple : Array (Option Value)} {f_are_numbers : Addr} {oc_are_numbers kV_are_numbers dc_are_numbers pm_are_numbers cd_are_numbers ct_are_numbers : Value} {od_are_numbers an_are_numbers : Option Addr} {sl_are_numbers : Array (Option Value)} {f_are_ascending : Addr} {oc_are_ascending kV_are_ascending dc_are_ascending pm_are_ascending cd_are_ascending ct_are_ascending : Value} {od_are_ascending an_are_ascending : Option Addr} {sl_are_ascending : Array (Option Value)} {f_are_rising : Addr} {oc_are_rising kV_are_rising dc_are_rising pm_are_rising cd_are_rising ct_are_rising : Value} {od_are_rising an_are_rising : Option Addr} {sl_are_rising : Array (Option Value)} {f_need_wish : Addr} {oc_need_wish kV_need_wish dc_need_wish pm_need_wish cd_need_wish ct_need_wish : Value} {od_need_wish an_need_wish : Option Addr} {sl_need_wish : Array (Option Value)} {f_are_steps : Addr} {oc_are_steps kV_are_steps dc_are_steps pm_are_steps cd_are_steps ct_are_steps : Value} {od_are_steps an_are_steps : Option Addr} {sl_are_steps : Array (Option Value)} {f_need_guard : Addr} {oc_need_guard kV_need_guard dc_need_guard pm_need_guard cd_need_guard ct_need_guard : Value} {od_need_guard an_need_guard : Option Addr} {sl_need_guard : Array (Option Value)} {f_need_deeds : Addr} {oc_need_deeds kV_need_deeds dc_need_deeds pm_need_deeds cd_need_deeds ct_need_deeds : Value} {od_need_deeds an_need_deeds : Option Addr} {sl_need_deeds : Array (Option Value)} {f_is_shown : Addr} {oc_is_shown kV_is_shown dc_is_shown pm_is_shown cd_is_shown ct_is_shown : Value} {od_is_shown an_is_shown : Option Addr} {sl_is_shown : Array (Option Value)} {f_are_memories : Addr} {oc_are_memories kV_are_memories dc_are_memories pm_are_memories cd_are_memories ct_are_memories : Value} {od_are_memories an_are_memories : Option Addr} {sl_are_memories : Array (Option Value)} {f_wish_text : Addr} {oc_wish_text kV_wish_text dc_wish_text pm_wish_text cd_wish_text ct_wish_text : Value} {od_wish_text an_wish_text : Option Addr} {sl_wish_text : Array (Option Value)} {f_guard_text : Addr} {oc_guard_text kV_guard_text dc_guard_text pm_guard_text cd_guard_text ct_guard_text : Value} {od_guard_text an_guard_text : Option Addr} {sl_guard_text : Array (Option Value)} {f_read_wish : Addr} {oc_read_wish kV_read_wish dc_read_wish pm_read_wish cd_read_wish ct_read_wish : Value} {od_read_wish an_read_wish : Option Addr} {sl_read_wish : Array (Option Value)} {f_read_guard : Addr} {oc_read_guard kV_read_guard dc_read_guard pm_read_guard cd_read_guard ct_read_guard : Value} {od_read_guard an_read_guard : Option Addr} {sl_read_guard : Array (Option Value)} {f_words_text : Addr} {oc_words_text kV_words_text dc_words_text pm_words_text cd_words_text ct_words_text : Value} {od_words_text an_words_text : Option Addr} {sl_words_text : Array (Option Value)} {f_shown_text : Addr} {oc_shown_text kV_shown_text dc_shown_text pm_shown_text cd_shown_text ct_shown_text : Value} {od_shown_text an_shown_text : Option Addr} {sl_shown_text : Array (Option Value)} {f_number_in : Addr} {oc_number_in kV_number_in dc_number_in pm_number_in cd_number_in ct_number_in : Value} {od_number_in an_number_in : Option Addr} {sl_number_in : Array (Option Value)} {f_numbers_in : Addr} {oc_numbers_in kV_numbers_in dc_numbers_in pm_numbers_in cd_numbers_in ct_numbers_in : Value} {od_numbers_in an_numbers_in : Option Addr} {sl_numbers_in : Array (Option Value)} {f_need_rows : Addr} {oc_need_rows kV_need_rows dc_need_rows pm_need_rows cd_need_rows ct_need_rows : Value} {od_need_rows an_need_rows : Option Addr} {sl_need_rows : Array (Option Value)} {f_pair_in : Addr} {oc_pair_in kV_pair_in dc_pair_in pm_pair_in cd_pair_in ct_pair_in : Value} {od_pair_in an_pair_in : Option Addr} {sl_pair_in : Array (Option Value)} {f_law_begun : Addr} {oc_law_begun kV_law_begun dc_law_begun pm_law_begun cd_law_begun ct_law_begun : Value} {od_law_begun an_law_begun : Option Addr} {sl_law_begun : Array (Option Value)} {f_law_next : Addr} {oc_law_next kV_law_next dc_law_next pm_law_next cd_law_next ct_law_next : Value} {od_law_next an_law_next : Option Addr} {sl_law_next : Array (Option Value)} {f_law_of : Addr} {oc_law_of kV_law_of dc_law_of pm_law_of cd_law_of ct_law_of : Value} {od_law_of an_law_of : Option Addr} {sl_law_of : Array (Option Value)} {f_law_goal : Addr} {oc_law_goal kV_law_goal dc_law_goal pm_law_goal cd_law_goal ct_law_goal : Value} {od_law_goal an_law_goal : Option Addr} {sl_law_goal : Array (Option Value)} {f_law_marks : Addr} {oc_law_marks kV_law_marks dc_law_marks pm_law_marks cd_law_marks ct_law_marks : Value} {od_law_marks an_law_marks : Option Addr} {sl_law_marks : Array (Option Value)} {f_law_watchman : Addr} {oc_law_watchman kV_law_watchman dc_law_watchman pm_law_watchman cd_law_watchman ct_law_watchman : Value} {od_law_watchman an_law_watchman : Option Addr} {sl_law_watchman : Array (Option Value)} {f_law_said : Addr} {oc_law_said kV_law_said dc_law_said pm_law_said cd_law_said ct_law_said : Value} {od_law_said an_law_said : Option Addr} {sl_law_said : Array (Option Value)} {f_law_wish_page : Addr} {oc_law_wish_page kV_law_wish_page dc_law_wish_page pm_law_wish_page cd_law_wish_page ct_law_wish_page : Value} {od_law_wish_page an_law_wish_page : Option Addr} {sl_law_wish_page : Array (Option Value)} {f_law_pair_word : Addr} {oc_law_pair_word kV_law_pair_word dc_law_pair_word pm_law_pair_word cd_law_pair_word ct_law_pair_word : Value} {od_law_pair_word an_law_pair_word : Option Addr} {sl_law_pair_word : Array (Option Value)} {f_law_guard_page : Addr} {oc_law_guard_page kV_law_guard_page dc_law_guard_page pm_law_guard_page cd_law_guard_page ct_law_guard_page : Value} {od_law_guard_page an_law_guard_page : Option Addr} {sl_law_guard_page : Array (Option Value)} {f_law_near_goal : Addr} {oc_law_near_goal kV_law_near_goal dc_law_near_goal pm_law_near_goal cd_law_near_goal ct_law_near_goal : Value} {od_law_near_goal an_law_near_goal : Option Addr} {sl_law_near_goal : Array (Option Value)} {f_law_near_watchman : Addr} {oc_law_near_watchman kV_law_near_watchman dc_law_near_watchman pm_law_near_watchman cd_law_near_watchman ct_law_near_watchman : Value} {od_law_near_watchman an_law_near_watchman : Option Addr} {sl_law_near_watchman : Array (Option Value)} {f_law_wish_right : Addr} {oc_law_wish_right kV_law_wish_right dc_law_wish_right pm_law_wish_right cd_law_wish_right ct_law_wish_right : Value} {od_law_wish_right an_law_wish_right : Option Addr} {sl_law_wish_right : Array (Option Value)} {f_law_guard_right : Addr} {oc_law_guard_right kV_law_guard_right dc_law_guard_right pm_law_guard_right cd_law_guard_right ct_law_guard_right : Value} {od_law_guard_right an_law_guard_right : Option Addr} {sl_law_guard_right : Array (Option Value)} {f_law_hand : Addr} {oc_law_hand kV_law_hand dc_law_hand pm_law_hand cd_law_hand ct_law_hand : Value} {od_law_hand an_law_hand : Option Addr} {sl_law_hand : Array (Option Value)} {f_law : Addr} {oc_law kV_law dc_law pm_law cd_law ct_law : Value} {od_law an_law : Option Addr} {sl_law : Array (Option Value)} {t_MOST_DEEDS : PySem.Tok} {t_MOST_FIGURES : PySem.Tok} {t_MOST_MEMORIES : PySem.Tok} {t_MOST_SHOWN : PySem.Tok} {t_MOST_STATES : PySem.Tok} (X : K.In h) (G : h.Ns mainGlobals mg) (hfa : mg "law" = some (.ref fa))
    (a_is_count : PySem.W.nsIn K mainGlobals "is_count" = some (some (.ref f_is_count))) (l_is_count : K.lookup f_is_count = some ⟨oc_is_count, od_is_count, .func (PySem.W.fnOf "is_count" "is_count" (defArgs s_is_count) (defBody s_is_count) (defScope s_is_count) .none kV_is_count dc_is_count pm_is_count an_is_count cd_is_count ct_is_count), sl_is_count⟩) (c_is_count : PySem.W.codeIn K cd_is_count "is_count" = true) (k_is_count : PySem.W.keepIn K (.ref f_is_count) = true)
    (a_is_integer : PySem.W.nsIn K mainGlobals "is_integer" = some (some (.ref f_is_integer))) (l_is_integer : K.lookup f_is_integer = some ⟨oc_is_integer, od_is_integer, .func (PySem.W.fnOf "is_integer" "is_integer" (defArgs s_is_integer) (defBody s_is_integer) (defScope s_is_integer) .none kV_is_integer dc_is_integer pm_is_integer an_is_integer cd_is_integer ct_is_integer), sl_is_integer⟩) (c_is_integer : PySem.W.codeIn K cd_is_integer "is_integer" = true) (k_is_integer : PySem.W.keepIn K (.ref f_is_integer) = true)
    (a_is_pair : PySem.W.nsIn K mainGlobals "is_pair" = some (some (.ref f_is_pair))) (l_is_pair : K.lookup f_is_pair = some ⟨oc_is_pair, od_is_pair, .func (PySem.W.fnOf "is_pair" "is_pair" (defArgs s_is_pair) (defBody s_is_pair) (defScope s_is_pair) .none kV_is_pair dc_is_pair pm_is_pair an_is_pair cd_is_pair ct_is_pair), sl_is_pair⟩) (c_is_pair : PySem.W.codeIn K cd_is_pair "is_pair" = true) (k_is_pair : PySem.W.keepIn K (.ref f_is_pair) = true)
    (a_is_triple : PySem.W.nsIn K mainGlobals "is_triple" = some (some (.ref f_is_triple))) (l_is_triple : K.lookup f_is_triple = some ⟨oc_is_triple, od_is_triple, .func (PySem.W.fnOf "is_triple" "is_triple" (defArgs s_is_triple) (defBody s_is_triple) (defScope s_is_triple) .none kV_is_triple dc_is_triple pm_is_triple an_is_triple cd_is_triple ct_is_triple), sl_is_triple⟩) (c_is_triple : PySem.W.codeIn K cd_is_triple "is_triple" = true) (k_is_triple : PySem.W.keepIn K (.ref f_is_triple) = true)
    (a_are_numbers : PySem.W.nsIn K mainGlobals "are_numbers" = some (some (.ref f_are_numbers))) (l_are_numbers : K.lookup f_are_numbers = some ⟨oc_are_numbers, od_are_numbers, .func (PySem.W.fnOf "are_numbers" "are_numbers" (defArgs s_are_numbers) (defBody s_are_numbers) (defScope s_are_numbers) .none kV_are_numbers dc_are_numbers pm_are_numbers an_are_numbers cd_are_numbers ct_are_numbers), sl_are_numbers⟩) (c_are_numbers : PySem.W.codeIn K cd_are_numbers "are_numbers" = true) (k_are_numbers : PySem.W.keepIn K (.ref f_are_numbers) = true)
    (a_are_ascending : PySem.W.nsIn K mainGlobals "are_ascending" = some (some (.ref f_are_ascending))) (l_are_ascending : K.lookup f_are_ascending = some ⟨oc_are_ascending, od_are_ascending, .func (PySem.W.fnOf "are_ascending" "are_ascending" (defArgs s_are_ascending) (defBody s_are_ascending) (defScope s_are_ascending) .none kV_are_ascending dc_are_ascending pm_are_ascending an_are_ascending cd_are_ascending ct_are_ascending), sl_are_ascending⟩) (c_are_ascending : PySem.W.codeIn K cd_are_ascending "are_ascending" = true) (k_are_ascending : PySem.W.keepIn K (.ref f_are_ascending) = true)
    (a_are_rising : PySem.W.nsIn K mainGlobals "are_rising" = some (some (.ref f_are_rising))) (l_are_rising : K.lookup f_are_rising = some ⟨oc_are_rising, od_are_rising, .func (PySem.W.fnOf "are_rising" "are_rising" (defArgs s_are_rising) (defBody s_are_rising) (defScope s_are_rising) .none kV_are_rising dc_are_rising pm_are_rising an_are_rising cd_are_rising ct_are_rising), sl_are_rising⟩) (c_are_rising : PySem.W.codeIn K cd_are_rising "are_rising" = true) (k_are_rising : PySem.W.keepIn K (.ref f_are_rising) = true)
    (a_need_wish : PySem.W.nsIn K mainGlobals "need_wish" = some (some (.ref f_need_wish))) (l_need_wish : K.lookup f_need_wish = some ⟨oc_need_wish, od_need_wish, .func (PySem.W.fnOf "need_wish" "need_wish" (defArgs s_need_wish) (defBody s_need_wish) (defScope s_need_wish) .none kV_need_wish dc_need_wish pm_need_wish an_need_wish cd_need_wish ct_need_wish), sl_need_wish⟩) (c_need_wish : PySem.W.codeIn K cd_need_wish "need_wish" = true) (k_need_wish : PySem.W.keepIn K (.ref f_need_wish) = true)
    (a_are_steps : PySem.W.nsIn K mainGlobals "_are_steps" = some (some (.ref f_are_steps))) (l_are_steps : K.lookup f_are_steps = some ⟨oc_are_steps, od_are_steps, .func (PySem.W.fnOf "_are_steps" "_are_steps" (defArgs s_are_steps) (defBody s_are_steps) (defScope s_are_steps) .none kV_are_steps dc_are_steps pm_are_steps an_are_steps cd_are_steps ct_are_steps), sl_are_steps⟩) (c_are_steps : PySem.W.codeIn K cd_are_steps "_are_steps" = true) (k_are_steps : PySem.W.keepIn K (.ref f_are_steps) = true)
    (a_need_guard : PySem.W.nsIn K mainGlobals "need_guard" = some (some (.ref f_need_guard))) (l_need_guard : K.lookup f_need_guard = some ⟨oc_need_guard, od_need_guard, .func (PySem.W.fnOf "need_guard" "need_guard" (defArgs s_need_guard) (defBody s_need_guard) (defScope s_need_guard) .none kV_need_guard dc_need_guard pm_need_guard an_need_guard cd_need_guard ct_need_guard), sl_need_guard⟩) (c_need_guard : PySem.W.codeIn K cd_need_guard "need_guard" = true) (k_need_guard : PySem.W.keepIn K (.ref f_need_guard) = true)
    (a_need_deeds : PySem.W.nsIn K mainGlobals "need_deeds" = some (some (.ref f_need_deeds))) (l_need_deeds : K.lookup f_need_deeds = some ⟨oc_need_deeds, od_need_deeds, .func (PySem.W.fnOf "need_deeds" "need_deeds" (defArgs s_need_deeds) (defBody s_need_deeds) (defScope s_need_deeds) .none kV_need_deeds dc_need_deeds pm_need_deeds an_need_deeds cd_need_deeds ct_need_deeds), sl_need_deeds⟩) (c_need_deeds : PySem.W.codeIn K cd_need_deeds "need_deeds" = true) (k_need_deeds : PySem.W.keepIn K (.ref f_need_deeds) = true)
    (a_is_shown : PySem.W.nsIn K mainGlobals "is_shown" = some (some (.ref f_is_shown))) (l_is_shown : K.lookup f_is_shown = some ⟨oc_is_shown, od_is_shown, .func (PySem.W.fnOf "is_shown" "is_shown" (defArgs s_is_shown) (defBody s_is_shown) (defScope s_is_shown) .none kV_is_shown dc_is_shown pm_is_shown an_is_shown cd_is_shown ct_is_shown), sl_is_shown⟩) (c_is_shown : PySem.W.codeIn K cd_is_shown "is_shown" = true) (k_is_shown : PySem.W.keepIn K (.ref f_is_shown) = true)
    (a_are_memories : PySem.W.nsIn K mainGlobals "_are_memories" = some (some (.ref f_are_memories))) (l_are_memories : K.lookup f_are_memories = some ⟨oc_are_memories, od_are_memories, .func (PySem.W.fnOf "_are_memories" "_are_memories" (defArgs s_are_memories) (defBody s_are_memories) (defScope s_are_memories) .none kV_are_memories dc_are_memories pm_are_memories an_are_memories cd_are_memories ct_are_memories), sl_are_memories⟩) (c_are_memories : PySem.W.codeIn K cd_are_memories "_are_memories" = true) (k_are_memories : PySem.W.keepIn K (.ref f_are_memories) = true)
    (a_wish_text : PySem.W.nsIn K mainGlobals "wish_text" = some (some (.ref f_wish_text))) (l_wish_text : K.lookup f_wish_text = some ⟨oc_wish_text, od_wish_text, .func (PySem.W.fnOf "wish_text" "wish_text" (defArgs s_wish_text) (defBody s_wish_text) (defScope s_wish_text) .none kV_wish_text dc_wish_text pm_wish_text an_wish_text cd_wish_text ct_wish_text), sl_wish_text⟩) (c_wish_text : PySem.W.codeIn K cd_wish_text "wish_text" = true) (k_wish_text : PySem.W.keepIn K (.ref f_wish_text) = true)
    (a_guard_text : PySem.W.nsIn K mainGlobals "guard_text" = some (some (.ref f_guard_text))) (l_guard_text : K.lookup f_guard_text = some ⟨oc_guard_text, od_guard_text, .func (PySem.W.fnOf "guard_text" "guard_text" (defArgs s_guard_text) (defBody s_guard_text) (defScope s_guard_text) .none kV_guard_text dc_guard_text pm_guard_text an_guard_text cd_guard_text ct_guard_text), sl_guard_text⟩) (c_guard_text : PySem.W.codeIn K cd_guard_text "guard_text" = true) (k_guard_text : PySem.W.keepIn K (.ref f_guard_text) = true)
    (a_read_wish : PySem.W.nsIn K mainGlobals "read_wish" = some (some (.ref f_read_wish))) (l_read_wish : K.lookup f_read_wish = some ⟨oc_read_wish, od_read_wish, .func (PySem.W.fnOf "read_wish" "read_wish" (defArgs s_read_wish) (defBody s_read_wish) (defScope s_read_wish) .none kV_read_wish dc_read_wish pm_read_wish an_read_wish cd_read_wish ct_read_wish), sl_read_wish⟩) (c_read_wish : PySem.W.codeIn K cd_read_wish "read_wish" = true) (k_read_wish : PySem.W.keepIn K (.ref f_read_wish) = true)
    (a_read_guard : PySem.W.nsIn K mainGlobals "read_guard" = some (some (.ref f_read_guard))) (l_read_guard : K.lookup f_read_guard = some ⟨oc_read_guard, od_read_guard, .func (PySem.W.fnOf "read_guard" "read_guard" (defArgs s_read_guard) (defBody s_read_guard) (defScope s_read_guard) .none kV_read_guard dc_read_guard pm_read_guard an_read_guard cd_read_guard ct_read_guard), sl_read_guard⟩) (c_read_guard : PySem.W.codeIn K cd_read_guard "read_guard" = true) (k_read_guard : PySem.W.keepIn K (.ref f_read_guard) = true)
    (a_words_text : PySem.W.nsIn K mainGlobals "words_text" = some (some (.ref f_words_text))) (l_words_text : K.lookup f_words_text = some ⟨oc_words_text, od_words_text, .func (PySem.W.fnOf "words_text" "words_text" (defArgs s_words_text) (defBody s_words_text) (defScope s_words_text) .none kV_words_text dc_words_text pm_words_text an_words_text cd_words_text ct_words_text), sl_words_text⟩) (c_words_text : PySem.W.codeIn K cd_words_text "words_text" = true) (k_words_text : PySem.W.keepIn K (.ref f_words_text) = true)
    (a_shown_text : PySem.W.nsIn K mainGlobals "shown_text" = some (some (.ref f_shown_text))) (l_shown_text : K.lookup f_shown_text = some ⟨oc_shown_text, od_shown_text, .func (PySem.W.fnOf "shown_text" "shown_text" (defArgs s_shown_text) (defBody s_shown_text) (defScope s_shown_text) .none kV_shown_text dc_shown_text pm_shown_text an_shown_text cd_shown_text ct_shown_text), sl_shown_text⟩) (c_shown_text : PySem.W.codeIn K cd_shown_text "shown_text" = true) (k_shown_text : PySem.W.keepIn K (.ref f_shown_text) = true)
    (a_number_in : PySem.W.nsIn K mainGlobals "number_in" = some (some (.ref f_number_in))) (l_number_in : K.lookup f_number_in = some ⟨oc_number_in, od_number_in, .func (PySem.W.fnOf "number_in" "number_in" (defArgs s_number_in) (defBody s_number_in) (defScope s_number_in) .none kV_number_in dc_number_in pm_number_in an_number_in cd_number_in ct_number_in), sl_number_in⟩) (c_number_in : PySem.W.codeIn K cd_number_in "number_in" = true) (k_number_in : PySem.W.keepIn K (.ref f_number_in) = true)
    (a_numbers_in : PySem.W.nsIn K mainGlobals "numbers_in" = some (some (.ref f_numbers_in))) (l_numbers_in : K.lookup f_numbers_in = some ⟨oc_numbers_in, od_numbers_in, .func (PySem.W.fnOf "numbers_in" "numbers_in" (defArgs s_numbers_in) (defBody s_numbers_in) (defScope s_numbers_in) .none kV_numbers_in dc_numbers_in pm_numbers_in an_numbers_in cd_numbers_in ct_numbers_in), sl_numbers_in⟩) (c_numbers_in : PySem.W.codeIn K cd_numbers_in "numbers_in" = true) (k_numbers_in : PySem.W.keepIn K (.ref f_numbers_in) = true)
    (a_need_rows : PySem.W.nsIn K mainGlobals "_need_rows" = some (some (.ref f_need_rows))) (l_need_rows : K.lookup f_need_rows = some ⟨oc_need_rows, od_need_rows, .func (PySem.W.fnOf "_need_rows" "_need_rows" (defArgs s_need_rows) (defBody s_need_rows) (defScope s_need_rows) .none kV_need_rows dc_need_rows pm_need_rows an_need_rows cd_need_rows ct_need_rows), sl_need_rows⟩) (c_need_rows : PySem.W.codeIn K cd_need_rows "_need_rows" = true) (k_need_rows : PySem.W.keepIn K (.ref f_need_rows) = true)
    (a_pair_in : PySem.W.nsIn K mainGlobals "_pair_in" = some (some (.ref f_pair_in))) (l_pair_in : K.lookup f_pair_in = some ⟨oc_pair_in, od_pair_in, .func (PySem.W.fnOf "_pair_in" "_pair_in" (defArgs s_pair_in) (defBody s_pair_in) (defScope s_pair_in) .none kV_pair_in dc_pair_in pm_pair_in an_pair_in cd_pair_in ct_pair_in), sl_pair_in⟩) (c_pair_in : PySem.W.codeIn K cd_pair_in "_pair_in" = true) (k_pair_in : PySem.W.keepIn K (.ref f_pair_in) = true)
    (a_law_begun : PySem.W.nsIn K mainGlobals "_law_begun" = some (some (.ref f_law_begun))) (l_law_begun : K.lookup f_law_begun = some ⟨oc_law_begun, od_law_begun, .func (PySem.W.fnOf "_law_begun" "_law_begun" (defArgs s_law_begun) (defBody s_law_begun) (defScope s_law_begun) .none kV_law_begun dc_law_begun pm_law_begun an_law_begun cd_law_begun ct_law_begun), sl_law_begun⟩) (c_law_begun : PySem.W.codeIn K cd_law_begun "_law_begun" = true) (k_law_begun : PySem.W.keepIn K (.ref f_law_begun) = true)
    (a_law_next : PySem.W.nsIn K mainGlobals "_law_next" = some (some (.ref f_law_next))) (l_law_next : K.lookup f_law_next = some ⟨oc_law_next, od_law_next, .func (PySem.W.fnOf "_law_next" "_law_next" (defArgs s_law_next) (defBody s_law_next) (defScope s_law_next) .none kV_law_next dc_law_next pm_law_next an_law_next cd_law_next ct_law_next), sl_law_next⟩) (c_law_next : PySem.W.codeIn K cd_law_next "_law_next" = true) (k_law_next : PySem.W.keepIn K (.ref f_law_next) = true)
    (a_law_of : PySem.W.nsIn K mainGlobals "_law_of" = some (some (.ref f_law_of))) (l_law_of : K.lookup f_law_of = some ⟨oc_law_of, od_law_of, .func (PySem.W.fnOf "_law_of" "_law_of" (defArgs s_law_of) (defBody s_law_of) (defScope s_law_of) .none kV_law_of dc_law_of pm_law_of an_law_of cd_law_of ct_law_of), sl_law_of⟩) (c_law_of : PySem.W.codeIn K cd_law_of "_law_of" = true) (k_law_of : PySem.W.keepIn K (.ref f_law_of) = true)
    (a_law_goal : PySem.W.nsIn K mainGlobals "_law_goal" = some (some (.ref f_law_goal))) (l_law_goal : K.lookup f_law_goal = some ⟨oc_law_goal, od_law_goal, .func (PySem.W.fnOf "_law_goal" "_law_goal" (defArgs s_law_goal) (defBody s_law_goal) (defScope s_law_goal) .none kV_law_goal dc_law_goal pm_law_goal an_law_goal cd_law_goal ct_law_goal), sl_law_goal⟩) (c_law_goal : PySem.W.codeIn K cd_law_goal "_law_goal" = true) (k_law_goal : PySem.W.keepIn K (.ref f_law_goal) = true)
    (a_law_marks : PySem.W.nsIn K mainGlobals "_law_marks" = some (some (.ref f_law_marks))) (l_law_marks : K.lookup f_law_marks = some ⟨oc_law_marks, od_law_marks, .func (PySem.W.fnOf "_law_marks" "_law_marks" (defArgs s_law_marks) (defBody s_law_marks) (defScope s_law_marks) .none kV_law_marks dc_law_marks pm_law_marks an_law_marks cd_law_marks ct_law_marks), sl_law_marks⟩) (c_law_marks : PySem.W.codeIn K cd_law_marks "_law_marks" = true) (k_law_marks : PySem.W.keepIn K (.ref f_law_marks) = true)
    (a_law_watchman : PySem.W.nsIn K mainGlobals "_law_watchman" = some (some (.ref f_law_watchman))) (l_law_watchman : K.lookup f_law_watchman = some ⟨oc_law_watchman, od_law_watchman, .func (PySem.W.fnOf "_law_watchman" "_law_watchman" (defArgs s_law_watchman) (defBody s_law_watchman) (defScope s_law_watchman) .none kV_law_watchman dc_law_watchman pm_law_watchman an_law_watchman cd_law_watchman ct_law_watchman), sl_law_watchman⟩) (c_law_watchman : PySem.W.codeIn K cd_law_watchman "_law_watchman" = true) (k_law_watchman : PySem.W.keepIn K (.ref f_law_watchman) = true)
    (a_law_said : PySem.W.nsIn K mainGlobals "_law_said" = some (some (.ref f_law_said))) (l_law_said : K.lookup f_law_said = some ⟨oc_law_said, od_law_said, .func (PySem.W.fnOf "_law_said" "_law_said" (defArgs s_law_said) (defBody s_law_said) (defScope s_law_said) .none kV_law_said dc_law_said pm_law_said an_law_said cd_law_said ct_law_said), sl_law_said⟩) (c_law_said : PySem.W.codeIn K cd_law_said "_law_said" = true) (k_law_said : PySem.W.keepIn K (.ref f_law_said) = true)
    (a_law_wish_page : PySem.W.nsIn K mainGlobals "_law_wish_page" = some (some (.ref f_law_wish_page))) (l_law_wish_page : K.lookup f_law_wish_page = some ⟨oc_law_wish_page, od_law_wish_page, .func (PySem.W.fnOf "_law_wish_page" "_law_wish_page" (defArgs s_law_wish_page) (defBody s_law_wish_page) (defScope s_law_wish_page) .none kV_law_wish_page dc_law_wish_page pm_law_wish_page an_law_wish_page cd_law_wish_page ct_law_wish_page), sl_law_wish_page⟩) (c_law_wish_page : PySem.W.codeIn K cd_law_wish_page "_law_wish_page" = true) (k_law_wish_page : PySem.W.keepIn K (.ref f_law_wish_page) = true)
    (a_law_pair_word : PySem.W.nsIn K mainGlobals "_law_pair_word" = some (some (.ref f_law_pair_word))) (l_law_pair_word : K.lookup f_law_pair_word = some ⟨oc_law_pair_word, od_law_pair_word, .func (PySem.W.fnOf "_law_pair_word" "_law_pair_word" (defArgs s_law_pair_word) (defBody s_law_pair_word) (defScope s_law_pair_word) .none kV_law_pair_word dc_law_pair_word pm_law_pair_word an_law_pair_word cd_law_pair_word ct_law_pair_word), sl_law_pair_word⟩) (c_law_pair_word : PySem.W.codeIn K cd_law_pair_word "_law_pair_word" = true) (k_law_pair_word : PySem.W.keepIn K (.ref f_law_pair_word) = true)
    (a_law_guard_page : PySem.W.nsIn K mainGlobals "_law_guard_page" = some (some (.ref f_law_guard_page))) (l_law_guard_page : K.lookup f_law_guard_page = some ⟨oc_law_guard_page, od_law_guard_page, .func (PySem.W.fnOf "_law_guard_page" "_law_guard_page" (defArgs s_law_guard_page) (defBody s_law_guard_page) (defScope s_law_guard_page) .none kV_law_guard_page dc_law_guard_page pm_law_guard_page an_law_guard_page cd_law_guard_page ct_law_guard_page), sl_law_guard_page⟩) (c_law_guard_page : PySem.W.codeIn K cd_law_guard_page "_law_guard_page" = true) (k_law_guard_page : PySem.W.keepIn K (.ref f_law_guard_page) = true)
    (a_law_near_goal : PySem.W.nsIn K mainGlobals "_law_near_goal" = some (some (.ref f_law_near_goal))) (l_law_near_goal : K.lookup f_law_near_goal = some ⟨oc_law_near_goal, od_law_near_goal, .func (PySem.W.fnOf "_law_near_goal" "_law_near_goal" (defArgs s_law_near_goal) (defBody s_law_near_goal) (defScope s_law_near_goal) .none kV_law_near_goal dc_law_near_goal pm_law_near_goal an_law_near_goal cd_law_near_goal ct_law_near_goal), sl_law_near_goal⟩) (c_law_near_goal : PySem.W.codeIn K cd_law_near_goal "_law_near_goal" = true) (k_law_near_goal : PySem.W.keepIn K (.ref f_law_near_goal) = true)
    (a_law_near_watchman : PySem.W.nsIn K mainGlobals "_law_near_watchman" = some (some (.ref f_law_near_watchman))) (l_law_near_watchman : K.lookup f_law_near_watchman = some ⟨oc_law_near_watchman, od_law_near_watchman, .func (PySem.W.fnOf "_law_near_watchman" "_law_near_watchman" (defArgs s_law_near_watchman) (defBody s_law_near_watchman) (defScope s_law_near_watchman) .none kV_law_near_watchman dc_law_near_watchman pm_law_near_watchman an_law_near_watchman cd_law_near_watchman ct_law_near_watchman), sl_law_near_watchman⟩) (c_law_near_watchman : PySem.W.codeIn K cd_law_near_watchman "_law_near_watchman" = true) (k_law_near_watchman : PySem.W.keepIn K (.ref f_law_near_watchman) = true)
    (a_law_wish_right : PySem.W.nsIn K mainGlobals "_law_wish_right" = some (some (.ref f_law_wish_right))) (l_law_wish_right : K.lookup f_law_wish_right = some ⟨oc_law_wish_right, od_law_wish_right, .func (PySem.W.fnOf "_law_wish_right" "_law_wish_right" (defArgs s_law_wish_right) (defBody s_law_wish_right) (defScope s_law_wish_right) .none kV_law_wish_right dc_law_wish_right pm_law_wish_right an_law_wish_right cd_law_wish_right ct_law_wish_right), sl_law_wish_right⟩) (c_law_wish_right : PySem.W.codeIn K cd_law_wish_right "_law_wish_right" = true) (k_law_wish_right : PySem.W.keepIn K (.ref f_law_wish_right) = true)
    (a_law_guard_right : PySem.W.nsIn K mainGlobals "_law_guard_right" = some (some (.ref f_law_guard_right))) (l_law_guard_right : K.lookup f_law_guard_right = some ⟨oc_law_guard_right, od_law_guard_right, .func (PySem.W.fnOf "_law_guard_right" "_law_guard_right" (defArgs s_law_guard_right) (defBody s_law_guard_right) (defScope s_law_guard_right) .none kV_law_guard_right dc_law_guard_right pm_law_guard_right an_law_guard_right cd_law_guard_right ct_law_guard_right), sl_law_guard_right⟩) (c_law_guard_right : PySem.W.codeIn K cd_law_guard_right "_law_guard_right" = true) (k_law_guard_right : PySem.W.keepIn K (.ref f_law_guard_right) = true)
    (a_law_hand : PySem.W.nsIn K mainGlobals "_law_hand" = some (some (.ref f_law_hand))) (l_law_hand : K.lookup f_law_hand = some ⟨oc_law_hand, od_law_hand, .func (PySem.W.fnOf "_law_hand" "_law_hand" (defArgs s_law_hand) (defBody s_law_hand) (defScope s_law_hand) .none kV_law_hand dc_law_hand pm_law_hand an_law_hand cd_law_hand ct_law_hand), sl_law_hand⟩) (c_law_hand : PySem.W.codeIn K cd_law_hand "_law_hand" = true) (k_law_hand : PySem.W.keepIn K (.ref f_law_hand) = true)
    (a_law : PySem.W.nsIn K mainGlobals "law" = some (some (.ref f_law))) (l_law : K.lookup f_law = some ⟨oc_law, od_law, .func (PySem.W.fnOf "law" "law" (defArgs s_law) (defBody s_law) (defScope s_law) .none kV_law dc_law pm_law an_law cd_law ct_law), sl_law⟩) (c_law : PySem.W.codeIn K cd_law "law" = true) (k_law : PySem.W.keepIn K (.ref f_law) = true)
    (z_all : PySem.W.nsIn K mainGlobals "all" = some none)
    (z_bool : PySem.W.nsIn K mainGlobals "bool" = some none)
    (z_MOST_DEEDS : PySem.W.nsIn K mainGlobals "MOST_DEEDS" = some (some (.int 4 t_MOST_DEEDS)))
    (z_MOST_FIGURES : PySem.W.nsIn K mainGlobals "MOST_FIGURES" = some (some (.int 31 t_MOST_FIGURES)))
    (z_MOST_MEMORIES : PySem.W.nsIn K mainGlobals "MOST_MEMORIES" = some (some (.int 8 t_MOST_MEMORIES)))
    (z_MOST_SHOWN : PySem.W.nsIn K mainGlobals "MOST_SHOWN" = some (some (.int 6 t_MOST_SHOWN)))
    (z_MOST_STATES : PySem.W.nsIn K mainGlobals "MOST_STATES" = some (some (.int 6 t_MOST_STATES)))
    (z_int : PySem.W.nsIn K mainGlobals "int" = some none)
    (z_isinstance : PySem.W.nsIn K mainGlobals "isinstance" = some none)
    (z_len : PySem.W.nsIn K mainGlobals "len" = some none)
    (z_list : PySem.W.nsIn K mainGlobals "list" = some none)
    (z_min : PySem.W.nsIn K mainGlobals "min" = some none)
    (z_range : PySem.W.nsIn K mainGlobals "range" = some none)
    (z_repr : PySem.W.nsIn K mainGlobals "repr" = some none)
    (z_set : PySem.W.nsIn K mainGlobals "set" = some none)
    (z_sorted : PySem.W.nsIn K mainGlobals "sorted" = some none)
    (z_str : PySem.W.nsIn K mainGlobals "str" = some none)
    (z_tuple : PySem.W.nsIn K mainGlobals "tuple" = some none)
    (z_zip : PySem.W.nsIn K mainGlobals "zip" = some none)
    : ∃ fd : FuncData, (∀ (s : Shared) (v : Value), BindsTo s fd ⟨[v], []⟩ [("script", v)]) ∧ ∀ base : Heap, K.In base → base.Ns mainGlobals mg → FnG l.prog w K mg base (L2.CX l.prog w) 8 fa fd ["script"] (spD ⟨K, w⟩ M 1 W_law) := by
  have e := hfa.symm.trans (PySem.W.mg_of X G a_law)
  cases e
  have T : Txt mg := ⟨PySem.W.mg_none_of X G z_all, PySem.W.mg_none_of X G z_bool, ⟨_, PySem.W.mg_of X G z_MOST_DEEDS⟩, ⟨_, PySem.W.mg_of X G z_MOST_FIGURES⟩, ⟨_, PySem.W.mg_of X G z_MOST_MEMORIES⟩, ⟨_, PySem.W.mg_of X G z_MOST_SHOWN⟩, ⟨_, PySem.W.mg_of X G z_MOST_STATES⟩, PySem.W.mg_none_of X G z_int, PySem.W.mg_none_of X G z_isinstance, PySem.W.mg_none_of X G z_len, PySem.W.mg_none_of X G z_list, PySem.W.mg_none_of X G z_min, PySem.W.mg_none_of X G z_range, PySem.W.mg_none_of X G z_repr, PySem.W.mg_none_of X G z_set, PySem.W.mg_none_of X G z_sorted, PySem.W.mg_none_of X G z_str, PySem.W.mg_none_of X G z_tuple, PySem.W.mg_none_of X G z_zip⟩
  have F_is_count := fun_mk (st := s_is_count) l_is_count c_is_count k_is_count
  have b_is_count := F_is_count.binds (ps := ["thing"]) fun _ _ _ _ _ _ us hl => match us, hl with | [_], _ => rfl
  have F_is_integer := fun_mk (st := s_is_integer) l_is_integer c_is_integer k_is_integer
  have b_is_integer := F_is_integer.binds (ps := ["thing", "least", "most"]) fun _ _ _ _ _ _ us hl => match us, hl with | [_, _, _], _ => rfl
  have F_is_pair := fun_mk (st := s_is_pair) l_is_pair c_is_pair k_is_pair
  have b_is_pair := F_is_pair.binds (ps := ["thing"]) fun _ _ _ _ _ _ us hl => match us, hl with | [_], _ => rfl
  have F_is_triple := fun_mk (st := s_is_triple) l_is_triple c_is_triple k_is_triple
  have b_is_triple := F_is_triple.binds (ps := ["thing"]) fun _ _ _ _ _ _ us hl => match us, hl with | [_], _ => rfl
  have F_are_numbers := fun_mk (st := s_are_numbers) l_are_numbers c_are_numbers k_are_numbers
  have b_are_numbers := F_are_numbers.binds (ps := ["thing", "many"]) fun _ _ _ _ _ _ us hl => match us, hl with | [_, _], _ => rfl
  have F_are_ascending := fun_mk (st := s_are_ascending) l_are_ascending c_are_ascending k_are_ascending
  have b_are_ascending := F_are_ascending.binds (ps := ["thing", "many"]) fun _ _ _ _ _ _ us hl => match us, hl with | [_, _], _ => rfl
  have F_are_rising := fun_mk (st := s_are_rising) l_are_rising c_are_rising k_are_rising
  have b_are_rising := F_are_rising.binds (ps := ["things"]) fun _ _ _ _ _ _ us hl => match us, hl with | [_], _ => rfl
  have F_need_wish := fun_mk (st := s_need_wish) l_need_wish c_need_wish k_need_wish
  have b_need_wish := F_need_wish.binds (ps := ["thing"]) fun _ _ _ _ _ _ us hl => match us, hl with | [_], _ => rfl
  have F_are_steps := fun_mk (st := s_are_steps) l_are_steps c_are_steps k_are_steps
  have b_are_steps := F_are_steps.binds (ps := ["thing", "deeds"]) fun _ _ _ _ _ _ us hl => match us, hl with | [_, _], _ => rfl
  have F_need_guard := fun_mk (st := s_need_guard) l_need_guard c_need_guard k_need_guard
  have b_need_guard := F_need_guard.binds (ps := ["deeds", "thing"]) fun _ _ _ _ _ _ us hl => match us, hl with | [_, _], _ => rfl
  have F_need_deeds := fun_mk (st := s_need_deeds) l_need_deeds c_need_deeds k_need_deeds
  have b_need_deeds := F_need_deeds.binds (ps := ["thing"]) fun _ _ _ _ _ _ us hl => match us, hl with | [_], _ => rfl
  have F_is_shown := fun_mk (st := s_is_shown) l_is_shown c_is_shown k_is_shown
  have b_is_shown := F_is_shown.binds (ps := ["thing", "deeds"]) fun _ _ _ _ _ _ us hl => match us, hl with | [_, _], _ => rfl
  have F_are_memories := fun_mk (st := s_are_memories) l_are_memories c_are_memories k_are_memories
  have b_are_memories := F_are_memories.binds (ps := ["thing", "deeds"]) fun _ _ _ _ _ _ us hl => match us, hl with | [_, _], _ => rfl
  have F_wish_text := fun_mk (st := s_wish_text) l_wish_text c_wish_text k_wish_text
  have b_wish_text := F_wish_text.binds (ps := ["wish"]) fun _ _ _ _ _ _ us hl => match us, hl with | [_], _ => rfl
  have F_guard_text := fun_mk (st := s_guard_text) l_guard_text c_guard_text k_guard_text
  have b_guard_text := F_guard_text.binds (ps := ["deeds", "guard"]) fun _ _ _ _ _ _ us hl => match us, hl with | [_, _], _ => rfl
  have F_read_wish := fun_mk (st := s_read_wish) l_read_wish c_read_wish k_read_wish
  have b_read_wish := F_read_wish.binds (ps := ["string"]) fun _ _ _ _ _ _ us hl => match us, hl with | [_], _ => rfl
  have F_read_guard := fun_mk (st := s_read_guard) l_read_guard c_read_guard k_read_guard
  have b_read_guard := F_read_guard.binds (ps := ["deeds", "string"]) fun _ _ _ _ _ _ us hl => match us, hl with | [_, _], _ => rfl
  have F_words_text := fun_mk (st := s_words_text) l_words_text c_words_text k_words_text
  have b_words_text := F_words_text.binds (ps := ["things"]) fun _ _ _ _ _ _ us hl => match us, hl with | [_], _ => rfl
  have F_shown_text := fun_mk (st := s_shown_text) l_shown_text c_shown_text k_shown_text
  have b_shown_text := F_shown_text.binds (ps := ["shown"]) fun _ _ _ _ _ _ us hl => match us, hl with | [_], _ => rfl
  have F_number_in := fun_mk (st := s_number_in) l_number_in c_number_in k_number_in
  have b_number_in := F_number_in.binds (ps := ["word"]) fun _ _ _ _ _ _ us hl => match us, hl with | [_], _ => rfl
  have F_numbers_in := fun_mk (st := s_numbers_in) l_numbers_in c_numbers_in k_numbers_in
  have b_numbers_in := F_numbers_in.binds (ps := ["words"]) fun _ _ _ _ _ _ us hl => match us, hl with | [_], _ => rfl
  have F_need_rows := fun_mk (st := s_need_rows) l_need_rows c_need_rows k_need_rows
  have b_need_rows := F_need_rows.binds (ps := ["thing"]) fun _ _ _ _ _ _ us hl => match us, hl with | [_], _ => rfl
  have F_pair_in := fun_mk (st := s_pair_in) l_pair_in c_pair_in k_pair_in
  have b_pair_in := F_pair_in.binds (ps := ["word"]) fun _ _ _ _ _ _ us hl => match us, hl with | [_], _ => rfl
  have F_law_begun := fun_mk (st := s_law_begun) l_law_begun c_law_begun k_law_begun
  have b_law_begun := F_law_begun.binds (ps := ["script"]) fun _ _ _ _ _ _ us hl => match us, hl with | [_], _ => rfl
  have F_law_next := fun_mk (st := s_law_next) l_law_next c_law_next k_law_next
  have b_law_next := F_law_next.binds (ps := ["m", "total"]) fun _ _ _ _ _ _ us hl => match us, hl with | [_, _], _ => rfl
  have F_law_of := fun_mk (st := s_law_of) l_law_of c_law_of k_law_of
  have b_law_of := F_law_of.binds (ps := ["m", "some"]) fun _ _ _ _ _ _ us hl => match us, hl with | [_, _], _ => rfl
  have F_law_goal := fun_mk (st := s_law_goal) l_law_goal c_law_goal k_law_goal
  have b_law_goal := F_law_goal.binds (ps := ["m", "acts", "most"]) fun _ _ _ _ _ _ us hl => match us, hl with | [_, _, _], _ => rfl
  have F_law_marks := fun_mk (st := s_law_marks) l_law_marks c_law_marks k_law_marks
  have b_law_marks := F_law_marks.binds (ps := ["m", "count"]) fun _ _ _ _ _ _ us hl => match us, hl with | [_, _], _ => rfl
  have F_law_watchman := fun_mk (st := s_law_watchman) l_law_watchman c_law_watchman k_law_watchman
  have b_law_watchman := F_law_watchman.binds (ps := ["m", "count"]) fun _ _ _ _ _ _ us hl => match us, hl with | [_, _], _ => rfl
  have F_law_said := fun_mk (st := s_law_said) l_law_said c_law_said k_law_said
  have b_law_said := F_law_said.binds (ps := ["some"]) fun _ _ _ _ _ _ us hl => match us, hl with | [_], _ => rfl
  have F_law_wish_page := fun_mk (st := s_law_wish_page) l_law_wish_page c_law_wish_page k_law_wish_page
  have b_law_wish_page := F_law_wish_page.binds (ps := ["goal"]) fun _ _ _ _ _ _ us hl => match us, hl with | [_], _ => rfl
  have F_law_pair_word := fun_mk (st := s_law_pair_word) l_law_pair_word c_law_pair_word k_law_pair_word
  have b_law_pair_word := F_law_pair_word.binds (ps := ["pair"]) fun _ _ _ _ _ _ us hl => match us, hl with | [_], _ => rfl
  have F_law_guard_page := fun_mk (st := s_law_guard_page) l_law_guard_page c_law_guard_page k_law_guard_page
  have b_law_guard_page := F_law_guard_page.binds (ps := ["ward"]) fun _ _ _ _ _ _ us hl => match us, hl with | [_], _ => rfl
  have F_law_near_goal := fun_mk (st := s_law_near_goal) l_law_near_goal c_law_near_goal k_law_near_goal
  have b_law_near_goal := F_law_near_goal.binds (ps := ["m", "goal"]) fun _ _ _ _ _ _ us hl => match us, hl with | [_, _], _ => rfl
  have F_law_near_watchman := fun_mk (st := s_law_near_watchman) l_law_near_watchman c_law_near_watchman k_law_near_watchman
  have b_law_near_watchman := F_law_near_watchman.binds (ps := ["m", "ward", "count"]) fun _ _ _ _ _ _ us hl => match us, hl with | [_, _, _], _ => rfl
  have F_law_wish_right := fun_mk (st := s_law_wish_right) l_law_wish_right c_law_wish_right k_law_wish_right
  have b_law_wish_right := F_law_wish_right.binds (ps := ["goal", "far"]) fun _ _ _ _ _ _ us hl => match us, hl with | [_, _], _ => rfl
  have F_law_guard_right := fun_mk (st := s_law_guard_right) l_law_guard_right c_law_guard_right k_law_guard_right
  have b_law_guard_right := F_law_guard_right.binds (ps := ["count", "ward", "far"]) fun _ _ _ _ _ _ us hl => match us, hl with | [_, _, _], _ => rfl
  have F_law_hand := fun_mk (st := s_law_hand) l_law_hand c_law_hand k_law_hand
  have b_law_hand := F_law_hand.binds (ps := []) fun _ _ _ _ _ _ us hl => match us, hl with | [], _ => rfl
  have F_law := fun_mk (st := s_law) l_law c_law k_law
  have b_law := F_law.binds (ps := ["script"]) fun _ _ _ _ _ _ us hl => match us, hl with | [_], _ => rfl
  refine ⟨PySem.W.fnOf "law" "law" (defArgs s_law) (defBody s_law) (defScope s_law) .none kV_law dc_law pm_law an_law cd_law ct_law, fun s v => .of_eq rfl, fun base _ _ => ?_⟩
  have G_is_count := (raw_is_count (P := l.prog) (w := w) (base := base) F_is_count T).imp (spD_imp ok_is_count)
  have G_is_pair := (raw_is_pair (P := l.prog) (w := w) (base := base) F_is_pair T).imp (spD_imp ok_is_pair)
  have G_is_triple := (raw_is_triple (P := l.prog) (w := w) (base := base) F_is_triple T).imp (spD_imp ok_is_triple)
  have G_are_rising := (raw_are_rising (P := l.prog) (w := w) (base := base) F_are_rising T).imp (spD_imp ok_are_rising)
  have G_are_memories := (raw_are_memories (P := l.prog) (w := w) (base := base) F_are_memories T).imp (spD_imp ok_are_memories)
  have G_words_text := (raw_words_text (P := l.prog) (w := w) (base := base) F_words_text T).imp (spD_imp ok_words_text)
  have G_shown_text := (raw_shown_text (P := l.prog) (w := w) (base := base) F_shown_text T).imp (spD_imp ok_shown_text)
  have G_number_in := (raw_number_in (P := l.prog) (w := w) (base := base) F_number_in T).imp (spD_imp ok_number_in)
  have G_need_rows := (raw_need_rows (P := l.prog) (w := w) (base := base) F_need_rows T).imp (spD_imp ok_need_rows)
  have G_law_begun := ok_law_begun (P := l.prog) (w := w) (base := base) F_law_begun T
  have G_law_next := ok_law_next (P := l.prog) (w := w) (base := base) F_law_next T
  have G_law_said := (raw_law_said (P := l.prog) (w := w) (base := base) F_law_said T).imp (spD_imp ok_law_said)
  have G_law_pair_word := (raw_law_pair_word (P := l.prog) (w := w) (base := base) F_law_pair_word T).imp (spD_imp ok_law_pair_word)
  have G_is_integer := (raw_is_integer (P := l.prog) (w := w) (base := base) F_is_integer T (PySem.W.mg_of X G a_is_count) G_is_count b_is_count k_is_count).imp (spD_imp ok_is_integer)
  have G_numbers_in := (raw_numbers_in (P := l.prog) (w := w) (base := base) F_numbers_in T (PySem.W.mg_of X G a_number_in) G_number_in b_number_in k_number_in).imp (spD_imp ok_numbers_in)
  have G_law_of := (raw_law_of (P := l.prog) (w := w) (base := base) F_law_of T (PySem.W.mg_of X G a_law_next) G_law_next b_law_next k_law_next).imp (spD_imp ok_law_of)
  have G_law_goal := (raw_law_goal (P := l.prog) (w := w) (base := base) F_law_goal T (PySem.W.mg_of X G a_law_next) G_law_next b_law_next k_law_next).imp (spD_imp ok_law_goal)
  have G_law_wish_page := (raw_law_wish_page (P := l.prog) (w := w) (base := base) F_law_wish_page T (PySem.W.mg_of X G a_law_said) G_law_said b_law_said k_law_said).imp (spD_imp ok_law_wish_page)
  have G_law_guard_page := (raw_law_guard_page (P := l.prog) (w := w) (base := base) F_law_guard_page T (PySem.W.mg_of X G a_law_pair_word) G_law_pair_word b_law_pair_word k_law_pair_word).imp (spD_imp ok_law_guard_page)
  have G_law_near_goal := (raw_law_near_goal (P := l.prog) (w := w) (base := base) F_law_near_goal T (PySem.W.mg_of X G a_law_next) G_law_next b_law_next k_law_next).imp (spD_imp ok_law_near_goal)
  have G_are_numbers := (raw_are_numbers (P := l.prog) (w := w) (base := base) F_are_numbers T (PySem.W.mg_of X G a_is_integer) G_is_integer b_is_integer k_is_integer).imp (spD_imp ok_are_numbers)
  have G_need_deeds := (raw_need_deeds (P := l.prog) (w := w) (base := base) F_need_deeds T (PySem.W.mg_of X G a_is_integer) G_is_integer b_is_integer k_is_integer).imp (spD_imp ok_need_deeds)
  have G_pair_in := (raw_pair_in (P := l.prog) (w := w) (base := base) F_pair_in T (PySem.W.mg_of X G a_number_in) (PySem.W.mg_of X G a_numbers_in) G_number_in b_number_in k_number_in G_numbers_in b_numbers_in k_numbers_in).imp (spD_imp ok_pair_in)
  have G_law_marks := (raw_law_marks (P := l.prog) (w := w) (base := base) F_law_marks T (PySem.W.mg_of X G a_law_next) (PySem.W.mg_of X G a_law_of) G_law_next b_law_next k_law_next G_law_of b_law_of k_law_of).imp (spD_imp ok_law_marks)
  have G_are_ascending := (raw_are_ascending (P := l.prog) (w := w) (base := base) F_are_ascending T (PySem.W.mg_of X G a_are_numbers) (PySem.W.mg_of X G a_are_rising) G_are_numbers b_are_numbers k_are_numbers G_are_rising b_are_rising k_are_rising).imp (spD_imp ok_are_ascending)
  have G_are_steps := (raw_are_steps (P := l.prog) (w := w) (base := base) F_are_steps T (PySem.W.mg_of X G a_are_numbers) G_are_numbers b_are_numbers k_are_numbers).imp (spD_imp ok_are_steps)
  have G_is_shown := (raw_is_shown (P := l.prog) (w := w) (base := base) F_is_shown T (PySem.W.mg_of X G a_are_numbers) G_are_numbers b_are_numbers k_are_numbers).imp (spD_imp ok_is_shown)
  have G_law_watchman := (raw_law_watchman (P := l.prog) (w := w) (base := base) F_law_watchman T (PySem.W.mg_of X G a_law_next) (PySem.W.mg_of X G a_law_marks) G_law_next b_law_next k_law_next G_law_marks b_law_marks k_law_marks).imp (spD_imp ok_law_watchman)
  have G_law_near_watchman := (raw_law_near_watchman (P := l.prog) (w := w) (base := base) F_law_near_watchman T (PySem.W.mg_of X G a_law_next) (PySem.W.mg_of X G a_law_of) (PySem.W.mg_of X G a_law_marks) G_law_next b_law_next k_law_next G_law_of b_law_of k_law_of G_law_marks b_law_marks k_law_marks).imp (spD_imp ok_law_near_watchman)
  have G_need_wish := (raw_need_wish (P := l.prog) (w := w) (base := base) F_need_wish T (PySem.W.mg_of X G a_is_integer) (PySem.W.mg_of X G a_is_triple) (PySem.W.mg_of X G a_are_ascending) (PySem.W.mg_of X G a_are_steps) G_is_integer b_is_integer k_is_integer G_is_triple b_is_triple k_is_triple G_are_ascending b_are_ascending k_are_ascending G_are_steps b_are_steps k_are_steps).imp (spD_imp ok_need_wish)
  have G_need_guard := (raw_need_guard (P := l.prog) (w := w) (base := base) F_need_guard T (PySem.W.mg_of X G a_is_integer) (PySem.W.mg_of X G a_is_pair) (PySem.W.mg_of X G a_need_deeds) (PySem.W.mg_of X G a_is_shown) (PySem.W.mg_of X G a_are_memories) G_is_integer b_is_integer k_is_integer G_is_pair b_is_pair k_is_pair G_need_deeds b_need_deeds k_need_deeds G_is_shown b_is_shown k_is_shown G_are_memories b_are_memories k_are_memories).imp (spD_imp ok_need_guard)
  have G_wish_text := (raw_wish_text (P := l.prog) (w := w) (base := base) F_wish_text T (PySem.W.mg_of X G a_need_wish) (PySem.W.mg_of X G a_words_text) G_need_wish b_need_wish k_need_wish G_words_text b_words_text k_words_text).imp (spD_imp ok_wish_text)
  have G_guard_text := (raw_guard_text (P := l.prog) (w := w) (base := base) F_guard_text T (PySem.W.mg_of X G a_need_guard) (PySem.W.mg_of X G a_words_text) (PySem.W.mg_of X G a_shown_text) G_need_guard b_need_guard k_need_guard G_words_text b_words_text k_words_text G_shown_text b_shown_text k_shown_text).imp (spD_imp ok_guard_text)
  have G_read_wish := (raw_read_wish (P := l.prog) (w := w) (base := base) F_read_wish T (PySem.W.mg_of X G a_need_wish) (PySem.W.mg_of X G a_number_in) (PySem.W.mg_of X G a_numbers_in) (PySem.W.mg_of X G a_need_rows) G_need_wish b_need_wish k_need_wish G_number_in b_number_in k_number_in G_numbers_in b_numbers_in k_numbers_in G_need_rows b_need_rows k_need_rows).imp (spD_imp ok_read_wish)
  have G_read_guard := (raw_read_guard (P := l.prog) (w := w) (base := base) F_read_guard T (PySem.W.mg_of X G a_need_guard) (PySem.W.mg_of X G a_need_deeds) (PySem.W.mg_of X G a_need_rows) (PySem.W.mg_of X G a_pair_in) G_need_guard b_need_guard k_need_guard G_need_deeds b_need_deeds k_need_deeds G_need_rows b_need_rows k_need_rows G_pair_in b_pair_in k_pair_in).imp (spD_imp ok_read_guard)
  have G_law_wish_right := (raw_law_wish_right (P := l.prog) (w := w) (base := base) F_law_wish_right T (PySem.W.mg_of X G a_wish_text) (PySem.W.mg_of X G a_read_wish) (PySem.W.mg_of X G a_law_wish_page) G_wish_text b_wish_text k_wish_text G_read_wish b_read_wish k_read_wish G_law_wish_page b_law_wish_page k_law_wish_page).imp (spD_imp ok_law_wish_right)
  have G_law_guard_right := (raw_law_guard_right (P := l.prog) (w := w) (base := base) F_law_guard_right T (PySem.W.mg_of X G a_guard_text) (PySem.W.mg_of X G a_read_guard) (PySem.W.mg_of X G a_law_guard_page) G_guard_text b_guard_text k_guard_text G_read_guard b_read_guard k_read_guard G_law_guard_page b_law_guard_page k_law_guard_page).imp (spD_imp ok_law_guard_right)
  have G_law_hand := (raw_law_hand (P := l.prog) (w := w) (base := base) F_law_hand T (PySem.W.mg_of X G a_wish_text) (PySem.W.mg_of X G a_guard_text) (PySem.W.mg_of X G a_read_wish) (PySem.W.mg_of X G a_read_guard) G_wish_text b_wish_text k_wish_text G_guard_text b_guard_text k_guard_text G_read_wish b_read_wish k_read_wish G_read_guard b_read_guard k_read_guard).imp (spD_imp ok_law_hand)
  have G_law := (raw_law (P := l.prog) (w := w) (base := base) F_law T (PySem.W.mg_of X G a_law_begun) (PySem.W.mg_of X G a_law_goal) (PySem.W.mg_of X G a_law_watchman) (PySem.W.mg_of X G a_law_near_goal) (PySem.W.mg_of X G a_law_near_watchman) (PySem.W.mg_of X G a_law_wish_right) (PySem.W.mg_of X G a_law_guard_right) (PySem.W.mg_of X G a_law_hand) G_law_begun b_law_begun k_law_begun G_law_goal b_law_goal k_law_goal G_law_watchman b_law_watchman k_law_watchman G_law_near_goal b_law_near_goal k_law_near_goal G_law_near_watchman b_law_near_watchman k_law_near_watchman G_law_wish_right b_law_wish_right k_law_wish_right G_law_guard_right b_law_guard_right k_law_guard_right G_law_hand b_law_hand k_law_hand).imp (spD_imp ok_law)
  exact G_law
theorem law_head (K : PySem.W.Frag) (w : World) (H : Hp) (a : Addr) (ns : List Int) (hl : ns.length ≤ 63) (hS : SqL K H a (ns.map V.int)) : spD ⟨K, w⟩ M 1 W_law [.ref a] H (fun v _ => v = .bl true) fun _ _ _ => False :=
  head_of hS fun k q => ⟨ns, rfl, hl, q⟩
end
end K88
open PySem PySem.W PyProof.Rows
set_option maxRecDepth 100000 in
set_option maxHeartbeats 0 in
theorem PySem.Challenge.cw_guardkeeps_k88_whole_texts_there_and_bac_holds : PySem.Challenge.rw_guardkeeps_k88_whole_texts_there_and_bac.Holds := by
  w_on; o_law; k_head; (case hw => w_witness2)
  k_fill
  refine PD.walkG (l := PySem.Challenge.rw_guardkeeps_k88_whole_texts_there_and_bac) (n := 63) (k := 8) (x := "script") (sp := fun K w => PD.spD ⟨K, w⟩ K88.M 1 K88.W_law) rfl (by decide) rfl ⟨rfl, by decide, by decide⟩ (fun w h Y => PySem.W.kIn_of Y) ?F fun K w H a ns hl _ hS => K88.law_head K w H a ns hl hS
  case F =>
    intro w mg fa h KX G hmg
    refine' K88.all_mk KX G hmg ?a_is_count ?l_is_count ?c_is_count ?k_is_count ?a_is_integer ?l_is_integer ?c_is_integer ?k_is_integer ?a_is_pair ?l_is_pair ?c_is_pair ?k_is_pair ?a_is_triple ?l_is_triple ?c_is_triple ?k_is_triple ?a_are_numbers ?l_are_numbers ?c_are_numbers ?k_are_numbers ?a_are_ascending ?l_are_ascending ?c_are_ascending ?k_are_ascending ?a_are_rising ?l_are_rising ?c_are_rising ?k_are_rising ?a_need_wish ?l_need_wish ?c_need_wish ?k_need_wish ?a_are_steps ?l_are_steps ?c_are_steps ?k_are_steps ?a_need_guard ?l_need_guard ?c_need_guard ?k_need_guard ?a_need_deeds ?l_need_deeds ?c_need_deeds ?k_need_deeds ?a_is_shown ?l_is_shown ?c_is_shown ?k_is_shown ?a_are_memories ?l_are_memories ?c_are_memories ?k_are_memories ?a_wish_text ?l_wish_text ?c_wish_text ?k_wish_text ?a_guard_text ?l_guard_text ?c_guard_text ?k_guard_text ?a_read_wish ?l_read_wish ?c_read_wish ?k_read_wish ?a_read_guard ?l_read_guard ?c_read_guard ?k_read_guard ?a_words_text ?l_words_text ?c_words_text ?k_words_text ?a_shown_text ?l_shown_text ?c_shown_text ?k_shown_text ?a_number_in ?l_number_in ?c_number_in ?k_number_in ?a_numbers_in ?l_numbers_in ?c_numbers_in ?k_numbers_in ?a_need_rows ?l_need_rows ?c_need_rows ?k_need_rows ?a_pair_in ?l_pair_in ?c_pair_in ?k_pair_in ?a_law_begun ?l_law_begun ?c_law_begun ?k_law_begun ?a_law_next ?l_law_next ?c_law_next ?k_law_next ?a_law_of ?l_law_of ?c_law_of ?k_law_of ?a_law_goal ?l_law_goal ?c_law_goal ?k_law_goal ?a_law_marks ?l_law_marks ?c_law_marks ?k_law_marks ?a_law_watchman ?l_law_watchman ?c_law_watchman ?k_law_watchman ?a_law_said ?l_law_said ?c_law_said ?k_law_said ?a_law_wish_page ?l_law_wish_page ?c_law_wish_page ?k_law_wish_page ?a_law_pair_word ?l_law_pair_word ?c_law_pair_word ?k_law_pair_word ?a_law_guard_page ?l_law_guard_page ?c_law_guard_page ?k_law_guard_page ?a_law_near_goal ?l_law_near_goal ?c_law_near_goal ?k_law_near_goal ?a_law_near_watchman ?l_law_near_watchman ?c_law_near_watchman ?k_law_near_watchman ?a_law_wish_right ?l_law_wish_right ?c_law_wish_right ?k_law_wish_right ?a_law_guard_right ?l_law_guard_right ?c_law_guard_right ?k_law_guard_right ?a_law_hand ?l_law_hand ?c_law_hand ?k_law_hand ?a_law ?l_law ?c_law ?k_law ?z_all ?z_bool ?z_MOST_DEEDS ?z_MOST_FIGURES ?z_MOST_MEMORIES ?z_MOST_SHOWN ?z_MOST_STATES ?z_int ?z_isinstance ?z_len ?z_list ?z_min ?z_range ?z_repr ?z_set ?z_sorted ?z_str ?z_tuple ?z_zip
    (case a_is_count => k_is)
    (case l_is_count => k_is)
    (case c_is_count => k_is)
    (case k_is_count => k_is)
    (case a_is_integer => k_is)
    (case l_is_integer => k_is)
    (case c_is_integer => k_is)
    (case k_is_integer => k_is)
    (case a_is_pair => k_is)
    (case l_is_pair => k_is)
    (case c_is_pair => k_is)
    (case k_is_pair => k_is)
    (case a_is_triple => k_is)
    (case l_is_triple => k_is)
    (case c_is_triple => k_is)
    (case k_is_triple => k_is)
    (case a_are_numbers => k_is)
    (case l_are_numbers => k_is)
    (case c_are_numbers => k_is)
    (case k_are_numbers => k_is)
    (case a_are_ascending => k_is)
    (case l_are_ascending => k_is)
    (case c_are_ascending => k_is)
    (case k_are_ascending => k_is)
    (case a_are_rising => k_is)
    (case l_are_rising => k_is)
    (case c_are_rising => k_is)
    (case k_are_rising => k_is)
    (case a_need_wish => k_is)
    (case l_need_wish => k_is)
    (case c_need_wish => k_is)
    (case k_need_wish => k_is)
    (case a_are_steps => k_is)
    (case l_are_steps => k_is)
    (case c_are_steps => k_is)
    (case k_are_steps => k_is)
    (case a_need_guard => k_is)
    (case l_need_guard => k_is)
    (case c_need_guard => k_is)
    (case k_need_guard => k_is)
    (case a_need_deeds => k_is)
    (case l_need_deeds => k_is)
    (case c_need_deeds => k_is)
    (case k_need_deeds => k_is)
    (case a_is_shown => k_is)
    (case l_is_shown => k_is)
    (case c_is_shown => k_is)
    (case k_is_shown => k_is)
    (case a_are_memories => k_is)
    (case l_are_memories => k_is)
    (case c_are_memories => k_is)
    (case k_are_memories => k_is)
    (case a_wish_text => k_is)
    (case l_wish_text => k_is)
    (case c_wish_text => k_is)
    (case k_wish_text => k_is)
    (case a_guard_text => k_is)
    (case l_guard_text => k_is)
    (case c_guard_text => k_is)
    (case k_guard_text => k_is)
    (case a_read_wish => k_is)
    (case l_read_wish => k_is)
    (case c_read_wish => k_is)
    (case k_read_wish => k_is)
    (case a_read_guard => k_is)
    (case l_read_guard => k_is)
    (case c_read_guard => k_is)
    (case k_read_guard => k_is)
    (case a_words_text => k_is)
    (case l_words_text => k_is)
    (case c_words_text => k_is)
    (case k_words_text => k_is)
    (case a_shown_text => k_is)
    (case l_shown_text => k_is)
    (case c_shown_text => k_is)
    (case k_shown_text => k_is)
    (case a_number_in => k_is)
    (case l_number_in => k_is)
    (case c_number_in => k_is)
    (case k_number_in => k_is)
    (case a_numbers_in => k_is)
    (case l_numbers_in => k_is)
    (case c_numbers_in => k_is)
    (case k_numbers_in => k_is)
    (case a_need_rows => k_is)
    (case l_need_rows => k_is)
    (case c_need_rows => k_is)
    (case k_need_rows => k_is)
    (case a_pair_in => k_is)
    (case l_pair_in => k_is)
    (case c_pair_in => k_is)
    (case k_pair_in => k_is)
    (case a_law_begun => k_is)
    (case l_law_begun => k_is)
    (case c_law_begun => k_is)
    (case k_law_begun => k_is)
    (case a_law_next => k_is)
    (case l_law_next => k_is)
    (case c_law_next => k_is)
    (case k_law_next => k_is)
    (case a_law_of => k_is)
    (case l_law_of => k_is)
    (case c_law_of => k_is)
    (case k_law_of => k_is)
    (case a_law_goal => k_is)
    (case l_law_goal => k_is)
    (case c_law_goal => k_is)
    (case k_law_goal => k_is)
    (case a_law_marks => k_is)
    (case l_law_marks => k_is)
    (case c_law_marks => k_is)
    (case k_law_marks => k_is)
    (case a_law_watchman => k_is)
    (case l_law_watchman => k_is)
    (case c_law_watchman => k_is)
    (case k_law_watchman => k_is)
    (case a_law_said => k_is)
    (case l_law_said => k_is)
    (case c_law_said => k_is)
    (case k_law_said => k_is)
    (case a_law_wish_page => k_is)
    (case l_law_wish_page => k_is)
    (case c_law_wish_page => k_is)
    (case k_law_wish_page => k_is)
    (case a_law_pair_word => k_is)
    (case l_law_pair_word => k_is)
    (case c_law_pair_word => k_is)
    (case k_law_pair_word => k_is)
    (case a_law_guard_page => k_is)
    (case l_law_guard_page => k_is)
    (case c_law_guard_page => k_is)
    (case k_law_guard_page => k_is)
    (case a_law_near_goal => k_is)
    (case l_law_near_goal => k_is)
    (case c_law_near_goal => k_is)
    (case k_law_near_goal => k_is)
    (case a_law_near_watchman => k_is)
    (case l_law_near_watchman => k_is)
    (case c_law_near_watchman => k_is)
    (case k_law_near_watchman => k_is)
    (case a_law_wish_right => k_is)
    (case l_law_wish_right => k_is)
    (case c_law_wish_right => k_is)
    (case k_law_wish_right => k_is)
    (case a_law_guard_right => k_is)
    (case l_law_guard_right => k_is)
    (case c_law_guard_right => k_is)
    (case k_law_guard_right => k_is)
    (case a_law_hand => k_is)
    (case l_law_hand => k_is)
    (case c_law_hand => k_is)
    (case k_law_hand => k_is)
    (case a_law => k_is)
    (case l_law => k_is)
    (case c_law => k_is)
    (case k_law => k_is)
    (case z_all => k_is)
    (case z_bool => k_is)
    (case z_MOST_DEEDS => k_is)
    (case z_MOST_FIGURES => k_is)
    (case z_MOST_MEMORIES => k_is)
    (case z_MOST_SHOWN => k_is)
    (case z_MOST_STATES => k_is)
    (case z_int => k_is)
    (case z_isinstance => k_is)
    (case z_len => k_is)
    (case z_list => k_is)
    (case z_min => k_is)
    (case z_range => k_is)
    (case z_repr => k_is)
    (case z_set => k_is)
    (case z_sorted => k_is)
    (case z_str => k_is)
    (case z_tuple => k_is)
    (case z_zip => k_is)

