import PyProof.Rows.All
import Wide.All
import OpenK.AllK
import Wide.FinOn
import KE.KDictKeyed
import HandS.ForMost
import HandS.Evl
import HandS.Deep
import HandS.TupAny
import HandS.TupMul
import HandS.IsInst
import HandS.Zip
import HandS.SortInts
import HandS.Strs
import HandS.ForExc
import HandS.ExcInit
import HandS.ExcField
import HandS.TryMany
import HandS.Lambda
import HandS.Ends
import KE.GoesEnum
import HandS.SetFor
import HandS.Style
import KE.KEqSeq
import HandS.Codes
import PyProof.ReprLen
import HandS.FStr
import HandS.RaiseMore
import HandS.StrMore
import HandS.Conv
import HandS.Star
import HandS.DictComp
import HandS.Exc
import KE.KDictWalk
import PyProof.Rows.TupDisplay
import KE.KDictCopyH
import KE.KDictList
import KE.KDictSum
import KE.SortData
import KE.DataCmp
import HandS.Nested
import HandS.EndTab
import HandS.Text
import PyProof.StrOps2
import KE.KRevSl
import HandS.Flow
import KE.GoesEnumKw
import HandS.SortKw
import PyProof.NeKinds
import PyProof.AutoSeq1
import HandS.ExcIs
import KE.KExcIs
import KE.DataMinMax
import KE.GoesMore
import KE.KDictZip
import HandS.TryOnly
import HandS.TupSets
import HandS.HotCalls
import PySem.Challenge.RW_guardkeeps_k87_errors
set_option Elab.async false
set_option linter.all false
set_option maxRecDepth 100000
set_option maxHeartbeats 4000000
namespace PD
open PySem
/-- where a key stands; None stands nowhere -/
abbrev KA := Option Addr
@[reducible] def kvl : KA → Value
  | some b => .ref b
  | none => .none
abbrev NZ := List (NestedKey × KA × Value)
def KeyAt (h : Heap) (k : NestedKey) (b : KA) : Prop := NestedIs h k (kvl b) ∧ k.depth ≤ 8
def entM (w : World) (x : NestedKey × KA × Value) : DictEntry := ⟨x.1.hash w, kvl x.2.1, x.2.2⟩
def atM (xs : NZ) (k : NestedKey) : Option (KA × Value) := (xs.find? fun x => decide (x.1 = k)).map fun x => x.2
def putM (k : NestedKey) (v : Value) (x : NestedKey × KA × Value) : NestedKey × KA × Value := if x.1 = k then (x.1, x.2.1, v) else x
def storM (xs : NZ) (k : NestedKey) (b : KA) (v : Value) : NZ := if (atM xs k).isSome = true then xs.map (putM k v) else xs ++ [(k, b, v)]
def MixAt (w : World) (h : Heap) (d : Addr) (xs : NZ) : Prop :=
  ∃ o es ep, h.get? d = some o ∧ o.ExactDict ∧ o.data = .dict es ep ∧ es.toList = xs.map (entM w) ∧ (∀ x ∈ xs, KeyAt h x.1 x.2.1) ∧ (xs.map (·.1)).Nodup
theorem MixAt.is {w : World} {s : Shared} {d : Addr} {xs : NZ} (m : MixAt w s.heap d xs) : s.TypeIs (.ref d) "dict" := by
  obtain ⟨o, _, _, h1, h2, _⟩ := m
  exact ⟨o, h1, h2.1⟩
theorem MixAt.fresh (w : World) (h : Heap) : MixAt w (h.push { cls := .type "dict", data := .dict #[] }) h.objs.size [] :=
  ⟨_, #[], 0, Heap.get?_push_size _ rfl, ⟨rfl, rfl, rfl⟩, rfl, rfl, fun x hx => absurd hx List.not_mem_nil, List.nodup_nil⟩
section
variable {prog : Program} {w : World} {A : Around} {E : Value → Shared → Prop} {s : Shared} {d : Addr} {b : KA} {k : NestedKey} {xs : NZ}
theorem ent_ix {es : Array DictEntry} (ge : es.toList = xs.map (entM w)) (j : Nat) : es[j]? = (xs[j]?).map (entM w) := by
  have := congrArg (fun l => l[j]?) ge
  simpa using this
theorem ent_size {es : Array DictEntry} (ge : es.toList = xs.map (entM w)) : es.size = xs.length := by
  have := congrArg List.length ge
  simpa using this
theorem one_place (gn : (xs.map (·.1)).Nodup) {i j : Nat} {p q : KA × Value} (hi : xs[i]? = some (k, p)) (hj : xs[j]? = some (k, q)) : i = j := by
  have ei : (xs.map (·.1))[i]? = some k := by rw [List.getElem?_map, hi]; rfl
  have ej : (xs.map (·.1))[j]? = some k := by rw [List.getElem?_map, hj]; rfl
  exact (List.getElem?_inj (List.getElem?_eq_some_iff.mp ei).1 gn).mp (by rw [ei, ej])
theorem atM_at (gn : (xs.map (·.1)).Nodup) {i : Nat} {p : KA × Value} (hi : xs[i]? = some (k, p)) : atM xs k = some p := by
  unfold atM
  cases e : xs.find? fun x => decide (x.1 = k) with
  | none =>
    have := List.find?_eq_none.mp e _ (List.mem_of_getElem? hi)
    simp at this
  | some x =>
    have h1 := List.find?_some e
    obtain ⟨j, hj⟩ := List.mem_iff_getElem?.mp (List.mem_of_find?_eq_some e)
    have h1 : x.1 = k := of_decide_eq_true h1
    obtain ⟨kx, px⟩ := x
    simp only at h1
    subst h1
    have := one_place gn hi hj
    subst this
    rw [hi] at hj
    cases hj
    rfl
theorem atM_no (h : ∀ (j : Nat) (p : KA × Value), xs[j]? ≠ some (k, p)) : atM xs k = none := by
  unfold atM
  cases e : xs.find? fun x => decide (x.1 = k) with
  | none => rfl
  | some x =>
    have h1 := List.find?_some e
    have h1 : x.1 = k := of_decide_eq_true h1
    obtain ⟨j, hj⟩ := List.mem_iff_getElem?.mp (List.mem_of_find?_eq_some e)
    obtain ⟨kx, px⟩ := x
    simp only at h1
    subst h1
    exact absurd hj (h j px)
theorem mem_places {n : Nat} {f : Nat → Option Int} {h : Int} {i : Nat} : i ∈ placesWithHash n f h ↔ i < n ∧ f i = some h := by
  unfold placesWithHash
  rw [List.mem_filter, List.mem_range, beq_iff_eq]
theorem nodup_places (n : Nat) (f : Nat → Option Int) (h : Int) : (placesWithHash n f h).Nodup := List.nodup_range.filter _
/-- while a key is looked for: what is left, what was hit -/
def Seek (xs : NZ) (k : NestedKey) (rest : List Nat) (hit : Option Nat) : Prop :=
  rest.Nodup ∧ (∀ i ∈ rest, i < xs.length) ∧ ((hit = none ∧ ∀ j p, xs[j]? = some (k, p) → j ∈ rest) ∨ ∃ j p, hit = some j ∧ j ∉ rest ∧ xs[j]? = some (k, p))
theorem Seek.other {i : Nat} {rest : List Nat} {hit : Option Nat} (h : Seek xs k (i :: rest) hit) (ne : ∀ p, xs[i]? ≠ some (k, p)) : Seek xs k rest hit := by
  obtain ⟨h1, h2, h3⟩ := h
  refine ⟨(List.nodup_cons.mp h1).2, fun j hj => h2 j (List.mem_cons_of_mem _ hj), h3.imp (fun ⟨e, g⟩ => ⟨e, fun j p hj => ?_⟩) fun ⟨j, p, e, g, hj⟩ => ⟨j, p, e, fun z => g (List.mem_cons_of_mem _ z), hj⟩⟩
  rcases List.mem_cons.mp (g j p hj) with z | z
  · subst z; exact absurd hj (ne p)
  · exact z
theorem Seek.here (gn : (xs.map (·.1)).Nodup) {i : Nat} {rest : List Nat} {hit : Option Nat} (h : Seek xs k (i :: rest) hit) {p : KA × Value} (hp : xs[i]? = some (k, p)) : hit = none ∧ Seek xs k rest (some i) := by
  obtain ⟨h1, h2, h3⟩ := h
  rcases h3 with ⟨e, g⟩ | ⟨j, q, e, g, hj⟩
  · exact ⟨e, (List.nodup_cons.mp h1).2, fun j hj => h2 j (List.mem_cons_of_mem _ hj), .inr ⟨i, p, rfl, (List.nodup_cons.mp h1).1, hp⟩⟩
  · exact absurd (by rw [one_place gn hj hp]; exact List.mem_cons_self) g
theorem quietM (ik : KeyAt s.heap k b) {Q : Bool → Shared → Prop} (h : Q true s) : wpAny (model prog w) A (eqIsQuiet 8 (kvl b)) Q E s := quiet_key k _ 8 s ik.1 ik.2 A E Q h
theorem eqM {x y : NestedKey} {a c : KA} (hu : A.units + 8 < cLine) (hx : KeyAt s.heap x a) (hy : KeyAt s.heap y c) {Q : Bool → Shared → Prop} (h : Q (decide (x = y)) s) : wpAny (model prog w) A (eqBool (kvl a) (kvl c)) Q E s :=
  eqAt_key x y A s _ _ hx.1 hy.1 (by have := hx.2; omega) _ _ _ _ (by rw [← NestedKey.decide_eq]; exact h)
theorem tellM (ik : KeyAt s.heap k b) {vs : List Value} (gv : ∀ v ∈ vs, ∃ k' c, v = kvl c ∧ KeyAt s.heap k' c) {Q : Bool → Shared → Prop} (h : Q false s) : wpAny (model prog w) A (tableMayTell (kvl b) vs) Q E s := by
  unfold tableMayTell
  by_cases e : vs.isEmpty = true
  · rw [if_pos e]
    exact wpAny_pure h
  rw [if_neg e]
  refine wpAny_bind (quietM ik ?_)
  rw [if_neg (by decide)]
  refine wpAny_bind (wpAny_forIn_list _ (fun l r s' => s' = s ∧ r = (none, ()) ∧ ∀ v ∈ l, ∃ k' c, v = kvl c ∧ KeyAt s.heap k' c) _ ?_ ?_ _ _ ⟨rfl, rfl, gv⟩)
  · rintro v l r s' ⟨rfl, rfl, g⟩
    obtain ⟨k', c, rfl, ic⟩ := g v List.mem_cons_self
    refine wpAny_bind (quietM ic ?_)
    rw [if_neg (by decide)]
    exact wpAny_pure ⟨rfl, rfl, fun y hy => g y (List.mem_cons_of_mem _ hy)⟩
  · rintro r s' ⟨rfl, rfl, _⟩
    exact wpAny_pure h
theorem findM {o : Obj} {es : Array DictEntry} {ep : Nat} (hu : A.units + 8 < cLine) (ik : KeyAt s.heap k b) (go : s.heap.get? d = some o) (gd : o.data = .dict es ep) (ge : es.toList = xs.map (entM w)) (gi : ∀ x ∈ xs, KeyAt s.heap x.1 x.2.1) (gn : (xs.map (·.1)).Nodup)
    {Q : Option Nat → Shared → Prop} (no : (∀ (j : Nat) (p : KA × Value), xs[j]? ≠ some (k, p)) → Q none s) (yes : ∀ (j : Nat) (p : KA × Value), xs[j]? = some (k, p) → Q (some j) s) : wpAny (model prog w) A (dictFind d (kvl b) (k.hash w)) Q E s := by
  have hz := ent_size ge
  have hat : ∀ {i : Nat}, i < xs.length → ∃ k' c u, xs[i]? = some (k', c, u) ∧ es[i]? = some ⟨k'.hash w, kvl c, u⟩ ∧ KeyAt s.heap k' c := fun {i} hi => by
    have e := List.getElem?_eq_getElem hi
    refine ⟨xs[i].1, xs[i].2.1, xs[i].2.2, e, ?_, gi _ (List.getElem_mem hi)⟩
    rw [ent_ix ge, e]
    rfl
  have hash : ∀ {j : Nat} {p : KA × Value}, xs[j]? = some (k, p) → j < es.size ∧ es[j]?.map (·.hash) = some (k.hash w) := fun {j p} hj => by
    refine ⟨by rw [hz]; exact (List.getElem?_eq_some_iff.mp hj).1, ?_⟩
    rw [ent_ix ge, hj]
    rfl
  have seek0 : Seek xs k (placesWithHash es.size (fun i => es[i]?.map (·.hash)) (k.hash w)) none :=
    ⟨nodup_places _ _ _, fun i hi => by rw [← hz]; exact (mem_places.mp hi).1, .inl ⟨rfl, fun j p hj => mem_places.mpr (hash hj)⟩⟩
  have place : ∀ i ∈ placesWithHash es.size (fun i => es[i]?.map (·.hash)) (k.hash w), es[i]?.map (·.hash) = some (k.hash w) := fun i hi => (mem_places.mp hi).2
  have keys : ∀ v ∈ (placesWithHash es.size (fun i => es[i]?.map (·.hash)) (k.hash w)).filterMap (fun i => es[i]?.map (·.key)), ∃ k' c, v = kvl c ∧ KeyAt s.heap k' c := fun v hv => by
    obtain ⟨i, hi, e⟩ := List.mem_filterMap.mp hv
    obtain ⟨k', c, u, h1, h2, h3⟩ := hat (by rw [← hz]; exact (mem_places.mp hi).1)
    rw [h2] at e
    cases e
    exact ⟨k', c, rfl, h3⟩
  unfold dictFind
  refine wpAny_holding (wpAny_bind (wpAny_dictEntries go gd ?_))
  have step : ∀ {i : Nat} {rest : List Nat} {hit : Option Nat}, Seek xs k (i :: rest) hit → (∀ j ∈ i :: rest, es[j]?.map (·.hash) = some (k.hash w)) → ∃ k' c u, es[i]? = some ⟨k'.hash w, kvl c, u⟩ ∧ (k'.hash w == k.hash w) = true ∧ KeyAt s.heap k' c ∧ xs[i]? = some (k', c, u) ∧
      (k' ≠ k → Seek xs k rest hit) ∧ (k' = k → hit = none ∧ Seek xs k rest (some i)) := fun {i rest hit} sk pl => by
    obtain ⟨k', c, u, h1, h2, h3⟩ := hat (sk.2.1 i List.mem_cons_self)
    have hh := pl i List.mem_cons_self
    rw [h2] at hh
    have hh : k'.hash w = k.hash w := by simpa using hh
    exact ⟨k', c, u, h2, by rw [hh]; simp, h3, h1, fun ne => sk.other fun p hp => by rw [h1] at hp; cases hp; exact ne rfl, fun e => by subst e; exact sk.here gn h1⟩
  have last : ∀ {hit : Option Nat}, Seek xs k [] hit → (hit = none ∧ ∀ (j : Nat) (p : KA × Value), xs[j]? ≠ some (k, p)) ∨ ∃ j p, hit = some j ∧ xs[j]? = some (k, p) := fun {hit} sk => by
    rcases sk.2.2 with ⟨e, g⟩ | ⟨j, p, e, _, hj⟩
    · exact .inl ⟨e, fun j p hj => absurd (g j p hj) List.not_mem_nil⟩
    · exact .inr ⟨j, p, e, hj⟩
  cases b with
  | some a =>
    dsimp only
    rw [if_neg (by simp [carriedByValue])]
    rw [if_neg (by
      rw [← Array.any_toList, List.any_eq_true]
      rintro ⟨e, hin, hc⟩
      rw [ge] at hin
      obtain ⟨x, hx, rfl⟩ := List.mem_map.mp hin
      rw [Bool.and_eq_true, beq_iff_eq, bne_iff_ne] at hc
      have ix := gi x hx
      have : kvl x.2.1 = kvl (some a) := hc.1
      have ix1 := ix.1
      rw [this] at ix1
      exact hc.2 (by show x.1.hash w = _; rw [NestedIs.inj _ _ _ ix1 ik.1]))]
    by_cases one : ((placesWithHash es.size (fun i => es[i]?.map (·.hash)) (k.hash w)).filterMap (fun i => es[i]?.map (·.key)) == [kvl (some a)]) = true
    all_goals
      first | (rw [if_pos one]; refine wpAny_bind (wpAny_pure ?_)) | (rw [if_neg one]; refine wpAny_bind (tellM ik keys ?_))
      rw [if_neg (by simp)]
      refine wpAny_bind (wpAny_forIn_list _ (fun rest r s' => s' = s ∧ ∃ hit, r = (none, hit) ∧ Seek xs k rest hit ∧ ∀ i ∈ rest, es[i]?.map (·.hash) = some (k.hash w)) _ ?_ ?_ _ _ ⟨rfl, none, rfl, seek0, place⟩)
      · rintro i rest r s' ⟨rfl, hit, rfl, sk, pl⟩
        obtain ⟨k', c, u, h1, h2, h3, h4, h5, h6⟩ := step sk pl
        have pl' : ∀ j ∈ rest, es[j]?.map (·.hash) = some (k.hash w) := fun j hj => pl j (List.mem_cons_of_mem _ hj)
        rw [h1]
        dsimp only
        rw [if_pos h2]
        refine wpAny_bind (wpAny_dictEpoch go gd (wpAny_bind (eqM hu h3 ik (wpAny_bind (wpAny_dictEpoch go gd ?_)))))
        rw [if_neg (by simp)]
        by_cases e : k' = k
        · obtain ⟨rfl, sk'⟩ := h6 e
          rw [decide_eq_true e, if_pos rfl]
          subst e
          rw [if_neg (by simp)]
          refine wpAny_bind (wpAny_rule ?_)
          split
          · exact wpAny_pure (wpAny_pure (yes i _ h4))
          · exact wpAny_pure ⟨rfl, some i, rfl, sk', pl'⟩
        · rw [decide_eq_false e, if_neg (by decide)]
          refine wpAny_bind (wpAny_rule ?_)
          rw [if_neg (by simp)]
          exact wpAny_pure ⟨rfl, hit, rfl, h5 e, pl'⟩
      · rintro r s' ⟨rfl, hit, rfl, sk, _⟩
        rcases last sk with ⟨rfl, g⟩ | ⟨j, p, rfl, hj⟩
        · exact wpAny_pure (no g)
        · exact wpAny_pure (yes j p hj)
  | none =>
    dsimp only
    by_cases pl0 : (kvl none :: (placesWithHash es.size (fun i => es[i]?.map (·.hash)) (k.hash w)).filterMap (fun i => es[i]?.map (·.key))).all carriedByValue = true
    · rw [if_pos pl0]
      unfold dictWalkPlain
      refine wpAny_bind (wpAny_forIn_list _ (fun rest r s' => s' = s ∧ r = (none, ()) ∧ Seek xs k rest none ∧ ∀ i ∈ rest, es[i]?.map (·.hash) = some (k.hash w)) _ ?_ ?_ _ _ ⟨rfl, rfl, seek0, place⟩)
      · rintro i rest r s' ⟨rfl, rfl, sk, pl⟩
        obtain ⟨k', c, u, h1, h2, h3, h4, h5, h6⟩ := step sk pl
        have pl' : ∀ j ∈ rest, es[j]?.map (·.hash) = some (k.hash w) := fun j hj => pl j (List.mem_cons_of_mem _ hj)
        rw [h1]
        dsimp only
        rw [if_pos h2]
        refine wpAny_bind (wpAny_dictEpoch go gd (wpAny_bind (eqM hu h3 ik (wpAny_bind (wpAny_dictEpoch go gd ?_)))))
        rw [if_neg (by simp)]
        by_cases e : k' = k
        · rw [decide_eq_true e, if_pos rfl]
          subst e
          exact wpAny_bind (wpAny_rule (wpAny_pure (wpAny_pure (yes i _ h4))))
        · rw [decide_eq_false e, if_neg (by decide)]
          exact wpAny_bind (wpAny_rule (wpAny_pure ⟨rfl, rfl, h5 e, pl'⟩))
      · rintro r s' ⟨rfl, rfl, sk, _⟩
        rcases last sk with ⟨_, g⟩ | ⟨j, p, e, hj⟩
        · exact wpAny_pure (no g)
        · cases e
    rw [if_neg pl0]
    by_cases one : ((placesWithHash es.size (fun i => es[i]?.map (·.hash)) (k.hash w)).filterMap (fun i => es[i]?.map (·.key)) == [kvl none]) = true
    all_goals
      first | (rw [if_pos one]; refine wpAny_bind (wpAny_pure ?_)) | (rw [if_neg one]; refine wpAny_bind (tellM ik keys ?_))
      rw [if_neg (by simp)]
      refine wpAny_bind (wpAny_forIn_list _ (fun rest r s' => s' = s ∧ ∃ hit, r = (none, hit) ∧ Seek xs k rest hit ∧ ∀ i ∈ rest, es[i]?.map (·.hash) = some (k.hash w)) _ ?_ ?_ _ _ ⟨rfl, none, rfl, seek0, place⟩)
      · rintro i rest r s' ⟨rfl, hit, rfl, sk, pl⟩
        obtain ⟨k', c, u, h1, h2, h3, h4, h5, h6⟩ := step sk pl
        have pl' : ∀ j ∈ rest, es[j]?.map (·.hash) = some (k.hash w) := fun j hj => pl j (List.mem_cons_of_mem _ hj)
        rw [h1]
        dsimp only
        rw [if_pos h2]
        refine wpAny_bind (wpAny_dictEpoch go gd (wpAny_bind (eqM hu h3 ik (wpAny_bind (wpAny_dictEpoch go gd ?_)))))
        rw [if_neg (by simp)]
        by_cases e : k' = k
        · obtain ⟨rfl, sk'⟩ := h6 e
          rw [decide_eq_true e, if_pos rfl]
          subst e
          rw [if_neg (by simp)]
          refine wpAny_bind (wpAny_rule ?_)
          split
          · exact wpAny_pure (wpAny_pure (yes i _ h4))
          · exact wpAny_pure ⟨rfl, some i, rfl, sk', pl'⟩
        · rw [decide_eq_false e, if_neg (by decide)]
          refine wpAny_bind (wpAny_rule ?_)
          rw [if_neg (by simp)]
          exact wpAny_pure ⟨rfl, hit, rfl, h5 e, pl'⟩
      · rintro r s' ⟨rfl, hit, rfl, sk, _⟩
        rcases last sk with ⟨rfl, g⟩ | ⟨j, p, rfl, hj⟩
        · exact wpAny_pure (no g)
        · exact wpAny_pure (yes j p hj)
theorem getM (hu : A.units + 8 < cLine) (ik : KeyAt s.heap k b) (m : MixAt w s.heap d xs) {Q : Option Value → Shared → Prop} (h : Q ((atM xs k).map (·.2)) { s with toks := s.toks + k.draws }) : wpAny (model prog w) A (dictGet d (kvl b)) Q E s := by
  obtain ⟨o, es, ep, go, _, gd, ge, gi, gn⟩ := m
  unfold dictGet
  refine wpAny_holding (wpAny_bind (pyHash_key _ _ _ _ _ ik.1 (by have := ik.2; omega) (wpAny_bind (findM (s := { s with toks := s.toks + k.draws }) hu ik go gd ge gi gn (fun no => ?_) fun j p hj => ?_))))
  · rw [atM_no no] at h
    exact wpAny_pure h
  · rw [atM_at gn hj] at h
    refine wpAny_bind (wpAny_dictEntries (s := { s with toks := s.toks + k.draws }) go gd ?_)
    rw [ent_ix ge, hj]
    exact wpAny_pure h
theorem map_putM {f : NestedKey × KA × Value → DictEntry} {g : DictEntry → DictEntry} {v : Value} (hg : ∀ c u, g (f (k, c, u)) = f (k, c, v)) : ∀ {xs : NZ} {j : Nat} {p : KA × Value}, (xs.map (·.1)).Nodup → xs[j]? = some (k, p) → (xs.map f).modify j g = (xs.map (putM k v)).map f
  | [], j, p, _, hj => by simp at hj
  | x :: xs, 0, p, gn, hj => by
    simp only [List.getElem?_cons_zero, Option.some.injEq] at hj
    subst hj
    have hx : ∀ y ∈ xs, putM k v y = y := fun y hy => by
      unfold putM
      rw [if_neg fun e => (List.nodup_cons.mp gn).1 (List.mem_map.mpr ⟨y, hy, e⟩)]
    have : xs.map (putM k v) = xs := by
      conv => rhs; rw [← List.map_id xs]
      exact List.map_congr_left hx
    rw [List.map_cons, List.map_cons, this, List.map_cons]
    show g (f (k, p)) :: xs.map f = f (putM k v (k, p)) :: xs.map f
    rw [show putM k v (k, p) = (k, p.1, v) by unfold putM; rw [if_pos rfl], ← hg p.1 p.2]
  | x :: xs, j + 1, p, gn, hj => by
    simp only [List.getElem?_cons_succ] at hj
    have ne : x.1 ≠ k := fun e => (List.nodup_cons.mp gn).1 (List.mem_map.mpr ⟨(k, p), List.mem_of_getElem? hj, e.symm⟩)
    have := map_putM hg (List.nodup_cons.mp gn).2 hj
    show f x :: (xs.map f).modify j g = f (putM k v x) :: (xs.map (putM k v)).map f
    rw [this, show putM k v x = x by unfold putM; rw [if_neg ne]]
theorem KeyAt.keep {h h' : Heap} {o : Obj} {es : Array DictEntry} {ep : Nat} (ik : KeyAt h k b) (go : h.get? d = some o) (gd : o.data = .dict es ep) (sb : Heap.SameBut d h h') : KeyAt h' k b :=
  ⟨NestedIs.at (fun a oa vs n ga da => by
    refine (sb.2 a fun e => ?_).trans ga
    subst e
    rw [go] at ga
    cases ga
    rw [gd] at da
    cases da) k _ ik.1, ik.2⟩
theorem setM {v : Value} (hu : A.units + 8 < cLine) (ik : KeyAt s.heap k b) (m : MixAt w s.heap d xs) {Q : Unit → Shared → Prop} (h : ∀ h', MixAt w h' d (storM xs k b v) → Heap.SameBut d s.heap h' → Q () { s with heap := h', toks := s.toks + k.draws }) (few : xs.length ≤ sizeLine) :
    wpAny (model prog w) A (dictSet d (kvl b) v) Q E s := by
  obtain ⟨o, es, ep, go, gc, gd, ge, gi, gn⟩ := m
  have hz := ent_size ge
  unfold dictSet
  refine wpAny_holding (wpAny_bind (pyHash_key _ _ _ _ _ ik.1 (by have := ik.2; omega) ?_))
  unfold dictSetHashed
  refine wpAny_holding (wpAny_bind (findM (s := { s with toks := s.toks + k.draws }) hu ik go gd ge gi gn (fun no => ?_) fun j p hj => ?_))
  · have e0 : storM xs k b v = xs ++ [(k, b, v)] := by unfold storM; rw [atM_no no]; rfl
    have hk : k ∉ xs.map (·.1) := fun hm => by
      obtain ⟨x, hx, rfl⟩ := List.mem_map.mp hm
      obtain ⟨j, hj⟩ := List.mem_iff_getElem?.mp hx
      exact no j x.2 hj
    refine wpAny_bind (wpAny_rule (wpAny_updateDictKeys (hz := by omega) (s := { s with toks := s.toks + k.draws }) go gd (h _ ⟨_, _, ep + 1, Heap.get?_update_self _ go (Obj.isFreed_of_dict (Obj.data_mapDictKeys gd _)), gc.mapDictKeys _, Obj.data_mapDictKeys gd _, ?_, ?_, ?_⟩ (Heap.SameBut.update ..))))
    · rw [e0]
      simp [ge, entM]
    · rw [e0]
      intro x hx
      rcases List.mem_append.mp hx with z | z
      · exact (gi x z).keep go gd (Heap.SameBut.update ..)
      · rw [List.mem_singleton.mp z]
        exact ik.keep go gd (Heap.SameBut.update ..)
    · rw [e0, List.map_append]
      refine List.nodup_append.mpr ⟨gn, by simp, fun x hx y hy e => hk ?_⟩
      have hy : y = k := List.mem_singleton.mp hy
      rw [← hy, ← e]
      exact hx
  · have e0 : storM xs k b v = xs.map (putM k v) := by unfold storM; rw [atM_at gn hj]; rfl
    refine wpAny_bind (wpAny_rule (wpAny_bind (wpAny_updateDict (s := { s with toks := s.toks + k.draws }) go gd (wpAny_point (h _ ⟨_, _, ep, Heap.get?_update_self _ go (Obj.isFreed_of_dict (Obj.data_mapDict gd _)), gc.mapDict _, Obj.data_mapDict gd _, ?_, ?_, ?_⟩ (Heap.SameBut.update ..))))))
    · rw [e0, ← map_putM (f := entM w) (g := fun e : DictEntry => { e with val := v }) (fun _ _ => rfl) gn hj, ← ge]
      obtain ⟨l⟩ := es
      simp
    · rw [e0]
      intro x hx
      obtain ⟨y, hy, rfl⟩ := List.mem_map.mp hx
      have : (putM k v y).1 = y.1 ∧ (putM k v y).2.1 = y.2.1 := by unfold putM; split <;> exact ⟨rfl, rfl⟩
      rw [this.1, this.2]
      exact (gi y hy).keep go gd (Heap.SameBut.update ..)
    · rw [e0, List.map_map]
      have : (xs.map ((·.1) ∘ putM k v)) = xs.map (·.1) := List.map_congr_left fun y _ => by show (putM k v y).1 = y.1; unfold putM; split <;> rfl
      rw [this]
      exact gn
theorem containsM (hu : A.in1.units + 8 < cLine) (ik : KeyAt s.heap k b) (hd : (d == sysModules) = false) (m : MixAt w s.heap d xs) {Q : Bool → Shared → Prop} (h : Q (atM xs k).isSome { s with toks := s.toks + k.draws }) :
    wpAny (model prog w) A (contains (.ref d) (kvl b)) Q E s := by
  unfold contains
  refine wpAny_holding (wpAny_bind (wpAny_specialOf m.is slot_dict_contains.lookup ?_))
  show wpAny _ _ (if (some (Value.builtin "dict.__contains__") == some Value.none) = true then _ else _) _ E s
  rw [beq_builtin_none, if_neg Bool.false_ne_true]
  refine wpAny_bind (wpAny_callSpecialUnlessNone?_slot (name := Str.ofString "__contains__") m.is slot_dict_contains (wpAny_call_entry slot_dict_contains m.is entry_dict_contains ?_ (args_dict_contains _ _)))
  show wpAny _ _ (dictGet d (kvl b) >>= _) _ _ s
  refine wpAny_bind (getM hu ik m ?_)
  cases e : atM xs k with
  | some p =>
    rw [e] at h
    exact wpAny_pure ⟨_, rfl, wpAny_truthy_bool h⟩
  | none =>
    rw [e] at h
    exact wpAny_bind (wpAny_pendingKey_other hd (wpAny_pure ⟨_, rfl, wpAny_truthy_bool h⟩))
theorem inM (neg : Bool) (hu : A.in1.units + 8 < cLine) (ik : KeyAt s.heap k b) (hd : (d == sysModules) = false) (m : MixAt w s.heap d xs) {Q : Value → Shared → Prop} (h : Q (.bool (neg ^^ (atM xs k).isSome)) { s with toks := s.toks + k.draws }) :
    wpAny (model prog w) A (compareOp (if neg = true then .NotIn else .In) (kvl b) (.ref d)) Q E s := by
  cases neg with
  | false =>
    show wpAny _ _ (do return .bool (← contains (.ref d) (kvl b))) Q E s
    exact wpAny_bind (containsM hu ik hd m (wpAny_pure (by simpa using h)))
  | true =>
    show wpAny _ _ (do return .bool (!(← contains (.ref d) (kvl b)))) Q E s
    exact wpAny_bind (containsM hu ik hd m (wpAny_pure (by simpa using h)))
theorem itemM {p : KA × Value} (hu : A.in1.units + 8 < cLine) (ik : KeyAt s.heap k b) (m : MixAt w s.heap d xs) (hp : atM xs k = some p) {Q : Value → Shared → Prop} (h : Q p.2 { s with toks := s.toks + k.draws }) :
    wpAny (model prog w) A (getItem (.ref d) (kvl b)) Q E s := by
  unfold getItem
  refine wpAny_holding (wpAny_bind (wpAny_sequenceKey m.is (by decide) ?_))
  refine wpAny_bind (wpAny_callSpecial?_slot (name := Str.ofString "__getitem__") m.is slot_dict_getitem (wpAny_call_entry slot_dict_getitem m.is entry_dict_getitem ?_ (args_dict_getitem _ _)))
  show wpAny _ _ (dictGet d (kvl b) >>= _) _ _ s
  refine wpAny_bind (getM hu ik m ?_)
  rw [hp]
  exact wpAny_pure ⟨p.2, rfl, wpAny_pure h⟩
end
end PD
namespace PD
open PySem L2
open Evl (Ex)
abbrev D := PyData
/-- the constant part, and the world (the hashes hang on it) -/
structure Kw where
  f : PySem.W.Frag
  w : World
  p : Program
abbrev Fr0 := Kw
@[reducible] def _root_.L2.Cx.k0 (X : Cx) : Kw := ⟨X.K, X.w, X.prog⟩
/-- the heap without the addresses of L -/
def hide (L : List Addr) (H : Hp) : Hp := fun a => if a ∈ L then none else H a
theorem hide_some {L : List Addr} {H : Hp} {a : Addr} {o : HO} : hide L H a = some o ↔ a ∉ L ∧ H a = some o := by
  unfold hide
  by_cases h : a ∈ L
  · simp [h]
  · simp [h]
theorem hide_ex {L : List Addr} {H H' : Hp} (e : Ex H H') : Ex (hide L H) (hide L H') := fun a o h => by
  obtain ⟨h1, h2⟩ := hide_some.mp h
  exact hide_some.mpr ⟨h1, e a o h2⟩
theorem hide_le (L : List Addr) (H : Hp) : Ex (hide L H) H := fun a o h => (hide_some.mp h).2
theorem hide_sub {L L' : List Addr} {H : Hp} (h : ∀ a ∈ L, a ∈ L') : Ex (hide L' H) (hide L H) := fun a o e => by
  obtain ⟨h1, h2⟩ := hide_some.mp e
  exact hide_some.mpr ⟨fun z => h1 (h a z), h2⟩
mutual
/-- a key of a dict whose keys are tuples -/
def keyN : D → Option NestedKey
  | .none => some .none
  | .bool b => some (.num (if b = true then 1 else 0))
  | .int i => some (.num i)
  | .str x => some (.text x)
  | .tuple ds => (keyNs ds).map .tup
  | .list _ => none
  | .dict _ => none
def keyNs : List D → Option (List NestedKey)
  | [] => some []
  | d :: ds => match keyN d, keyNs ds with
    | some k, some ks => some (k :: ks)
    | _, _ => none
end
@[reducible] def kV0 : KA → V
  | some b => .ref b
  | none => .non
/-- the object of a dict whose keys are tuples, or None -/
def NdF (w : World) (d : Addr) (o : Obj) (xs : List (NestedKey × KA × V)) : Prop := (d == sysModules) = false ∧ o.ExactDict ∧ xs.length ≤ sizeLine ∧ (xs.map (·.1)).Nodup ∧ ∃ (es : Array DictEntry) (ep : Nat) (us : List Value), o.data = .dict es ep ∧
  Vals (xs.map fun x => x.2.2) us ∧ es.toList = (xs.zip us).map (fun p => (⟨p.1.1.hash w, kvl p.1.2.1, p.2⟩ : DictEntry))
/-- .. whose keys are ints and texts -/
def KdF (w : World) (d : Addr) (o : Obj) (kvs : List (Key × V)) : Prop := (d == sysModules) = false ∧ o.ExactDict ∧ kvs.length ≤ sizeLine ∧ ∃ (es : Array DictEntry) (ep : Nat) (vs : List (Key × Value)), o.data = .dict es ep ∧
  (∀ e ∈ es, ∃ k, keyIs k e.key = true ∧ e.hash = keyH w k) ∧ Paired (fun (e : DictEntry) (kv : Key × Value) => keyIs kv.1 e.key = true ∧ e.val = kv.2) es.toList vs ∧ (vs.map (·.1)).Nodup ∧ KV kvs vs
/-- at d: just this object -/
def NdO (w : World) (d : Addr) (o : Obj) (xs : List (NestedKey × KA × V)) : HO := .ext fun h => h.get? d = some o ∧ NdF w d o xs
def KdO (w : World) (d : Addr) (o : Obj) (kvs : List (Key × V)) : HO := .ext fun h => h.get? d = some o ∧ KdF w d o kvs
def subE : Expr → List Expr
  | .BoolOp _ vs _ => vs
  | .BinOp l _ r _ => [l, r]
  | .UnaryOp _ e _ => [e]
  | .IfExp t b e _ => [t, b, e]
  | .Compare l _ cs _ => l :: cs
  | .Call f as ks _ => f :: as ++ ks.map (·.value)
  | .List es _ => es
  | .Tuple es _ _ => es
  | .ListComp e gs _ _ => e :: gs.map (·.iter)
  | .Subscript v i _ => [v, i]
  | .Attribute v _ _ => [v]
  | .Lambda _ b _ _ => [b]
  | _ => []
def subS : Stmt → List Expr × List Stmt
  | .FunctionDef _ _ b _ _ _ _ _ _ _ => ([], b)
  | .ClassDef _ _ _ b _ _ _ _ _ _ _ => ([], b)
  | .Return (some e) _ => ([e], [])
  | .Assign _ v _ => ([v], [])
  | .Expr v _ => ([v], [])
  | .For _ it b _ _ => ([it], b)
  | .While t b _ _ => ([t], b)
  | .If t b c _ => ([t], b ++ c)
  | .Try b _ _ _ _ => ([], b)
  | _ => ([], [])
def navE : List Nat → Expr → Option Expr
  | [], e => some e
  | i :: r, e => match (subE e)[i]? with
    | some x => navE r x
    | none => none
/-- statements below from 100 on, expressions below it -/
def navS : List Nat → Stmt → Option Expr
  | [], _ => none
  | i :: r, s => if i < 100 then (match (subS s).1[i]? with
      | some x => navE r x
      | none => none) else match (subS s).2[i - 100]? with
      | some x => navS r x
      | none => none
def lamAt (p : Program) : List Nat → Option Expr
  | [] => none
  | i :: r => match p.main.body[i]? with
    | some x => navS r x
    | none => none
/-- at a: just this object -/
def ExO (a : Addr) (o : Obj) : HO := .ext fun h => h.get? a = some o
/-- a cell, lent: just this object, with a mark -/
def CeO (k : Nat) (o : Obj) : HO := .frz o (.own k)
/-- an error that was caught, known as it is -/
def ErO (a : Addr) (o : Obj) : HO := .frz o (.own a)
/-- a lambda's object: its words, its code object, its cells and what they are -/
structure CloF where
  q : Str
  params : Arguments
  body : Expr
  scope : Scope
  pm : Value
  ctv : Value
  c : Addr
  oc : Obj
  cl : List (Str × Addr)
  os : List Obj
  dfl : List (Addr × Obj)
  doc : Value
/-- where the tuple of its defaults stands -/
def dfV : List (Addr × Obj) → Value
  | [] => .none
  | q :: _ => .ref q.1
@[reducible] def CloF.obj (C : CloF) : Obj := PySem.W.kdv_obj "<lambda>" C.q C.params (.expr C.body) C.scope C.cl (dfV C.dfl) C.doc C.pm C.c C.ctv
def CloF.dfs (C : CloF) : List (Addr × HO) := C.dfl.map fun q => (q.1, ExO q.1 q.2)
def CloF.cells (C : CloF) (k : Nat) : List (Addr × HO) := List.zipWith (fun x o => (x.2, CeO k o)) C.cl C.os
/-- the names that it captures, as they stand in it -/
def frees (sc : Scope) : List Str := ((sc.names.filter fun y => y.2 == .free).map (·.1)).reverse
structure CloOk (p : Program) (path : List Nat) (C : CloF) (vs : List V) : Prop where
  here : ∃ lpos, lamAt p path = some (.Lambda C.params C.body C.scope lpos)
  code : ∃ (vs : Array Value) (t : Tok), C.oc.data = .fields vs ∧ vs[1]? = some (.str C.q t)
  names : C.cl.map (·.1) = frees C.scope
  nd : (C.cl.map (·.1)).Nodup
  inj : (C.cl.map (·.2)).Nodup
  los : C.os.length = C.cl.length
  lvs : vs.length = C.cl.length
  cell : ∀ (i : Nat) (o : Obj) (v : V), C.os[i]? = some o → vs[i]? = some v → ∃ u, RelV v u ∧ o.data = .cell (some u)
  dflt : (C.params.defaults = [] ∧ C.dfl = [] ∧ C.doc = .none) ∨ (C.params.defaults ≠ [] ∧ ∃ t u, C.dfl = [(t, PySem.W.kdv_tup [u])] ∧ RelV (.int 0) u)
/-- a lambda as data: where it stands, what it captured; no dict is so -/
@[reducible] def cloD (path : List Nat) (ds : List D) : D := .dict [(.list [], .tuple (path.map fun n => .int (n : Nat))), (.list [], .list ds)]
/-- an error as data: its class, its attributes; no dict is so -/
@[reducible] def errD (C : Addr) (fl : List (D × D)) : D := .dict ((.list [], .list [.int (C : Nat)]) :: fl)
mutual
/-- what lies at a value, as data; an instance of a class is told as a dict that no dict can be -/
inductive Rp (K : Fr0) (H : Hp) : V → D → Prop
  | non : Rp K H .non .none
  | bl (b : Bool) : Rp K H (.bl b) (.bool b)
  | int (i : Int) : Rp K H (.int i) (.int i)
  | str (x : Str) : Rp K H (.str x) (.str x)
  | lst {a : Addr} {xs : List V} {ds : List D} : SqL K.f H a xs → RpAll K H xs ds → Rp K H (.ref a) (.list ds)
  | tup {a : Addr} {xs : List V} {ds : List D} : SqT K.f H a xs → RpAll K H xs ds → Rp K H (.ref a) (.tuple ds)
  | dct {a : Addr} {o : Obj} {kvs : List (Key × V)} {ps : List (D × D)} : H a = some (KdO K.w a o kvs) → RpKv K H kvs ps → Rp K H (.ref a) (.dict ps)
  | dctN {a : Addr} {o : Obj} {xs : List (NestedKey × KA × V)} {ps : List (D × D)} : H a = some (NdO K.w a o xs) → RpN K H xs ps → Rp K H (.ref a) (.dict ps)
  | obj {a C dx : Addr} {fs : List (Str × V)} {ps : List (D × D)} : H a = some (.ins C dx fs) → RpF K H fs ps → Rp K H (.ref a) (.dict ((.list [], .int (C : Nat)) :: ps))
  | clo {a : Addr} {path : List Nat} {C : CloF} {vs : List V} {ds : List D} : CloOk K.p path C vs → H a = some (ExO a C.obj) → H C.c = some (CeO 0 C.oc) → (∀ q ∈ C.cells (path.headD 0) ++ C.dfs, H q.1 = some q.2) → RpAll K H vs ds → Rp K H (.ref a) (cloD path ds)
  | er0 {a C : Addr} {oe : Obj} : H a = some (ErO a oe) → oe.cls = .ref C → oe.dict = none → (∃ vs, oe.data = .fields vs) → Rp K H (.ref a) (errD C [])
  | er1 {a C dd : Addr} {oe : Obj} {fs : List (Str × V)} {ps : List (D × D)} : H a = some (ErO a oe) → oe.cls = .ref C → oe.dict = some dd → (∃ vs, oe.data = .fields vs) → H dd = some (.xd fs) → RpF K H fs ps → Rp K H (.ref a) (errD C ps)
inductive RpAll (K : Fr0) (H : Hp) : List V → List D → Prop
  | nil : RpAll K H [] []
  | cons {v : V} {vs : List V} {d : D} {ds : List D} : Rp K H v d → RpAll K H vs ds → RpAll K H (v :: vs) (d :: ds)
inductive RpKv (K : Fr0) (H : Hp) : List (Key × V) → List (D × D) → Prop
  | nil : RpKv K H [] []
  | cons {k : Key} {v : V} {kvs : List (Key × V)} {d e : D} {ps : List (D × D)} : Rp K H (kV k) d → Rp K H v e → RpKv K H kvs ps → RpKv K H ((k, v) :: kvs) ((d, e) :: ps)
inductive RpN (K : Fr0) (H : Hp) : List (NestedKey × KA × V) → List (D × D) → Prop
  | nil : RpN K H [] []
  | cons {k : NestedKey} {b : KA} {v : V} {xs : List (NestedKey × KA × V)} {d e : D} {ps : List (D × D)} : keyN d = some k → k.depth ≤ 8 → Rp K H (kV0 b) d → Rp K H v e → RpN K H xs ps → RpN K H ((k, b, v) :: xs) ((d, e) :: ps)
inductive RpF (K : Fr0) (H : Hp) : List (Str × V) → List (D × D) → Prop
  | nil : RpF K H [] []
  | cons {n : Str} {v : V} {fs : List (Str × V)} {e : D} {ps : List (D × D)} : Rp K H v e → RpF K H fs ps → RpF K H ((n, v) :: fs) ((.str n, e) :: ps)
end
mutual
theorem rp_up {K : Fr0} {H H' : Hp} (e : Ex H H') : ∀ {v : V} {d : D}, Rp K H v d → Rp K H' v d
  | _, _, .non => .non
  | _, _, .bl b => .bl b
  | _, _, .int i => .int i
  | _, _, .str x => .str x
  | _, _, .lst hs ha => .lst (Evl.ex_l e hs) (rpa_up e ha)
  | _, _, .tup hs ha => .tup (Evl.ex_t e hs) (rpa_up e ha)
  | _, _, .dct hs ha => .dct (e _ _ hs) (rpk_up e ha)
  | _, _, .dctN hs ha => .dctN (e _ _ hs) (rpn_up e ha)
  | _, _, .obj hs ha => .obj (e _ _ hs) (rpf_up e ha)
  | _, _, .clo h0 hs hc hq ha => .clo h0 (e _ _ hs) (e _ _ hc) (fun q hm => e _ _ (hq q hm)) (rpa_up e ha)
  | _, _, .er0 hs h1 h2 h3 => .er0 (e _ _ hs) h1 h2 h3
  | _, _, .er1 hs h1 h2 h3 hd ha => .er1 (e _ _ hs) h1 h2 h3 (e _ _ hd) (rpf_up e ha)
theorem rpa_up {K : Fr0} {H H' : Hp} (e : Ex H H') : ∀ {vs : List V} {ds : List D}, RpAll K H vs ds → RpAll K H' vs ds
  | _, _, .nil => .nil
  | _, _, .cons h1 h2 => .cons (rp_up e h1) (rpa_up e h2)
theorem rpk_up {K : Fr0} {H H' : Hp} (e : Ex H H') : ∀ {vs : List (Key × V)} {ds : List (D × D)}, RpKv K H vs ds → RpKv K H' vs ds
  | _, _, .nil => .nil
  | _, _, .cons h1 h2 h3 => .cons (rp_up e h1) (rp_up e h2) (rpk_up e h3)
theorem rpn_up {K : Fr0} {H H' : Hp} (e : Ex H H') : ∀ {vs : List (NestedKey × KA × V)} {ds : List (D × D)}, RpN K H vs ds → RpN K H' vs ds
  | _, _, .nil => .nil
  | _, _, .cons h0 hd h1 h2 h3 => .cons h0 hd (rp_up e h1) (rp_up e h2) (rpn_up e h3)
theorem rpf_up {K : Fr0} {H H' : Hp} (e : Ex H H') : ∀ {vs : List (Str × V)} {ds : List (D × D)}, RpF K H vs ds → RpF K H' vs ds
  | _, _, .nil => .nil
  | _, _, .cons h1 h2 => .cons (rp_up e h1) (rpf_up e h2)
end
theorem dp_ex {K : Fr0} {H H' : Hp} (e : Ex H H') (d : D) (v : V) (h : Rp K H v d) : Rp K H' v d := rp_up e h
theorem dpa_ex {K : Fr0} {H H' : Hp} (e : Ex H H') (ds : List D) (vs : List V) (h : RpAll K H vs ds) : RpAll K H' vs ds := rpa_up e h
mutual
/-- without dicts it is what == looks at -/
theorem rp_dp {K : Fr0} {H : Hp} : ∀ (d : D) (v : V), d.canLay0 = true → Rp K H v d → Dp K.f H v d
  | .none, _, _, h => by cases h; exact .non
  | .bool b, _, _, h => by cases h; exact .bl b
  | .int i, _, _, h => by cases h; exact .int i
  | .str x, _, _, h => by cases h; exact .str x
  | .list ds, _, c, h => by
    cases h with
    | lst hs ha => exact .lst hs (rpa_dp ds _ (by simpa [PyData.canLay0] using c) ha)
  | .tuple ds, _, c, h => by
    cases h with
    | tup hs ha => exact .tup hs (rpa_dp ds _ (by simpa [PyData.canLay0] using c) ha)
  | .dict _, _, c, h => by simp [PyData.canLay0] at c
theorem rpa_dp {K : Fr0} {H : Hp} : ∀ (ds : List D) (vs : List V), PyData.canLayAll0 ds = true → RpAll K H vs ds → DpAll K.f H vs ds
  | [], _, _, h => by cases h; exact .nil
  | d :: ds, _, c, h => by
    have c' : d.canLay0 = true ∧ PyData.canLayAll0 ds = true := by simpa [PyData.canLayAll0] using c
    cases h with
    | cons h1 h2 => exact .cons (rp_dp d _ c'.1 h1) (rpa_dp ds _ c'.2 h2)
end
theorem dpa_len {K : Fr0} {H : Hp} : ∀ {vs : List V} {ds : List D}, RpAll K H vs ds → vs.length = ds.length
  | _, [], h => by cases h; rfl
  | _, _ :: _, h => by
    cases h with
    | cons _ h2 => simp [dpa_len h2]
theorem dpa_get {K : Fr0} {H : Hp} : ∀ {vs : List V} {ds : List D} {i : Nat} {v : V}, RpAll K H vs ds → vs[i]? = some v → ∃ d, ds[i]? = some d ∧ Rp K H v d
  | _, [], i, v, h, e => by cases h; simp at e
  | _, d :: ds, 0, v, h, e => by
    cases h with
    | cons h1 h2 =>
      simp at e
      subst e
      exact ⟨d, rfl, h1⟩
  | _, d :: ds, i + 1, v, h, e => by
    cases h with
    | cons h1 h2 =>
      obtain ⟨d', h3, h4⟩ := dpa_get (i := i) h2 (by simpa using e)
      exact ⟨d', by simpa using h3, h4⟩
theorem dpa_get' {K : Fr0} {H : Hp} {vs : List V} {ds : List D} {i : Nat} {d : D} (h : RpAll K H vs ds) (e : ds[i]? = some d) : ∃ v, vs[i]? = some v ∧ Rp K H v d := by
  have hl := dpa_len h
  obtain ⟨hi, _⟩ := List.getElem?_eq_some_iff.mp e
  have e2 : vs[i]? = some vs[i] := List.getElem?_eq_getElem (by omega)
  obtain ⟨d', h3, h4⟩ := dpa_get h e2
  rw [e] at h3
  cases h3
  exact ⟨_, e2, h4⟩
theorem dpa_app {K : Fr0} {H : Hp} : ∀ {vs ws : List V} {ds es : List D}, RpAll K H vs ds → RpAll K H ws es → RpAll K H (vs ++ ws) (ds ++ es)
  | _, _, [], _, h, g => by cases h; exact g
  | _, _, _ :: _, _, h, g => by
    cases h with
    | cons h1 h2 => exact .cons h1 (dpa_app h2 g)
theorem dpa_ints {K : Fr0} {H : Hp} : ∀ (ns : List Int), RpAll K H (ns.map V.int) (ns.map PyData.int)
  | [] => .nil
  | n :: ns => .cons (.int n) (dpa_ints ns)
/-- flat data is itself anywhere -/
theorem dpa_ints_eq {K : Fr0} {H : Hp} : ∀ {vs : List V} {ns : List Int}, RpAll K H vs (ns.map PyData.int) → vs = ns.map V.int
  | _, [], h => by cases h; rfl
  | _, n :: ns, h => by
    cases h with
    | cons h1 h2 =>
      cases h1
      rw [dpa_ints_eq h2]
      rfl
/-- what is the def's own, and still filled: a list; a dict (its keys tuples, or not); an object of the class at C -/
inductive Ow where
  | l (xs : List D)
  | d (kd : Bool) (ps : List (D × D))
  | o (p C : Addr) (ps : List (D × D))
  /-- a dict, and the list that stands under its last key, still filled -/
  | x (a0 : Addr) (ps : List (D × D)) (kd : D) (ds : List D)
instance : Coe (List D) Ow := ⟨.l⟩
def OwAt (K : Fr0) (H : Hp) (a : Addr) (u : HO) : Ow → Prop
  | .l xs => ∃ vs, u = .lst vs ∧ RpAll K H vs xs
  | .d true ps => ∃ o xs, u = NdO K.w a o xs ∧ RpN K H xs ps
  | .d false ps => ∃ o kvs, u = KdO K.w a o kvs ∧ RpKv K H kvs ps
  | .o p C ps => a = p ∧ ∃ dx fs, u = .ins C dx fs ∧ RpF K H fs ps
  | .x a0 ps kd _ => a ≠ a0 ∧ ∃ o xs k b, u = NdO K.w a o (xs ++ [(k, b, .ref a0)]) ∧ RpN K H xs ps ∧ (keyN kd = some k ∧ k.depth ≤ 8 ∧ ∃ es, kd = .tuple es) ∧ Rp K H (kV0 b) kd
/-- the list that stands in it -/
def Ow.lies (c : Ow) (a : Addr) : Prop := match c with
  | .x a0 _ _ _ => a = a0
  | _ => False
theorem OwAt.up {K : Fr0} {H H' : Hp} {a : Addr} {u : HO} (e : Ex H H') : ∀ {c : Ow}, OwAt K H a u c → OwAt K H' a u c
  | .l _, ⟨vs, h1, h2⟩ => ⟨vs, h1, rpa_up e h2⟩
  | .d true _, ⟨o, xs, h1, h2⟩ => ⟨o, xs, h1, rpn_up e h2⟩
  | .d false _, ⟨o, xs, h1, h2⟩ => ⟨o, xs, h1, rpk_up e h2⟩
  | .o _ _ _, ⟨h0, dx, fs, h1, h2⟩ => ⟨h0, dx, fs, h1, rpf_up e h2⟩
  | .x _ _ _ _, ⟨h0, o, xs, k, b, h1, h2, h3, h4⟩ => ⟨h0, o, xs, k, b, h1, rpn_up e h2, h3, rp_up e h4⟩
inductive Sl where
  | no
  /-- data, for good -/
  | d (x : D)
  /-- of the def's own, still filled -/
  | own (c : Ow)
  /-- the object of the draws -/
  | st
  /-- just this value -/
  | raw (v : V)
  /-- a caught exception: where it is, its dict, its attributes -/
  | exc (a : Addr) (d : Option Addr) (fl : List (D × D))
  /-- a caught error that is kept: its class, its attributes -/
  | err (C : Addr) (fl : List (D × D))
structure Rho where
  sl : List Sl
  /-- a bound of the draws that were made -/
  n : Nat
@[reducible] def Rho.set (ρ : Rho) (i : Nat) (s : Sl) : Rho := ⟨ρ.sl.set i s, ρ.n⟩
def NoTb (A : List Addr) (H : Hp) : Prop := ∀ a ∈ A, ∀ ps, H a ≠ some (.tbl ps)
theorem nt3 {H : Hp} {p c l : Addr} {kvs : List (Key × V)} {xs ys : List V} (h : H p = some (.dK kvs)) (h1 : H c = some (.lst xs)) (h2 : H l = some (.lst ys)) : NoTb [p, c, l] H := fun a ha ps z => by
  rcases List.mem_cons.mp ha with e | ha
  · rw [e, h] at z; cases z
  · rcases List.mem_cons.mp ha with e | ha
    · rw [e, h1] at z; cases z
    · rw [List.mem_singleton.mp ha, h2] at z; cases z
/-- the object of the draws: at p, by so many draws, over the addresses A -/
structure Mk0 where
  holds : Fr0 → Addr → Nat → List Addr → Hp → Prop
  loc : ∀ {K p n A H H'}, (∀ a ∈ A, ∀ o, H a = some o → H' a = some o) → holds K p n A H → holds K p n A H'
  le : ∀ {K p n m A H}, n ≤ m → holds K p n A H → holds K p m A H
  nt : ∀ {K p n A H}, holds K p n A H → NoTb A H
  /-- the tables of code objects of the makers of lambdas, and the names that they tell -/
  T : List Addr := []
  nm : Nat → Nat → Str := fun _ _ => ""
/-- a table: hidden, nobody's own, what it tells is seen -/
def TabR (F : Hp) (L : List Addr) (H : Hp) (nm : Nat → Nat → Str) (P : Addr) : Prop := F P = none ∧ P ∈ L ∧ ∃ ps : Array Value, H P = some (.tbl ps) ∧ TriplesOk ps.toList ∧ ∀ (pos : Pos) (cv : Value), codeAmong pos ps.toList = some cv → ∃ (c : Addr) (oc : Obj) (vs : Array Value) (t : Tok), cv = .ref c ∧ hide L H c = some (CeO 0 oc) ∧ oc.data = .fields vs ∧ vs[1]? = some (.str (nm pos.line pos.col) t)
def Tb (T : List Addr) (nm : Nat → Nat → Str) (F : Hp) (L : List Addr) (H : Hp) : Prop := ∀ t ∈ T, TabR F L H nm t
theorem Tb.moveC {T : List Addr} {nm : Nat → Nat → Str} {F F' : Hp} {L L' : List Addr} {H H' : Hp} (tb : Tb T nm F L H) (e : ∀ c o, hide L H c = some (CeO 0 o) → hide L' H' c = some (CeO 0 o)) (k : ∀ P ps, F P = none → P ∈ L → H P = some (.tbl ps) → F' P = none ∧ P ∈ L' ∧ H' P = some (.tbl ps)) : Tb T nm F' L' H' := fun t ht => by
  obtain ⟨h1, h2, ps, h3, h4, h5⟩ := tb t ht
  obtain ⟨k1, k2, k3⟩ := k t ps h1 h2 h3
  refine ⟨k1, k2, ps, k3, h4, fun pos cv hc => ?_⟩
  obtain ⟨c, oc, vs, t, e1, e2, e3⟩ := h5 pos cv hc
  exact ⟨c, oc, vs, t, e1, e _ _ e2, e3⟩
theorem Tb.move {T : List Addr} {nm : Nat → Nat → Str} {F F' : Hp} {L L' : List Addr} {H H' : Hp} (tb : Tb T nm F L H) (e : Ex (hide L H) (hide L' H')) (k : ∀ P ps, F P = none → P ∈ L → H P = some (.tbl ps) → F' P = none ∧ P ∈ L' ∧ H' P = some (.tbl ps)) : Tb T nm F' L' H' := tb.moveC (fun c o h => e _ _ h) k
theorem OwAt.notTbl {K : Fr0} {H : Hp} {a : Addr} {ps : Array Value} : ∀ {c : Ow}, ¬ OwAt K H a (.tbl ps) c
  | .l _, ⟨_, h, _⟩ => by cases h
  | .d true _, ⟨_, _, h, _⟩ => by unfold NdO at h; cases h
  | .d false _, ⟨_, _, h, _⟩ => by unfold KdO at h; cases h
  | .o _ _ _, ⟨_, _, _, h, _⟩ => by cases h
  | .x _ _ _ _, ⟨_, _, _, _, _, h, _⟩ => by unfold NdO at h; cases h
/-- an exception's attributes -/
def XAt (K : Fr0) (H : Hp) (d : Option Addr) (fl : List (D × D)) : Prop := (fl = [] ∧ d = none) ∨ ∃ dd fs, d = some dd ∧ H dd = some (.xd fs) ∧ RpF K H fs fl
theorem XAt.up {K : Fr0} {H H' : Hp} {d : Option Addr} {fl : List (D × D)} (e : Ex H H') (h : XAt K H d fl) : XAt K H' d fl := by
  rcases h with h | ⟨dd, fs, h1, h2, h3⟩
  · exact .inl h
  · exact .inr ⟨dd, fs, h1, e _ _ h2, rpf_up e h3⟩
/-- one slot -/
def SlOk (K : Fr0) (P : Option Addr) (L : List Addr) (H : Hp) : Sl → Option V → Prop
  | .no, _ => True
  | .d x, o => ∃ v, o = some v ∧ Rp K (hide L H) v x
  | .own c, o => ∃ l u, o = some (.ref l) ∧ l ∈ L ∧ H l = some u ∧ OwAt K (hide L H) l u c
  | .st, o => ∃ p, P = some p ∧ o = some (.ref p)
  | .raw v, o => o = some v
  | .exc a d fl, o => o = some (.ref a) ∧ XAt K (hide L H) d fl
  | .err C fl, o => ∃ (a : Addr) (oe : Obj) (d : Option Addr), o = some (.ref a) ∧ hide L H a = some (ErO a oe) ∧ (oe.cls = .ref C ∧ oe.dict = d) ∧ (∃ vs, oe.data = .fields vs) ∧ XAt K (hide L H) d fl
/-- what holds of a list that stands in a dict of one's own, and is filled -/
structure OpOk (K : Fr0) (P : Option Addr) (F : Hp) (L : List Addr) (ρ : Rho) (σ : L2.St) (H : Hp) (i : Nat) (a0 : Addr) (ds : List D) : Prop where
  pn : P = none
  inL : a0 ∈ L
  nf : F a0 = none
  con : ∃ vs, H a0 = some (.lst vs) ∧ RpAll K (hide L H) vs ds
  sep : ∀ (j : Nat) (xs : Ow) (l : Addr), ρ.sl[j]? = some (.own xs) → σ[j]? = some (some (.ref l)) → l ≠ a0
  one : ∀ (j : Nat) (a1 : Addr) (ps : List (D × D)) (kd : D) (es : List D), ρ.sl[j]? = some (.own (.x a1 ps kd es)) → j = i
structure R (K : Fr0) (M : Mk0) (P : Option Addr) (F : Hp) (L : List Addr) (ρ : Rho) (σ : L2.St) (H : Hp) : Prop where
  len : σ.length = ρ.sl.length
  sl : ∀ (i : Nat) (s : Sl) (o : Option V), ρ.sl[i]? = some s → σ[i]? = some o → SlOk K P L H s o
  fr : ∀ a o, F a = some o → H a = some o ∧ a ∈ L
  tr : ∀ a ∈ L, ∃ o, H a = some o
  apart : ∀ (i j : Nat) (xs ys : Ow) (l : Addr), i ≠ j → ρ.sl[i]? = some (.own xs) → ρ.sl[j]? = some (.own ys) → σ[i]? = some (some (.ref l)) → σ[j]? = some (some (.ref l)) → False
  ownF : ∀ (i : Nat) (xs : Ow) (l : Addr), ρ.sl[i]? = some (.own xs) → σ[i]? = some (some (.ref l)) → F l = none
  m : ∀ p, P = some p → ∃ A, M.holds K p ρ.n A H ∧ (∀ a ∈ A, a ∈ L ∧ F a = none) ∧ ∀ (i : Nat) (xs : Ow) (l : Addr), ρ.sl[i]? = some (.own xs) → σ[i]? = some (some (.ref l)) → l ∉ A
  tb : Tb M.T M.nm F L H
  op : ∀ (i : Nat) (a0 : Addr) (ps : List (D × D)) (kd : D) (ds : List D), ρ.sl[i]? = some (.own (.x a0 ps kd ds)) → OpOk K P F L ρ σ H i a0 ds
section
variable {K : Fr0} {M : Mk0} {P : Option Addr} {F : Hp} {L L' : List Addr} {ρ : Rho} {σ : L2.St} {H H' : Hp}
theorem SlOk.ex {s : Sl} {o : Option V} (e : Ex H H') (h : SlOk K P L H s o) : SlOk K P L H' s o := by
  cases s with
  | no => trivial
  | d x =>
    obtain ⟨v, h1, h2⟩ := h
    exact ⟨v, h1, dp_ex (hide_ex e) _ _ h2⟩
  | own xs =>
    obtain ⟨l, vs, h1, h2, h3, h4⟩ := h
    exact ⟨l, vs, h1, h2, e _ _ h3, h4.up (hide_ex e)⟩
  | st => exact h
  | raw v => exact h
  | exc a d fl => exact ⟨h.1, h.2.up (hide_ex e)⟩
  | err C fl =>
    obtain ⟨a, oe, d, h1, h2, h3, h4, h5⟩ := h
    exact ⟨a, oe, d, h1, hide_ex e _ _ h2, h3, h4, h5.up (hide_ex e)⟩
/-- everything that was tracked is as it was -/
theorem R.ex (r : R K M P F L ρ σ H) (e : Ex H H') : R K M P F L ρ σ H' where
  len := r.len
  sl := fun i s o h1 h2 => (r.sl i s o h1 h2).ex e
  fr := fun a o h => ⟨e _ _ (r.fr a o h).1, (r.fr a o h).2⟩
  tr := fun a h => let ⟨o, q⟩ := r.tr a h; ⟨o, e _ _ q⟩
  apart := r.apart
  ownF := r.ownF
  m := fun p h => by
    obtain ⟨A, h1, h2, h3⟩ := r.m p h
    exact ⟨A, M.loc (fun a _ o q => e _ _ q) h1, h2, h3⟩
  tb := r.tb.move (hide_ex e) fun P ps h1 h2 h3 => ⟨h1, h2, e _ _ h3⟩
  op := fun i a0 ps kd ds h => by
    obtain ⟨h1, h2, h3, ⟨vs, h4, h5⟩, h6, h7⟩ := r.op i a0 ps kd ds h
    exact ⟨h1, h2, h3, ⟨vs, e _ _ h4, dpa_ex (hide_ex e) _ _ h5⟩, h6, h7⟩
theorem R.get (r : R K M P F L ρ σ H) {i : Nat} {x : D} (h : ρ.sl[i]? = some (.d x)) : ∃ v, σ[i]? = some (some v) ∧ Rp K (hide L H) v x := by
  have hi : i < σ.length := by rw [r.len]; exact (List.getElem?_eq_some_iff.mp h).1
  obtain ⟨v, h1, h2⟩ := r.sl i _ _ h (List.getElem?_eq_getElem hi)
  exact ⟨v, by rw [List.getElem?_eq_getElem hi, h1], h2⟩
theorem R.getOwn (r : R K M P F L ρ σ H) {i : Nat} {xs : Ow} (h : ρ.sl[i]? = some (.own xs)) : ∃ l u, σ[i]? = some (some (.ref l)) ∧ l ∈ L ∧ H l = some u ∧ OwAt K (hide L H) l u xs := by
  have hi : i < σ.length := by rw [r.len]; exact (List.getElem?_eq_some_iff.mp h).1
  obtain ⟨l, vs, h1, h2⟩ := r.sl i _ _ h (List.getElem?_eq_getElem hi)
  exact ⟨l, vs, by rw [List.getElem?_eq_getElem hi, h1], h2⟩
theorem R.getSt (r : R K M P F L ρ σ H) {i : Nat} (h : ρ.sl[i]? = some .st) : ∃ p, P = some p ∧ σ[i]? = some (some (.ref p)) := by
  have hi : i < σ.length := by rw [r.len]; exact (List.getElem?_eq_some_iff.mp h).1
  obtain ⟨p, h1, h2⟩ := r.sl i _ _ h (List.getElem?_eq_getElem hi)
  exact ⟨p, h1, by rw [List.getElem?_eq_getElem hi, h2]⟩
/-- a slot gets data (or is forgotten) -/
theorem R.setD (r : R K M P F L ρ σ H) (i : Nat) (s : Sl) (o : Option V) (hs : SlOk K P L H s o) (ho : ∀ xs, s ≠ .own xs) : R K M P F L (ρ.set i s) (σ.set i o) H where
  len := by simp [r.len]
  sl := fun j t u h1 h2 => by
    by_cases e : j = i
    · subst e
      have hj : j < ρ.sl.length := by
        have := (List.getElem?_eq_some_iff.mp h1).1
        simpa using this
      rw [show (ρ.set j s).sl = ρ.sl.set j s from rfl, List.getElem?_set_self hj] at h1
      rw [List.getElem?_set_self (by rw [r.len]; exact hj)] at h2
      cases h1
      cases h2
      exact hs
    · rw [show (ρ.set i s).sl = ρ.sl.set i s from rfl, List.getElem?_set_ne (fun q => e q.symm)] at h1
      rw [List.getElem?_set_ne (fun q => e q.symm)] at h2
      exact r.sl j t u h1 h2
  fr := r.fr
  tr := r.tr
  apart := fun a b xs ys l hab h1 h2 h3 h4 => by
    have go : ∀ {c : Nat} {zs : Ow}, (ρ.set i s).sl[c]? = some (.own zs) → c ≠ i := fun {c zs} h q => by
      subst q
      have hc : c < ρ.sl.length := by
        have := (List.getElem?_eq_some_iff.mp h).1
        simpa using this
      rw [show (ρ.set c s).sl = ρ.sl.set c s from rfl, List.getElem?_set_self hc] at h
      cases h
      exact ho zs rfl
    have ha := go h1
    have hb := go h2
    rw [show (ρ.set i s).sl = ρ.sl.set i s from rfl, List.getElem?_set_ne (fun q => ha q.symm)] at h1
    rw [show (ρ.set i s).sl = ρ.sl.set i s from rfl, List.getElem?_set_ne (fun q => hb q.symm)] at h2
    rw [List.getElem?_set_ne (fun q => ha q.symm)] at h3
    rw [List.getElem?_set_ne (fun q => hb q.symm)] at h4
    exact r.apart a b xs ys l hab h1 h2 h3 h4
  ownF := fun c zs l h h3 => by
    have hc : c ≠ i := fun q => by
      subst q
      have hc : c < ρ.sl.length := by
        have := (List.getElem?_eq_some_iff.mp h).1
        simpa using this
      rw [show (ρ.set c s).sl = ρ.sl.set c s from rfl, List.getElem?_set_self hc] at h
      cases h
      exact ho zs rfl
    rw [show (ρ.set i s).sl = ρ.sl.set i s from rfl, List.getElem?_set_ne (fun q => hc q.symm)] at h
    rw [List.getElem?_set_ne (fun q => hc q.symm)] at h3
    exact r.ownF c zs l h h3
  m := fun p hp => by
    obtain ⟨A, h1, h2, h3⟩ := r.m p hp
    refine ⟨A, h1, h2, fun c zs l h h4 => ?_⟩
    have hc : c ≠ i := fun q => by
      subst q
      have hc : c < ρ.sl.length := by
        have := (List.getElem?_eq_some_iff.mp h).1
        simpa using this
      rw [show (ρ.set c s).sl = ρ.sl.set c s from rfl, List.getElem?_set_self hc] at h
      cases h
      exact ho zs rfl
    rw [show (ρ.set i s).sl = ρ.sl.set i s from rfl, List.getElem?_set_ne (fun q => hc q.symm)] at h
    rw [List.getElem?_set_ne (fun q => hc q.symm)] at h4
    exact h3 c zs l h h4
  tb := r.tb
  op := fun c a0 ps kd ds h => by
    have go : ∀ {c : Nat} {zs : Ow}, (ρ.set i s).sl[c]? = some (.own zs) → c ≠ i ∧ ρ.sl[c]? = some (.own zs) := fun {c zs} h => by
      have hc : c ≠ i := fun q => by
        subst q
        have hc : c < ρ.sl.length := by
          have := (List.getElem?_eq_some_iff.mp h).1
          simpa using this
        rw [show (ρ.set c s).sl = ρ.sl.set c s from rfl, List.getElem?_set_self hc] at h
        cases h
        exact ho zs rfl
      rw [show (ρ.set i s).sl = ρ.sl.set i s from rfl, List.getElem?_set_ne (fun q => hc q.symm)] at h
      exact ⟨hc, h⟩
    obtain ⟨h1, h2, h3, h4, h6, h7⟩ := r.op c a0 ps kd ds (go h).2
    refine ⟨h1, h2, h3, h4, fun j xs l h8 h9 => ?_, fun j a1 ps kd es h8 => h7 j a1 ps kd es (go h8).2⟩
    rw [List.getElem?_set_ne (fun q => (go h8).1 q.symm)] at h9
    exact h6 j xs l (go h8).2 h9
end
end PD
namespace PD
open PySem L2
open Evl (Ex)
section
variable {K : Fr0} {M : Mk0} {P : Option Addr} {F : Hp} {L L' : List Addr} {ρ : Rho} {σ : L2.St} {H H' : Hp}
def Own (ρ : Rho) (σ : L2.St) (a : Addr) : Prop := ∃ (i : Nat) (xs : Ow), ρ.sl[i]? = some (Sl.own xs) ∧ (σ[i]? = some (some (V.ref a)) ∨ xs.lies a)
theorem lies_x {c : Ow} {a : Addr} (h : c.lies a) : ∃ ps kd ds, c = .x a ps kd ds := by
  cases c with
  | x a0 ps kd ds => cases h; exact ⟨ps, kd, ds, rfl⟩
  | _ => exact h.elim
open Classical in
/-- what a callee must leave as it is, besides what is told by Ex -/
noncomputable def keepF (ρ : Rho) (σ : L2.St) (F H : Hp) : Hp := fun a => if Own ρ σ a then H a else F a
theorem keepF_own {a : Addr} (h : Own ρ σ a) : keepF ρ σ F H a = H a := by unfold keepF; rw [if_pos h]
theorem keepF_not {a : Addr} (h : ¬ Own ρ σ a) : keepF ρ σ F H a = F a := by unfold keepF; rw [if_neg h]
/-- slots without lists of one's own -/
def Bare (ρ : Rho) : Prop := ∀ (i : Nat) (xs : Ow), ρ.sl[i]? ≠ some (.own xs)
theorem R.notOwnT (r : R K M P F L ρ σ H) {a : Addr} {ps : Array Value} (h : H a = some (.tbl ps)) : ¬ Own ρ σ a := fun ⟨i, xs, h1, h2⟩ => by
  rcases h2 with h2 | h2
  rotate_left
  · obtain ⟨ps', kd, ds, rfl⟩ := lies_x h2
    obtain ⟨vs, e, _⟩ := (r.op i _ _ _ _ h1).con
    rw [h] at e
    cases e
  obtain ⟨l, u, g1, _, g3, g4⟩ := r.getOwn h1
  rw [h2] at g1
  cases g1
  rw [h] at g3
  cases g3
  exact OwAt.notTbl g4
theorem R.frame (r : R K M P F L ρ σ H) {ρc : Rho} {σc : L2.St} (hb : Bare ρc) (hn : ρc.n = ρ.n) (hl : σc.length = ρc.sl.length)
    (hs : ∀ (i : Nat) (s : Sl) (o : Option V), ρc.sl[i]? = some s → σc[i]? = some o → SlOk K P L H s o) : R K M P (keepF ρ σ F H) L ρc σc H where
  len := hl
  sl := hs
  fr := fun a o h => by
    by_cases ho : Own ρ σ a
    · rw [keepF_own ho] at h
      obtain ⟨i, xs, h1, h2⟩ := ho
      rcases h2 with h2 | h2
      · obtain ⟨l, vs, h3, h4, _⟩ := r.getOwn h1
        rw [h2] at h3
        cases h3
        exact ⟨h, h4⟩
      · obtain ⟨ps', kd, ds, rfl⟩ := lies_x h2
        exact ⟨h, (r.op i _ _ _ _ h1).inL⟩
    · rw [keepF_not ho] at h
      exact r.fr a o h
  tr := r.tr
  apart := fun i j xs ys l _ h => absurd h (hb i xs)
  ownF := fun i xs l h => absurd h (hb i xs)
  m := fun p hp => by
    obtain ⟨A, h1, h2, h3⟩ := r.m p hp
    refine ⟨A, by rw [hn]; exact h1, fun a ha => ⟨(h2 a ha).1, ?_⟩, fun i xs l h => absurd h (hb i xs)⟩
    have hno : ¬ Own ρ σ a := fun ⟨i, xs, h4, h5⟩ => by
      rcases h5 with h5 | h5
      · exact h3 i xs a h4 h5 ha
      · obtain ⟨ps', kd, ds, rfl⟩ := lies_x h5
        have := (r.op i _ _ _ _ h4).pn
        rw [hp] at this
        cases this
    rw [keepF_not hno]
    exact (h2 a ha).2
  tb := r.tb.move (Ex.refl _) fun P ps h1 h2 h3 => ⟨by rw [keepF_not (r.notOwnT h3)]; exact h1, h2, h3⟩
  op := fun i a0 ps kd ds h => absurd h (hb i _)
theorem R.back (r : R K M P F L ρ σ H) {ρc : Rho} {σc : L2.St} (r' : R K M P (keepF ρ σ F H) L' ρc σc H') (e : Ex (hide L H) (hide L' H')) : R K M P F L' ⟨ρ.sl, ρc.n⟩ σ H' where
  len := r.len
  sl := fun i s o h1 h2 => by
    have q := r.sl i s o h1 h2
    cases s with
    | no => trivial
    | d x =>
      obtain ⟨v, h3, h4⟩ := q
      exact ⟨v, h3, dp_ex e _ _ h4⟩
    | own xs =>
      obtain ⟨l, vs, h3, h4, h5, h6⟩ := q
      have ho : Own ρ σ l := ⟨i, xs, h1, .inl (by rw [h2, h3])⟩
      have hf := r'.fr l vs (by rw [keepF_own ho]; exact h5)
      exact ⟨l, vs, h3, hf.2, hf.1, h6.up e⟩
    | st => exact q
    | raw v => exact q
    | exc a d fl => exact ⟨q.1, q.2.up e⟩
    | err C fl =>
      obtain ⟨a0, oe, d, y1, y2, y3, y4, y5⟩ := q
      exact ⟨a0, oe, d, y1, e _ _ y2, y3, y4, y5.up e⟩
  fr := fun a o h => by
    have hno : ¬ Own ρ σ a := fun ⟨i, xs, h4, h5⟩ => by
      rcases h5 with h5 | h5
      · have := r.ownF i xs a h4 h5
        rw [h] at this
        cases this
      · obtain ⟨ps', kd, ds, rfl⟩ := lies_x h5
        have := (r.op i _ _ _ _ h4).nf
        rw [h] at this
        cases this
    exact r'.fr a o (by rw [keepF_not hno]; exact h)
  tr := r'.tr
  apart := r.apart
  ownF := r.ownF
  m := fun p hp => by
    obtain ⟨A, h1, h2, h3⟩ := r'.m p hp
    have hA : ∀ a ∈ A, ¬ Own ρ σ a := fun a ha ho => by
      have q := (h2 a ha).2
      rw [keepF_own ho] at q
      obtain ⟨i, xs, h4, h5⟩ := ho
      rcases h5 with h5 | h5
      · obtain ⟨l, vs, h6, _, h8, _⟩ := r.getOwn h4
        rw [h5] at h6
        cases h6
        rw [h8] at q
        cases q
      · obtain ⟨ps', kd, ds, rfl⟩ := lies_x h5
        have := (r.op i _ _ _ _ h4).pn
        rw [hp] at this
        cases this
    refine ⟨A, h1, fun a ha => ⟨(h2 a ha).1, ?_⟩, fun i xs l h4 h5 hl => hA l hl ⟨i, xs, h4, .inl h5⟩⟩
    have q := (h2 a ha).2
    rw [keepF_not (hA a ha)] at q
    exact q
  tb := r'.tb.move (Ex.refl _) fun P ps h1 h2 h3 => by
    refine ⟨?_, h2, h3⟩
    cases z : F P with
    | none => rfl
    | some o =>
      have hno : ¬ Own ρ σ P := fun ⟨i, xs, h4, h5⟩ => by
        rcases h5 with h5 | h5
        · have := r.ownF i xs P h4 h5
          rw [z] at this
          cases this
        · obtain ⟨ps', kd, ds, rfl⟩ := lies_x h5
          have := (r.op i _ _ _ _ h4).nf
          rw [z] at this
          cases this
      rw [keepF_not hno, z] at h1
      cases h1
  op := fun i a0 ps kd ds h => by
    obtain ⟨h1, h2, h3, ⟨vs, h4, h5⟩, h6, h7⟩ := r.op i a0 ps kd ds h
    have ho : Own ρ σ a0 := ⟨i, _, h, .inr rfl⟩
    have hf := r'.fr a0 _ (by rw [keepF_own ho]; exact h4)
    exact ⟨h1, hf.2, h3, ⟨vs, hf.1, dpa_ex e _ _ h5⟩, h6, h7⟩
/-- a new object is laid -/
theorem R.laid (r : R K M P F L ρ σ H) {p : Addr} {o : HO} (hp : H p = none) : R K M P F L ρ σ (upd H p o) := r.ex (Ex.new hp)
theorem R.notL (r : R K M P F L ρ σ H) {p : Addr} (hp : H p = none) : p ∉ L := fun z => by
  obtain ⟨o, q⟩ := r.tr p z
  rw [hp] at q
  cases q
/-- an address is hidden that nobody speaks of -/
theorem R.hideMore (r : R K M P F L ρ σ H) {p : Addr} (hp : H p = none) {o : HO} : R K M P F (p :: L) ρ σ (upd H p o) where
  len := r.len
  sl := fun i s u h1 h2 => by
    have q := r.sl i s u h1 h2
    have hne : Ex (hide L H) (hide (p :: L) (upd H p o)) := fun a b hb => by
      obtain ⟨h3, h4⟩ := hide_some.mp hb
      have n : a ≠ p := ne_of_none h4 hp
      exact hide_some.mpr ⟨fun z => by
        rcases List.mem_cons.mp z with z | z
        · exact n z
        · exact h3 z, by rw [upd_ne n]; exact h4⟩
    cases s with
    | no => trivial
    | d x =>
      obtain ⟨v, h3, h4⟩ := q
      exact ⟨v, h3, dp_ex hne _ _ h4⟩
    | own xs =>
      obtain ⟨l, vs, h3, h4, h5, h6⟩ := q
      exact ⟨l, vs, h3, List.mem_cons_of_mem _ h4, by rw [upd_ne (ne_of_none h5 hp)]; exact h5, h6.up hne⟩
    | st => exact q
    | raw v => exact q
    | exc a d fl => exact ⟨q.1, q.2.up hne⟩
    | err C fl =>
      obtain ⟨a0, oe, d, y1, y2, y3, y4, y5⟩ := q
      exact ⟨a0, oe, d, y1, hne _ _ y2, y3, y4, y5.up hne⟩
  fr := fun a b h => by
    have q := r.fr a b h
    exact ⟨by rw [upd_ne (ne_of_none q.1 hp)]; exact q.1, List.mem_cons_of_mem _ q.2⟩
  tr := fun a h => by
    rcases List.mem_cons.mp h with z | z
    · subst z
      exact ⟨o, upd_same⟩
    · obtain ⟨b, q⟩ := r.tr a z
      exact ⟨b, by rw [upd_ne (ne_of_none q hp)]; exact q⟩
  apart := r.apart
  ownF := r.ownF
  m := fun q hq => by
    obtain ⟨A, h1, h2, h3⟩ := r.m q hq
    exact ⟨A, M.loc (fun a ha b hb => by rw [upd_ne (ne_of_none hb hp)]; exact hb) h1, fun a ha => ⟨List.mem_cons_of_mem _ (h2 a ha).1, (h2 a ha).2⟩, h3⟩
  tb := r.tb.move (fun a b hb => by
    obtain ⟨h3, h4⟩ := hide_some.mp hb
    have n : a ≠ p := ne_of_none h4 hp
    exact hide_some.mpr ⟨fun z => (List.mem_cons.mp z).elim n h3, by rw [upd_ne n]; exact h4⟩) fun P ps h1 h2 h3 => ⟨h1, List.mem_cons_of_mem _ h2, by rw [upd_ne (ne_of_none h3 hp)]; exact h3⟩
  op := fun i a0 ps kd ds h => by
    obtain ⟨h1, h2, h3, ⟨vs, h4, h5⟩, h6, h7⟩ := r.op i a0 ps kd ds h
    have hne : Ex (hide L H) (hide (p :: L) (upd H p o)) := fun a b hb => by
      obtain ⟨h3, h4⟩ := hide_some.mp hb
      have n : a ≠ p := ne_of_none h4 hp
      exact hide_some.mpr ⟨fun z => (List.mem_cons.mp z).elim n h3, by rw [upd_ne n]; exact h4⟩
    exact ⟨h1, List.mem_cons_of_mem _ h2, h3, ⟨vs, by rw [upd_ne (ne_of_none h4 hp)]; exact h4, dpa_ex hne _ _ h5⟩, h6, h7⟩
end
abbrev KD := D → Rho → Prop
abbrev FE := Rho → KD → Prop
abbrev FT := Rho → (Bool → Rho → Prop) → Prop
abbrev FA := Rho → (List Sl → Rho → Prop) → Prop
def KV' (K : Fr0) (M : Mk0) (P : Option Addr) (F : Hp) (L : List Addr) (σ : L2.St) (H : Hp) (Q : VK) : KD := fun d ρ' => ∀ v L' H', Ex (hide L H) (hide L' H') → R K M P F L' ρ' σ H' → Rp K (hide L' H') v d → Q v H'
def DE (K : Fr0) (M : Mk0) (f : FE) : TE := fun σ H Q => ∃ P F L ρ, R K M P F L ρ σ H ∧ f ρ (KV' K M P F L σ H Q)
def DT (K : Fr0) (M : Mk0) (f : FT) : TT := fun σ H Q => ∃ P F L ρ, R K M P F L ρ σ H ∧ f ρ fun b ρ' => ∀ L' H', Ex (hide L H) (hide L' H') → R K M P F L' ρ' σ H' → Q b H'
def DA (K : Fr0) (M : Mk0) (f : FA) : TA := fun σ H Q => ∃ P F L ρ, R K M P F L ρ σ H ∧ f ρ fun ss ρ' => ∀ vs L' H', Ex (hide L H) (hide L' H') → R K M P F L' ρ' σ H' → vs.length = ss.length →
  (∀ (i : Nat) (s : Sl) (v : V), ss[i]? = some s → vs[i]? = some v → SlOk K P L' H' s (some v)) → (∀ (i : Nat) (xs : Ow), ss[i]? ≠ some (.own xs)) → Q vs H'
/-- a new list, hidden as yet -/
abbrev FN := Rho → (List D → Rho → Prop) → Prop
structure Post where
  nx : Rho → Prop
  rt : D → Rho → Prop
  bk : Rho → Prop := fun _ => False
  ct : Rho → Prop := fun _ => False
structure Post.Le (p q : Post) : Prop where
  nx : ∀ ρ, p.nx ρ → q.nx ρ
  rt : ∀ d ρ, p.rt d ρ → q.rt d ρ
  bk : ∀ ρ, p.bk ρ → q.bk ρ
  ct : ∀ ρ, p.ct ρ → q.ct ρ
abbrev FS := Rho → Post → Prop
def postOf (K : Fr0) (M : Mk0) (P : Option Addr) (F : Hp) (L : List Addr) (H : Hp) (D : Ends) : Post where
  nx := fun ρ' => ∀ σ' L' H', Ex (hide L H) (hide L' H') → R K M P F L' ρ' σ' H' → D.nx σ' H'
  rt := fun d ρ' => ∀ v σ' L' H', Ex (hide L H) (hide L' H') → R K M P F L' ρ' σ' H' → Rp K (hide L' H') v d → D.rt v H'
  bk := fun ρ' => ∀ σ' L' H', Ex (hide L H) (hide L' H') → R K M P F L' ρ' σ' H' → D.bk σ' H'
  ct := fun ρ' => ∀ σ' L' H', Ex (hide L H) (hide L' H') → R K M P F L' ρ' σ' H' → D.ct σ' H'
def DS (K : Fr0) (M : Mk0) (f : FS) : TS := fun D σ H => ∃ P F L ρ, R K M P F L ρ σ H ∧ f ρ (postOf K M P F L H D)
/-- assignment to a target, of data -/
abbrev FG := D → Rho → (Rho → Prop) → Prop
structure PD (X : Cx) (M : Mk0) (e : Expr) (f : FE) : Prop where
  pe : PE X e (DE X.k0 M f)
  mono : ∀ ρ k k', (∀ d ρ', k d ρ' → k' d ρ') → f ρ k → f ρ k'
structure PDT (X : Cx) (M : Mk0) (e : Expr) (f : FT) : Prop where
  pt : PT X e (DT X.k0 M f)
  mono : ∀ ρ k k', (∀ d ρ', k d ρ' → k' d ρ') → f ρ k → f ρ k'
structure PDA (X : Cx) (M : Mk0) (es : List Expr) (f : FA) : Prop where
  pa : PA X es (DA X.k0 M f)
  mono : ∀ ρ k k', (∀ d ρ', k d ρ' → k' d ρ') → f ρ k → f ρ k'
structure PDS (X : Cx) (M : Mk0) (st : Stmt) (f : FS) : Prop where
  ps : PS X st (DS X.k0 M f)
  mono : ∀ ρ k k', Post.Le k k' → f ρ k → f ρ k'
structure PDs (X : Cx) (M : Mk0) (st : List Stmt) (f : FS) : Prop where
  ps : PSs X st (DS X.k0 M f)
  mono : ∀ ρ k k', Post.Le k k' → f ρ k → f ρ k'
section
variable {X : Cx} {M : Mk0} {a b c e : Expr} {es : List Expr} {fa fb fc : FE} {pos : Pos}
theorem PE.wk {t t' : TE} (h : PE X e t) (w : ∀ σ H Q, t' σ H Q → t σ H Q) : PE X e t' := ⟨fun pins s σ H Q I q => h.run pins s σ H Q I (w σ H Q q)⟩
theorem PT.wk {t t' : TT} (h : PT X e t) (w : ∀ σ H Q, t' σ H Q → t σ H Q) : PT X e t' := ⟨fun pins s σ H Q I q => h.run pins s σ H Q I (w σ H Q q)⟩
theorem PA.wk {t t' : TA} (h : PA X es t) (w : ∀ σ H Q, t' σ H Q → t σ H Q) : PA X es t' := ⟨fun pos pins s σ H Q I q => h.run pos pins s σ H Q I (w σ H Q q)⟩
theorem PS.wk {st : Stmt} {t t' : TS} (h : PS X st t) (w : ∀ D σ H, t' D σ H → t D σ H) : PS X st t' := ⟨fun pins s σ H D I q => h.run pins s σ H D I (w D σ H q)⟩
theorem PSs.wk {st : List Stmt} {t t' : TS} (h : PSs X st t) (w : ∀ D σ H, t' D σ H → t D σ H) : PSs X st t' := ⟨fun pins s σ H D I q => h.run pins s σ H D I (w D σ H q)⟩
theorem PG.wk {t t' : TG} (h : PG X e t) (w : ∀ v σ H Q, t' v σ H Q → t v σ H Q) : PG X e t' := ⟨fun pins s σ H v u Q I r q => h.run pins s σ H v u Q I r (w v σ H Q q)⟩
def fVar (i : Nat) : FE := fun ρ k => ∃ x, ρ.sl[i]? = some (.d x) ∧ k x ρ
theorem pd_var {i : Nat} {x : Str} (h : PE X (.Name x pos) (tVar i)) : PD X M (.Name x pos) (fVar i) := by
  refine ⟨PE.wk h fun σ H Q ⟨P, F, L, ρ, r, x, hx, k⟩ => ?_, fun ρ k k' h ⟨x, h1, h2⟩ => ⟨x, h1, h _ _ h2⟩⟩
  obtain ⟨v, h1, h2⟩ := r.get hx
  exact ⟨v, h1, k v L H (Ex.refl _) r h2⟩
def fC (d : D) : FE := fun ρ k => k d ρ
theorem pd_const {v : V} {d : D} (h : PE X e (tC v)) (hd : ∀ H, Rp X.k0 H v d) : PD X M e (fC d) := by
  refine ⟨PE.wk h fun σ H Q ⟨P, F, L, ρ, r, k⟩ => ?_, fun ρ k k' h h2 => h _ _ h2⟩
  exact k v L H (Ex.refl _) r (hd _)
theorem pd_int {i : Int} {j : Nat} : PD X M (.Constant (.int i) j pos) (fC (.int i)) := pd_const pe_int fun _ => .int i
theorem pd_bl {b : Bool} {j : Nat} : PD X M (.Constant (.bool b) j pos) (fC (.bool b)) := pd_const pe_bl fun _ => .bl b
theorem pd_non {j : Nat} : PD X M (.Constant .none j pos) (fC .none) := pd_const pe_non fun _ => .non
theorem pd_str {x : Str} {j : Nat} : PD X M (.Constant (.str x) j pos) (fC (.str x)) := pd_const pe_str fun _ => .str x
/-- a two-place operation, by data -/
def R2D (K : Fr0) (r : R2) (g : D → D → Option D) : Prop := ∀ (L : List Addr) (H : Hp) (x y : V) (dx dy d : D) (Q : VK), (∀ a ∈ L, ∃ o, H a = some o) → Rp K (hide L H) x dx → Rp K (hide L H) y dy → g dx dy = some d →
  (∀ v H', Ex H H' → Rp K (hide L H') v d → Q v H') → r x y H Q
def fOp (g : D → D → Option D) (fa fb : FE) : FE := fun ρ k => fa ρ fun x ρ1 => fb ρ1 fun y ρ2 => ∃ d, g x y = some d ∧ k d ρ2
theorem dOp {r : R2} {g : D → D → Option D} (hg : R2D X.k0 r g) (ma : ∀ ρ k k', (∀ d ρ', k d ρ' → k' d ρ') → fa ρ k → fa ρ k') (mb : ∀ ρ k k', (∀ d ρ', k d ρ' → k' d ρ') → fb ρ k → fb ρ k')
    (σ : L2.St) (H : Hp) (Q : VK) (h : DE X.k0 M (fOp g fa fb) σ H Q) : tOp r (DE X.k0 M fa) (DE X.k0 M fb) σ H Q := by
  obtain ⟨P, F, L, ρ, r0, k⟩ := h
  refine ⟨P, F, L, ρ, r0, ma _ _ _ (fun x ρ1 q v L1 H1 e1 r1 d1 => ?_) k⟩
  refine ⟨P, F, L1, ρ1, r1, mb _ _ _ (fun y ρ2 ⟨d, hd, q2⟩ u L2 H2 e2 r2 d2 => ?_) q⟩
  exact hg L2 H2 v u x y d Q r2.tr (dp_ex e2 _ _ d1) d2 hd fun w H3 e3 d3 => q2 w L2 H3 ((e1.trans e2).trans (hide_ex e3)) (r2.ex e3) d3
theorem fOp_mono {g : D → D → Option D} (ma : ∀ ρ k k', (∀ d ρ', k d ρ' → k' d ρ') → fa ρ k → fa ρ k') (mb : ∀ ρ k k', (∀ d ρ', k d ρ' → k' d ρ') → fb ρ k → fb ρ k') (ρ : Rho) (k k' : KD)
    (h : ∀ d ρ', k d ρ' → k' d ρ') (q : fOp g fa fb ρ k) : fOp g fa fb ρ k' := ma _ _ _ (fun x ρ1 q => mb _ _ _ (fun y ρ2 ⟨d, h1, h2⟩ => ⟨d, h1, h _ _ h2⟩) q) q
theorem pd_op {op : Operator} {r : R2} {g : D → D → Option D} (ho : OpR X (binaryOp op) r) (hg : R2D X.k0 r g) (ha : PD X M a fa) (hb : PD X M b fb) : PD X M (.BinOp a op b pos) (fOp g fa fb) :=
  ⟨PE.wk (pe_op ho ha.pe hb.pe) (dOp hg ha.mono hb.mono), fOp_mono ha.mono hb.mono⟩
theorem pd_cmp {op : CmpOp} {r : R2} {g : D → D → Option D} (ho : OpR X (compareOp op) r) (hg : R2D X.k0 r g) (ha : PD X M a fa) (hb : PD X M b fb) (hm : behindInMarks op b = false) : PD X M (.Compare a [op] [b] pos) (fOp g fa fb) :=
  ⟨PE.wk (pe_cmpR ho ha.pe hb.pe hm) (dOp hg ha.mono hb.mono), fOp_mono ha.mono hb.mono⟩
theorem pd_ix {r : R2} {g : D → D → Option D} (ho : IxR X r) (hg : R2D X.k0 r g) (ha : PD X M a fa) (hb : PD X M b fb) (hs : PlainIx b) : PD X M (.Subscript a b pos) (fOp g fa fb) :=
  ⟨PE.wk (pe_ix ho ha.pe hb.pe hs) (dOp hg ha.mono hb.mono), fOp_mono ha.mono hb.mono⟩
def R1D (K : Fr0) (r : V → Hp → VK → Prop) (g : D → Option D) : Prop := ∀ (L : List Addr) (H : Hp) (x : V) (dx d : D) (Q : VK), (∀ a ∈ L, ∃ o, H a = some o) → Rp K (hide L H) x dx → g dx = some d →
  (∀ v H', Ex H H' → Rp K (hide L H') v d → Q v H') → r x H Q
def fUn (g : D → Option D) (fa : FE) : FE := fun ρ k => fa ρ fun x ρ1 => ∃ d, g x = some d ∧ k d ρ1
theorem fUn_mono {g : D → Option D} (ma : ∀ ρ k k', (∀ d ρ', k d ρ' → k' d ρ') → fa ρ k → fa ρ k') (ρ : Rho) (k k' : KD) (h : ∀ d ρ', k d ρ' → k' d ρ') (q : fUn g fa ρ k) : fUn g fa ρ k' :=
  ma _ _ _ (fun x ρ1 ⟨d, h1, h2⟩ => ⟨d, h1, h _ _ h2⟩) q
theorem dUn {r : V → Hp → VK → Prop} {g : D → Option D} (hg : R1D X.k0 r g) (ma : ∀ ρ k k', (∀ d ρ', k d ρ' → k' d ρ') → fa ρ k → fa ρ k')
    (σ : L2.St) (H : Hp) (Q : VK) (h : DE X.k0 M (fUn g fa) σ H Q) : DE X.k0 M fa σ H fun x H1 => r x H1 Q := by
  obtain ⟨P, F, L, ρ, r0, k⟩ := h
  refine ⟨P, F, L, ρ, r0, ma _ _ _ (fun x ρ1 ⟨d, hd, q2⟩ v L1 H1 e1 r1 d1 => ?_) k⟩
  exact hg L1 H1 v x d Q r1.tr d1 hd fun w H3 e3 d3 => q2 w L1 H3 (e1.trans (hide_ex e3)) (r1.ex e3) d3
theorem pd_un {op : UnaryOp} {r : V → Hp → VK → Prop} {g : D → Option D} (ho : UnR X (unaryOp op) r) (hg : R1D X.k0 r g) (ha : PD X M a fa) : PD X M (.UnaryOp op a pos) (fUn g fa) :=
  ⟨PE.wk (pe_un ho ha.pe) (dUn hg ha.mono), fUn_mono ha.mono⟩
/-- a built-in of one argument -/
theorem pd_b1 {x : Str} {p : Pos} {id : String} {r : List V → Hp → VK → Prop} {g : D → Option D} (hc : CallR X (.builtin id) r) (hg' : R1D X.k0 (fun x => r [x]) g) (hg : Gl X x) (hm : X.mg x = none) (hv : bootBuiltins x = some (.builtin id)) (ha : PD X M a fa)
    (hn : x ≠ "__name__" := by decide) (hdb : (x == ("__debug__" : Str)) = false := by decide) (hs : starEach [a] X.env = (false, eval a X.env) :: starEach [] X.env := by rfl) :
    PD X M (.Call (.Name x p) [a] [] pos) (fUn g fa) := by
  refine ⟨PE.wk (pe_callB hc hg hm hv (pa_cons ha.pe pa_nil hs) hn hdb hs) fun σ H Q h => ?_, fUn_mono ha.mono⟩
  exact dUn (r := fun x => r [x]) hg' ha.mono σ H Q h
/-- a built-in of two arguments -/
theorem pd_b2 {x : Str} {p : Pos} {id : String} {r : List V → Hp → VK → Prop} {g : D → D → Option D} (hc : CallR X (.builtin id) r) (hg' : R2D X.k0 (fun x y => r [x, y]) g) (hg : Gl X x) (hm : X.mg x = none) (hv : bootBuiltins x = some (.builtin id)) (ha : PD X M a fa) (hb : PD X M b fb)
    (hn : x ≠ "__name__" := by decide) (hdb : (x == ("__debug__" : Str)) = false := by decide) (hs : starEach [a, b] X.env = (false, eval a X.env) :: starEach [b] X.env := by rfl) (hs2 : starEach [b] X.env = (false, eval b X.env) :: starEach [] X.env := by rfl)
    (hpl : (backTo pos (starEach [b] X.env)).any (·.1) = false := by rfl) :
    PD X M (.Call (.Name x p) [a, b] [] pos) (fOp g fa fb) := by
  refine ⟨PE.wk (pe_callB hc hg hm hv (pa_cons ha.pe (pa_cons hb.pe pa_nil hs2) hs) hn hdb hs hpl) fun σ H Q h => ?_, fOp_mono ha.mono hb.mono⟩
  exact dOp (r := fun x y => r [x, y]) hg' ha.mono hb.mono σ H Q h
end
end PD
namespace PD
open PySem L2
open Evl (Ex)
mutual
theorem dpm {K : Fr0} {H H' : Hp} (e : Ex H H') : ∀ (d : D) (v : V), Dp K.f H v d → Dp K.f H' v d
  | .none, _, h => by cases h; exact .non
  | .bool b, _, h => by cases h; exact .bl b
  | .int i, _, h => by cases h; exact .int i
  | .str x, _, h => by cases h; exact .str x
  | .list ds, _, h => by
    cases h with
    | lst hs ha => exact .lst (Evl.ex_l e hs) (dpma e ds _ ha)
  | .tuple ds, _, h => by
    cases h with
    | tup hs ha => exact .tup (Evl.ex_t e hs) (dpma e ds _ ha)
  | .dict _, _, h => by cases h
theorem dpma {K : Fr0} {H H' : Hp} (e : Ex H H') : ∀ (ds : List D) (vs : List V), DpAll K.f H vs ds → DpAll K.f H' vs ds
  | [], _, h => by cases h; exact .nil
  | d :: ds, _, h => by
    cases h with
    | cons h1 h2 => exact .cons (dpm e d _ h1) (dpma e ds _ h2)
end
section
variable {K : Fr0} {L : List Addr} {H : Hp} {p : Addr} {vs : List V} {ds : List D}
theorem hide_new {o : HO} (tr : ∀ a ∈ L, ∃ o, H a = some o) (hp : H p = none) : hide L (upd H p o) p = some o := by
  refine hide_some.mpr ⟨fun z => ?_, upd_same⟩
  obtain ⟨o, q⟩ := tr p z
  rw [hp] at q
  cases q
theorem new_lst (tr : ∀ a ∈ L, ∃ o, H a = some o) (hp : H p = none) (h : RpAll K (hide L H) vs ds) : Rp K (hide L (upd H p (.lst vs))) (.ref p) (.list ds) :=
  .lst (.inl (.inl (hide_new tr hp))) (dpa_ex (hide_ex (Ex.new hp)) _ _ h)
theorem new_tup (tr : ∀ a ∈ L, ∃ o, H a = some o) (hp : H p = none) (h : RpAll K (hide L H) vs ds) : Rp K (hide L (upd H p (.tup vs))) (.ref p) (.tuple ds) :=
  .tup (.inl (.inl (hide_new tr hp))) (dpa_ex (hide_ex (Ex.new hp)) _ _ h)
theorem sqt_le (h : SqT K.f (hide L H) p vs) : SqT K.f H p vs := Evl.ex_t (hide_le L H) h
theorem sql_le (h : SqL K.f (hide L H) p vs) : SqL K.f H p vs := Evl.ex_l (hide_le L H) h
theorem rp_list {v : V} (h : Rp K (hide L H) v (.list ds)) : ∃ a xs, v = .ref a ∧ SqL K.f H a xs ∧ RpAll K (hide L H) xs ds := by
  cases h with
  | lst h1 h2 => exact ⟨_, _, rfl, sql_le h1, h2⟩
theorem rp_tuple {v : V} (h : Rp K (hide L H) v (.tuple ds)) : ∃ a xs, v = .ref a ∧ SqT K.f H a xs ∧ RpAll K (hide L H) xs ds := by
  cases h with
  | tup h1 h2 => exact ⟨_, _, rfl, sqt_le h1, h2⟩
theorem rp_int {v : V} {i : Int} (h : Rp K H v (.int i)) : v = .int i := by cases h; rfl
theorem rp_bool {v : V} {i : Bool} (h : Rp K H v (.bool i)) : v = .bl i := by cases h; rfl
theorem rp_str {v : V} {i : Str} (h : Rp K H v (.str i)) : v = .str i := by cases h; rfl
end
theorem dp_le {K : Fr0} {L : List Addr} {H : Hp} {v : V} {d : D} (h : Dp K.f (hide L H) v d) : Dp K.f H v d := by
  exact dpm (hide_le L H) d v h
def gAdd : D → D → Option D
  | .int i, .int j => some (.int (i + j))
  | .str x, .str y => if x.length + y.length ≤ sizeLine then some (.str (x ++ y)) else none
  | .tuple xs, .tuple ys => if xs.length + ys.length ≤ sizeLine then some (.tuple (xs ++ ys)) else none
  | .list xs, .list ys => if xs.length + ys.length ≤ sizeLine then some (.list (xs ++ ys)) else none
  | _, _ => none
def gSub : D → D → Option D
  | .int i, .int j => some (.int (i - j))
  | _, _ => none
/-- one of the factors is small -/
def gMul : D → D → Option D
  | .int i, .int j => if (-(2 ^ 64) < i ∧ i < 2 ^ 64) ∨ (-(2 ^ 64) < j ∧ j < 2 ^ 64) then some (.int (i * j)) else none
  | .tuple xs, .int k => if xs ≠ [] ∧ 2 ≤ k ∧ k ≤ 1000 ∧ xs.length ≤ 1000 then some (.tuple (List.replicate k.toNat xs).flatten) else none
  | _, _ => none
def gMod : D → D → Option D
  | .int i, .int j => if 0 < j then some (.int (i % j)) else none
  | _, _ => none
def gPow : D → D → Option D
  | .int i, .int j => if 0 ≤ j ∧ j ≤ 1000000 ∧ i.natAbs < 2 ^ 64 then some (.int (i ^ j.toNat)) else none
  | _, _ => none
def gCmp (p : Int → Int → Bool) : D → D → Option D
  | .int i, .int j => some (.bool (p i j))
  | _, _ => none
abbrev gLt := gCmp fun i j => decide (i < j)
abbrev gGe := gCmp fun i j => decide (j ≤ i)
def gEq (x y : D) : Option D := if SeqAt.shaped x = true ∧ SeqAt.shaped y = true then some (.bool (PyData.eqv x y)) else none
def gNe (x y : D) : Option D := if SeqAt.shaped x = true ∧ SeqAt.shaped y = true then some (.bool (!PyData.eqv x y)) else none
def flatD : D → Bool
  | .none | .bool _ | .int _ | .str _ => true
  | _ => false
def gIn : D → D → Option D
  | x, .list ys => if flatD x = true ∧ ys.all flatD = true then some (.bool (ys.any fun y => PyData.eqv y x)) else none
  | x, .tuple ys => if flatD x = true ∧ ys.all flatD = true then some (.bool (ys.any fun y => PyData.eqv y x)) else none
  | _, _ => none
def gNotIn : D → D → Option D
  | x, .list ys => if flatD x = true ∧ ys.all flatD = true then some (.bool (!ys.any fun y => PyData.eqv y x)) else none
  | x, .tuple ys => if flatD x = true ∧ ys.all flatD = true then some (.bool (!ys.any fun y => PyData.eqv y x)) else none
  | _, _ => none
def gIx : D → D → Option D
  | .list xs, .int i => atI xs i
  | .tuple xs, .int i => atI xs i
  | _, _ => none
def gLen : D → Option D
  | .list xs => some (.int xs.length)
  | .tuple xs => some (.int xs.length)
  | .str x => if x.length ≤ sizeLine then some (.int x.length) else none
  | _ => none
def gTuple : D → Option D
  | .list xs => some (.tuple xs)
  | .tuple xs => some (.tuple xs)
  | _ => none
def gMin2 : D → D → Option D
  | .int i, .int j => some (.int (if j < i then j else i))
  | _, _ => none
def isort (ns : List Int) : List Int := ns.mergeSort (fun a b => decide (a ≤ b))
def opOr (r r' : R2) : R2 := fun x y H Q => r x y H Q ∨ r' x y H Q
section
variable {K : Fr0} {X : Cx}
theorem or_op {f : Value → Value → Sem Value} {r r' : R2} (h : OpR X f r) (h' : OpR X f r') : OpR X f (opOr r r') := by
  intro pins s σ H x y v u Q I rx ry q
  rcases q with q | q
  · exact h pins s σ H x y v u Q I rx ry q
  · exact h' pins s σ H x y v u Q I rx ry q
def rCatR (K : PySem.W.Frag) : R2 := fun x y H Q => ∃ l b xs zs, x = V.ref l ∧ y = V.ref b ∧ SqL K H l xs ∧ SqL K H b zs ∧ xs.length + zs.length ≤ sizeLine ∧ ∀ p, H p = none → Q (.ref p) (upd H p (.lst (xs ++ zs)))
theorem op_catR : OpR X (binaryOp .Add) (rCatR X.K) := by
  intro pins s σ H x y v u Q I rx ry q0
  obtain ⟨la, lb, as, bs, ex, ey, sa, sb, hsum, kq⟩ := q0
  subst ex ey
  cases rx
  cases ry
  obtain ⟨its, ra, ⟨⟨c1, d1, w1, s1⟩, n1, g1, e1, e2, e3⟩, _⟩ := I.list sa
  obtain ⟨its2, rb, ⟨⟨c2, d2, w2, s2⟩, n2, g2, f1, f2, f3⟩, _⟩ := I.list sb
  simp only at e1 e2 e3 f1 f2 f3
  subst e1 e2 e3 f1 f2 f3
  have len1 := ra.length
  have len2 := rb.length
  have both : its.toArray ++ its2.toArray = (its ++ its2).toArray := by simp
  refine concat_meets ⟨_, g1, rfl⟩ ⟨_, g2, rfl⟩ noFill_list_add seq_list_add PySem.F.slot_list_add PySem.F.entry_list_add (PySem.F.args_list_add_2 _ _) (PyProof.Rows.list_addW la lb its.toArray its2.toArray n1 n2 none none s1 s2 (by rw [List.size_toArray, List.size_toArray]; omega)) ⟨g1, g2, ?_⟩
  rw [both]
  exact ⟨.ref _, _, I.lnew (t' := s.toks) (ra.append rb) (by rw [List.length_append]; omega), rfl, kq _ I.fresh⟩
def rAdd (K : PySem.W.Frag) : R2 := opOr (rI0 fun i j => .int (i + j)) (opOr (rCatR K) (opOr (rCatA K) fun x y H Q => ∃ i j, x = V.str i ∧ y = V.str j ∧ i.length + j.length ≤ sizeLine ∧ Q (.str (i ++ j)) H))
theorem op_addA : OpR X (binaryOp .Add) (rAdd X.K) := or_op op_add (or_op op_catR (or_op op_catA op_add_str))
theorem rd_add : R2D K (rAdd K.f) gAdd := by
  intro L H x y dx dy d Q tr hx hy hg k
  unfold gAdd at hg
  split at hg
  · cases hg
    exact .inl ⟨_, _, rp_int hx, rp_int hy, k _ _ (Ex.refl _) (.int _)⟩
  · split at hg
    · cases hg
      rename_i hz
      exact .inr (.inr (.inr ⟨_, _, rp_str hx, rp_str hy, hz, k _ _ (Ex.refl _) (.str _)⟩))
    · cases hg
  · split at hg
    · cases hg
      rename_i xs ys hz
      obtain ⟨a, vs, rfl, h1, h2⟩ := rp_tuple hx
      obtain ⟨b, us, rfl, h3, h4⟩ := rp_tuple hy
      have e1 := dpa_len h2
      have e2 := dpa_len h4
      refine .inr (.inr (.inl ⟨a, b, vs, us, rfl, rfl, h1, h3, by omega, fun z => ?_, fun z1 z2 => ?_, fun _ _ p hp => k _ _ (Ex.new hp) (new_tup tr hp (dpa_app h2 h4))⟩))
      · subst z
        have : xs = [] := List.eq_nil_of_length_eq_zero (by simpa using e1.symm)
        subst this
        exact k _ _ (Ex.refl _) hy
      · subst z2
        have : ys = [] := List.eq_nil_of_length_eq_zero (by simpa using e2.symm)
        subst this
        rw [List.append_nil] at k
        exact k _ _ (Ex.refl _) hx
    · cases hg
  · split at hg
    · cases hg
      rename_i xs ys hz
      obtain ⟨a, vs, rfl, h1, h2⟩ := rp_list hx
      obtain ⟨b, us, rfl, h3, h4⟩ := rp_list hy
      have e1 := dpa_len h2
      have e2 := dpa_len h4
      exact .inr (.inl ⟨a, b, vs, us, rfl, rfl, h1, h3, by omega, fun p hp => k _ _ (Ex.new hp) (new_lst tr hp (dpa_app h2 h4))⟩)
    · cases hg
  · cases hg
theorem rd_I {C : Int → Int → Prop} {g : Int → Int → Int} {gd : D → D → Option D} (h : ∀ x y d, gd x y = some d → ∃ i j, x = .int i ∧ y = .int j ∧ C i j ∧ d = .int (g i j)) : R2D K (rI C fun i j => .int (g i j)) gd := by
  intro L H x y dx dy d Q tr hx hy hg k
  obtain ⟨i, j, rfl, rfl, hc, rfl⟩ := h _ _ _ hg
  exact ⟨i, j, rp_int hx, rp_int hy, hc, k _ _ (Ex.refl _) (.int _)⟩
theorem rd_pow : R2D K (rI CPow fun i j => .int (i ^ j.toNat)) gPow := rd_I fun x y d h => by
  unfold gPow at h
  split at h
  · split at h
    · cases h; exact ⟨_, _, rfl, rfl, by assumption, rfl⟩
    · cases h
  · cases h
theorem rd_cmp {p : Int → Int → Bool} : R2D K (rI0 fun i j => .bl (p i j)) (gCmp p) := by
  intro L H x y dx dy d Q tr hx hy hg k
  unfold gCmp at hg
  split at hg
  · cases hg
    exact ⟨_, _, rp_int hx, rp_int hy, k _ _ (Ex.refl _) (.bl _)⟩
  · cases hg
theorem rp_rep {H : Hp} {vs : List V} {ds : List D} (h : RpAll K H vs ds) : ∀ n : Nat, RpAll K H (List.replicate n vs).flatten (List.replicate n ds).flatten
  | 0 => .nil
  | n + 1 => by
    rw [List.replicate_succ, List.replicate_succ, List.flatten_cons, List.flatten_cons]
    exact dpa_app h (rp_rep h n)
def rMulA (K : PySem.W.Frag) : R2 := opOr (rI CMul fun i j => .int (i * j)) (rRepT K)
theorem op_mulA : OpR X (binaryOp .Mult) (rMulA X.K) := or_op op_mul op_repT
theorem rd_mul : R2D K (rMulA K.f) gMul := by
  intro L H x y dx dy d Q tr hx hy hg k
  unfold gMul at hg
  split at hg
  · split at hg
    · cases hg
      exact .inl ⟨_, _, rp_int hx, rp_int hy, by assumption, k _ _ (Ex.refl _) (.int _)⟩
    · cases hg
  · split at hg
    · cases hg
      rename_i xs kk hz
      obtain ⟨a, vs, rfl, h1, h2⟩ := rp_tuple hx
      have e1 := dpa_len h2
      refine .inr ⟨a, kk, vs, rfl, rp_int hy, h1, fun z => hz.1 ?_, hz.2.1, hz.2.2.1, by omega, fun p hp => k _ _ (Ex.new hp) (new_tup tr hp (rp_rep h2 _))⟩
      subst z
      exact List.eq_nil_of_length_eq_zero (by simpa using e1.symm)
    · cases hg
  · cases hg
theorem rd_eq : R2D K (rEqD K.f) gEq := by
  intro L H x y dx dy d Q tr hx hy hg k
  unfold gEq at hg
  split at hg
  · cases hg
    rename_i hz
    have c1 : dx.canLay0 = true := by
      have := hz.1
      unfold SeqAt.shaped at this
      simp at this
      exact this.1
    have c2 : dy.canLay0 = true := by
      have := hz.2
      unfold SeqAt.shaped at this
      simp at this
      exact this.1
    exact ⟨dx, dy, dp_le (rp_dp _ _ c1 hx), dp_le (rp_dp _ _ c2 hy), hz.1, hz.2, k _ _ (Ex.refl _) (.bl _)⟩
  · cases hg
theorem rd_ne : R2D K (rNeD K.f) gNe := by
  intro L H x y dx dy d Q tr hx hy hg k
  unfold gNe at hg
  split at hg
  · cases hg
    rename_i hz
    have c1 : dx.canLay0 = true := by
      have := hz.1
      unfold SeqAt.shaped at this
      simp at this
      exact this.1
    have c2 : dy.canLay0 = true := by
      have := hz.2
      unfold SeqAt.shaped at this
      simp at this
      exact this.1
    exact ⟨dx, dy, dp_le (rp_dp _ _ c1 hx), dp_le (rp_dp _ _ c2 hy), hz.1, hz.2, k _ _ (Ex.refl _) (.bl _)⟩
  · cases hg
/-- flat data, and the value at it -/
theorem flat_val {H : Hp} {v : V} {d : D} (h : Rp K H v d) (f : flatD d = true) : flatV v = true := by
  cases h <;> first | rfl | cases f
theorem flat_eqv {H : Hp} {v u : V} {d e : D} (h : Rp K H v d) (g : Rp K H u e) (f : flatD d = true) (f2 : flatD e = true) : eqV v u = PyData.eqv d e := by
  cases h <;> cases g <;> first | rfl | cases f | cases f2 | skip
theorem flat_all {H : Hp} : ∀ {vs : List V} {ds : List D}, RpAll K H vs ds → ds.all flatD = true → vs.all flatV = true
  | _, [], h, _ => by cases h; rfl
  | _, d :: ds, h, f => by
    rw [List.all_cons, Bool.and_eq_true] at f
    cases h with
    | cons h1 h2 =>
      rw [List.all_cons, Bool.and_eq_true]
      exact ⟨flat_val h1 f.1, flat_all h2 f.2⟩
theorem flat_in {H : Hp} {x : V} {dx : D} (hx : Rp K H x dx) (f : flatD dx = true) : ∀ {vs : List V} {ds : List D}, RpAll K H vs ds → ds.all flatD = true → inV x vs = ds.any fun y => PyData.eqv y dx
  | _, [], h, _ => by cases h; rfl
  | _, d :: ds, h, g => by
    rw [List.all_cons, Bool.and_eq_true] at g
    cases h with
    | cons h1 h2 =>
      show (eqV _ x || inV x _) = _
      rw [flat_eqv h1 hx g.1 f, flat_in hx f h2 g.2]
      rfl
theorem rd_in : R2D K (rIn K.f false) gIn := by
  intro L H x y dx dy d Q tr hx hy hg k
  unfold gIn at hg
  split at hg
  · split at hg
    · cases hg
      rename_i ys hz
      obtain ⟨a, vs, rfl, h1, h2⟩ := rp_list hy
      refine ⟨a, vs, rfl, .inl h1, flat_val hx hz.1, flat_all h2 hz.2, ?_⟩
      rw [flat_in hx hz.1 h2 hz.2]
      exact k _ _ (Ex.refl _) (.bl _)
    · cases hg
  · split at hg
    · cases hg
      rename_i ys hz
      obtain ⟨a, vs, rfl, h1, h2⟩ := rp_tuple hy
      refine ⟨a, vs, rfl, .inr h1, flat_val hx hz.1, flat_all h2 hz.2, ?_⟩
      rw [flat_in hx hz.1 h2 hz.2]
      exact k _ _ (Ex.refl _) (.bl _)
    · cases hg
  · cases hg
theorem atI_len {α β : Type} {xs : List α} {ys : List β} {i : Int} {y : β} (h : xs.length = ys.length) (e : atI ys i = some y) : ∃ j : Nat, ys[j]? = some y ∧ ∀ x, xs[j]? = some x → atI xs i = some x := by
  unfold atI at e
  cases q : ixN ys.length i with
  | none => rw [q] at e; cases e
  | some j =>
    rw [q] at e
    refine ⟨j, e, fun x hx => ?_⟩
    unfold atI
    rw [h, q]
    exact hx
def rIxA (K : PySem.W.Frag) : R2 := opOr (rIxL K) (rIxT K)
theorem ix_any : IxR X (rIxA X.K) := IxR.or ix_list ix_tup
theorem rd_ix : R2D K (rIxA K.f) gIx := by
  intro L H x y dx dy d Q tr hx hy hg k
  unfold gIx at hg
  split at hg
  · rename_i xs i
    obtain ⟨a, vs, rfl, h1, h2⟩ := rp_list hx
    obtain ⟨j, e1, e2⟩ := atI_len (dpa_len h2) hg
    obtain ⟨v, e3, e4⟩ := dpa_get' h2 e1
    exact .inl ⟨a, vs, i, v, rfl, rp_int hy, h1, e2 v e3, k _ _ (Ex.refl _) e4⟩
  · rename_i xs i
    obtain ⟨a, vs, rfl, h1, h2⟩ := rp_tuple hx
    obtain ⟨j, e1, e2⟩ := atI_len (dpa_len h2) hg
    obtain ⟨v, e3, e4⟩ := dpa_get' h2 e1
    exact .inr ⟨a, vs, i, v, rfl, rp_int hy, h1, e2 v e3, k _ _ (Ex.refl _) e4⟩
  · cases hg
theorem rd_min2 : R2D K (fun x y H Q => ∃ i j, [x, y] = [V.int i, V.int j] ∧ Q (.int (if j < i then j else i)) H) gMin2 := by
  intro L H x y dx dy d Q tr hx hy hg k
  unfold gMin2 at hg
  split at hg
  · cases hg
    exact ⟨_, _, by rw [rp_int hx, rp_int hy], k _ _ (Ex.refl _) (.int _)⟩
  · cases hg
def rLenA (K : PySem.W.Frag) : List V → Hp → VK → Prop := fun xs H Q => (∃ p ys, xs = [V.ref p] ∧ (SqL K H p ys ∨ SqT K H p ys) ∧ Q (.int ys.length) H) ∨ ∃ z, xs = [V.str z] ∧ z.length ≤ sizeLine ∧ Q (.int z.length) H
theorem call_lenA : CallR X (.builtin "len") (rLenA X.K) := by
  intro pins s σ H xs us Q I r h
  rcases h with h | h
  · exact call_len_seq pins s σ H xs us Q I r h
  · exact call_len_str pins s σ H xs us Q I r h
theorem r1_len : R1D K (fun x => rLenA K.f [x]) gLen := by
  intro L H x dx d Q tr hx hg k
  unfold gLen at hg
  split at hg
  · cases hg
    obtain ⟨a, vs, rfl, h1, h2⟩ := rp_list hx
    refine .inl ⟨a, vs, rfl, .inl h1, ?_⟩
    rw [dpa_len h2]
    exact k _ _ (Ex.refl _) (.int _)
  · cases hg
    obtain ⟨a, vs, rfl, h1, h2⟩ := rp_tuple hx
    refine .inl ⟨a, vs, rfl, .inr h1, ?_⟩
    rw [dpa_len h2]
    exact k _ _ (Ex.refl _) (.int _)
  · split at hg
    · cases hg
      exact .inr ⟨_, by rw [rp_str hx], by assumption, k _ _ (Ex.refl _) (.int _)⟩
    · cases hg
  · cases hg
end
end PD
namespace PD
open PySem L2
open Evl (Ex)
abbrev FL := Rho → (List D → Rho → Prop) → Prop
def DL (K : Fr0) (M : Mk0) (f : FL) : TA := fun σ H Q => ∃ P F L ρ, R K M P F L ρ σ H ∧ f ρ fun ds ρ' => ∀ vs L' H', Ex (hide L H) (hide L' H') → R K M P F L' ρ' σ H' → RpAll K (hide L' H') vs ds → Q vs H'
structure PDL (X : Cx) (M : Mk0) (es : List Expr) (f : FL) : Prop where
  pa : PA X es (DL X.k0 M f)
  mono : ∀ ρ k k', (∀ d ρ', k d ρ' → k' d ρ') → f ρ k → f ρ k'
structure PDW (X : Cx) (M : Mk0) (e : Expr) (f : FT) : Prop where
  pw : PW X e (DT X.k0 M f)
  mono : ∀ ρ k k', (∀ d ρ', k d ρ' → k' d ρ') → f ρ k → f ρ k'
theorem PI.wk {X : Cx} {tg it : Expr} {t t' : TI} (h : PI X tg it t) (w : ∀ σ H Q, t' σ H Q → t σ H Q) : PI X tg it t' := ⟨fun pins s σ H Q I q => h.run pins s σ H Q I (w σ H Q q)⟩
theorem PTs.wk {X : Cx} {es : List Expr} {t t' : TT} (h : PTs X es t) (w : ∀ σ H Q, t' σ H Q → t σ H Q) : PTs X es t' := ⟨fun pins s σ H Q I q => h.run pins s σ H Q I (w σ H Q q)⟩
section
variable {X : Cx} {M : Mk0} {a b c e o : Expr} {es rest : List Expr} {fa fb fc : FE} {fl : FL} {ft fu : FT} {pos : Pos}
def flNil : FL := fun ρ k => k [] ρ
def flCons (fa : FE) (fl : FL) : FL := fun ρ k => fa ρ fun d ρ1 => fl ρ1 fun ds ρ2 => k (d :: ds) ρ2
theorem pdl_nil : PDL X M [] flNil := by
  refine ⟨PA.wk pa_nil fun σ H Q ⟨P, F, L, ρ, r, k⟩ => ?_, fun ρ k k' h q => h _ _ q⟩
  exact k [] L H (Ex.refl _) r .nil
theorem pdl_cons (ha : PD X M a fa) (hl : PDL X M es fl) (hs : starEach (a :: es) X.env = (false, eval a X.env) :: starEach es X.env := by rfl) : PDL X M (a :: es) (flCons fa fl) := by
  refine ⟨PA.wk (pa_cons ha.pe hl.pa hs) fun σ H Q ⟨P, F, L, ρ, r, k⟩ => ?_, fun ρ k k' h q => ha.mono _ _ _ (fun d ρ1 q => hl.mono _ _ _ (fun ds ρ2 q => h _ _ q) q) q⟩
  refine ⟨P, F, L, ρ, r, ha.mono _ _ _ (fun d ρ1 q v L1 H1 e1 r1 d1 => ?_) k⟩
  exact ⟨P, F, L1, ρ1, r1, hl.mono _ _ _ (fun ds ρ2 q vs L2 H2 e2 r2 d2 => q (v :: vs) L2 H2 (e1.trans e2) r2 (.cons (dp_ex e2 _ _ d1) d2)) q⟩
def fTup (fl : FL) : FE := fun ρ k => fl ρ fun ds ρ1 => ds.length ≤ 100000 ∧ k (.tuple ds) ρ1
def fLst (fl : FL) : FE := fun ρ k => fl ρ fun ds ρ1 => ds.length ≤ 100000 ∧ k (.list ds) ρ1
theorem pd_tup {x1} (h : PDL X M es fl) : PD X M (.Tuple es x1 pos) (fTup fl) := by
  refine ⟨PE.wk (pe_tup h.pa) fun σ H Q ⟨P, F, L, ρ, r, k⟩ => ?_, fun ρ k k' g q => h.mono _ _ _ (fun ds ρ1 q => ⟨q.1, g _ _ q.2⟩) q⟩
  refine ⟨P, F, L, ρ, r, h.mono _ _ _ (fun ds ρ1 q vs L1 H1 e1 r1 d1 => ⟨Evl.sz_of (by rw [dpa_len d1]; exact q.1), fun p hp => ?_⟩) k⟩
  exact q.2 (.ref p) L1 _ (e1.trans (hide_ex (Ex.new hp))) (r1.laid hp) (new_tup r1.tr hp d1)
theorem pd_lst (h : PDL X M es fl) : PD X M (.List es pos) (fLst fl) := by
  refine ⟨PE.wk (pe_lst h.pa) fun σ H Q ⟨P, F, L, ρ, r, k⟩ => ?_, fun ρ k k' g q => h.mono _ _ _ (fun ds ρ1 q => ⟨q.1, g _ _ q.2⟩) q⟩
  refine ⟨P, F, L, ρ, r, h.mono _ _ _ (fun ds ρ1 q vs L1 H1 e1 r1 d1 => ⟨Evl.sz_of (by rw [dpa_len d1]; exact q.1), fun p hp => ?_⟩) k⟩
  exact q.2 (.ref p) L1 _ (e1.trans (hide_ex (Ex.new hp))) (r1.laid hp) (new_lst r1.tr hp d1)
/-- a value that is a bool, as a test -/
def ftB (fa : FE) : FT := fun ρ k => fa ρ fun d ρ1 => ∃ b, d = .bool b ∧ k b ρ1
theorem ftB_mono (ma : ∀ ρ k k', (∀ d ρ', k d ρ' → k' d ρ') → fa ρ k → fa ρ k') (ρ : Rho) (k k' : Bool → Rho → Prop) (h : ∀ d ρ', k d ρ' → k' d ρ') (q : ftB fa ρ k) : ftB fa ρ k' :=
  ma _ _ _ (fun d ρ1 ⟨b, h1, h2⟩ => ⟨b, h1, h _ _ h2⟩) q
/-- a comparison as a test -/
theorem pdt_cmp {op : CmpOp} {r : R2} {g : D → D → Option D} (ho : OpR X (compareOp op) r) (hg : R2D X.k0 r g) (ha : PD X M a fa) (hb : PD X M b fb) (hm : behindInMarks op b = false) : PDT X M (.Compare a [op] [b] pos) (ftB (fOp g fa fb)) := by
  refine ⟨PT.wk (pt_cmpR ho ha.pe hb.pe hm) fun σ H Q h => ?_, ftB_mono (fOp_mono ha.mono hb.mono)⟩
  obtain ⟨P, F, L, ρ, r0, k⟩ := h
  refine dOp (M := M) hg ha.mono hb.mono σ H _ ⟨P, F, L, ρ, r0, fOp_mono ha.mono hb.mono _ _ _ (fun d ρ1 ⟨b, h1, h2⟩ v L1 H1 e1 r1 d1 => ?_) k⟩
  subst h1
  exact ⟨b, rp_bool d1, h2 L1 H1 e1 r1⟩
def fChain (g g' : D → D → Option D) (fa fb fc : FE) : FE := fun ρ k => fa ρ fun x ρ1 => fb ρ1 fun y ρ2 => ∃ t, g x y = some (.bool t) ∧ if t = true then fc ρ2 fun z ρ3 => ∃ d, g' y z = some d ∧ k d ρ3 else k (.bool false) ρ2
/-- truth of any value -/
def truD : D → Option Bool
  | .none => some false
  | .bool b => some b
  | .int i => some (i != 0)
  | .str x => if x.length ≤ sizeLine then some ((x.length : Int) != 0) else none
  | .list xs => some (!xs.isEmpty)
  | .tuple xs => some (!xs.isEmpty)
  | .dict ps => none
def ftT (fa : FE) : FT := fun ρ k => fa ρ fun d ρ1 => ∃ b, truD d = some b ∧ k b ρ1
def ftAnd (ft fu : FT) : FT := fun ρ k => ft ρ fun c ρ1 => if c = true then fu ρ1 k else k false ρ1
def ftOr (ft fu : FT) : FT := fun ρ k => ft ρ fun c ρ1 => if c = true then k true ρ1 else fu ρ1 k
def ftNot (ft : FT) : FT := fun ρ k => ft ρ fun c ρ1 => k (!c) ρ1
theorem PDW.pt (h : PDW X M e ft) : PDT X M e ft := ⟨PW.pt h.pw, h.mono⟩
def fAnd (fa fb : FE) : FE := fun ρ k => fa ρ fun d ρ1 => ∃ b, d = .bool b ∧ if b = true then fb ρ1 k else k (.bool false) ρ1
def fOr (fa fb : FE) : FE := fun ρ k => fa ρ fun d ρ1 => ∃ b, d = .bool b ∧ if b = true then k (.bool true) ρ1 else fb ρ1 k
def fNot (fa : FE) : FE := fun ρ k => fa ρ fun d ρ1 => ∃ b, d = .bool b ∧ k (.bool (!b)) ρ1
def fIf (ft : FT) (fa fb : FE) : FE := fun ρ k => ft ρ fun c ρ1 => if c = true then fa ρ1 k else fb ρ1 k
theorem pd_if (ht : PDT X M c ft) (ha : PD X M a fa) (hb : PD X M b fb) : PD X M (.IfExp c a b pos) (fIf ft fa fb) := by
  refine ⟨PE.wk (pe_ifExp ht.pt ha.pe hb.pe) fun σ H Q ⟨P, F, L, ρ, r, k⟩ => ?_, fun ρ k k' h q => ht.mono _ _ _ (fun t ρ1 q => by
    cases t with
    | true => exact ha.mono _ _ _ h q
    | false => exact hb.mono _ _ _ h q) q⟩
  refine ⟨P, F, L, ρ, r, ht.mono _ _ _ (fun t ρ1 q L1 H1 e1 r1 => ?_) k⟩
  cases t with
  | true => exact ⟨P, F, L1, ρ1, r1, ha.mono _ _ _ (fun d ρ2 q w L2 H2 e2 r2 d2 => q w L2 H2 (e1.trans e2) r2 d2) q⟩
  | false => exact ⟨P, F, L1, ρ1, r1, hb.mono _ _ _ (fun d ρ2 q w L2 H2 e2 r2 d2 => q w L2 H2 (e1.trans e2) r2 d2) q⟩
def fSl (g : D → Option Int → Option Int → Option D) (fa : FE) (fl fh : Rho → (Option Int → Rho → Prop) → Prop) : FE := fun ρ k => fa ρ fun x ρ1 => fl ρ1 fun l ρ2 => fh ρ2 fun h ρ3 => ∃ d, g x l h = some d ∧ k d ρ3
abbrev FO := Rho → (Option Int → Rho → Prop) → Prop
def foNone : FO := fun ρ k => k none ρ
def foSome (fa : FE) : FO := fun ρ k => fa ρ fun d ρ1 => ∃ i, d = .int i ∧ k (some i) ρ1
def cutD (xs : List D) (lo hi : Option Int) : List D := (xs.drop (HT.sIx xs.length 0 lo)).take (HT.sIx xs.length xs.length hi - HT.sIx xs.length 0 lo)
def gSl : D → Option Int → Option Int → Option D
  | .list xs, lo, hi => some (.list (cutD xs lo hi))
  | .tuple xs, lo, hi => some (.tuple (cutD xs lo hi))
  | _, _, _ => none
end
end PD
namespace PD
open PySem L2
open Evl (Ex)
section
variable {K : Fr0} {M : Mk0} {P : Option Addr} {F : Hp} {L L' : List Addr} {ρ : Rho} {σ : L2.St} {H H' : Hp} {p : Addr} {o : HO}
/-- no list stands in it that is filled -/
def Ow.nx : Ow → Prop
  | .x _ _ _ _ => False
  | _ => True
theorem Ow.nx.ne {c : Ow} (h : c.nx) : ∀ a ps kd es, c ≠ .x a ps kd es := fun a ps kd es e => by rw [e] at h; exact h
theorem R.opMv (r : R K M P F L ρ σ H) {P' : Option Addr} {F' : Hp} {ρ' : Rho} {σ' : L2.St} (hP : P = none → P' = none) (e : Ex (hide L H) (hide L' H'))
    (look : ∀ (c : Nat) (zs : Ow), ρ'.sl[c]? = some (.own zs) → (ρ.sl[c]? = some (.own zs) ∧ ∀ l, σ'[c]? = some (some (.ref l)) → σ[c]? = some (some (.ref l))) ∨
      ((∀ a ps kd es, zs ≠ .x a ps kd es) ∧ ∀ l, σ'[c]? = some (some (.ref l)) → ∀ (i : Nat) (a0 : Addr) (ps : List (D × D)) (kd : D) (ds : List D), ρ.sl[i]? = some (.own (.x a0 ps kd ds)) → l ≠ a0))
    (keep : ∀ (a : Addr) (vs : List V), (Own ρ σ a ∧ ∀ (j : Nat) (xs : Ow) (l : Addr), ρ.sl[j]? = some (.own xs) → σ[j]? = some (some (.ref l)) → l ≠ a) → a ∈ L → F a = none → H a = some (.lst vs) → a ∈ L' ∧ F' a = none ∧ H' a = some (.lst vs)) :
    ∀ (i : Nat) (a0 : Addr) (ps : List (D × D)) (kd : D) (ds : List D), ρ'.sl[i]? = some (.own (.x a0 ps kd ds)) → OpOk K P' F' L' ρ' σ' H' i a0 ds := fun i a0 ps kd ds h => by
  rcases look i _ h with ⟨h0, _⟩ | ⟨h0, _⟩
  rotate_left
  · exact absurd rfl (h0 a0 ps kd ds)
  obtain ⟨h1, h2, h3, ⟨vs, h4, h5⟩, h6, h7⟩ := r.op i a0 ps kd ds h0
  obtain ⟨k1, k2, k3⟩ := keep a0 vs ⟨⟨i, _, h0, .inr rfl⟩, h6⟩ h2 h3 h4
  refine ⟨hP h1, k1, k2, ⟨vs, k3, dpa_ex e _ _ h5⟩, fun j xs l h8 h9 => ?_, fun j a1 ps' kd' es h8 => ?_⟩
  · rcases look j _ h8 with ⟨g1, g2⟩ | ⟨_, g2⟩
    · exact h6 j xs l g1 (g2 l h9)
    · exact g2 l h9 i a0 ps kd ds h0
  · rcases look j _ h8 with ⟨g1, g2⟩ | ⟨g1, _⟩
    · exact h7 j a1 ps' kd' es g1
    · exact absurd rfl (g1 a1 ps' kd' es)
theorem R.opPin {u : HO} (r : R K M P (upd F p u) L ρ σ H) {i : Nat} {a0 : Addr} {ps : List (D × D)} {kd : D} {ds : List D} (h : ρ.sl[i]? = some (.own (.x a0 ps kd ds))) : p ≠ a0 := fun e => by
  have := (r.op i a0 ps kd ds h).nf
  rw [← e, upd_same] at this
  cases this
theorem R.own_nf (r : R K M P F L ρ σ H) {a : Addr} (h : Own ρ σ a) : F a = none := by
  obtain ⟨j, ys, h1, h2⟩ := h
  rcases h2 with h2 | h2
  · exact r.ownF j ys a h1 h2
  · obtain ⟨ps, kd, ds, rfl⟩ := lies_x h2
    exact (r.op j _ _ _ _ h1).nf
theorem R.own_some (r : R K M P F L ρ σ H) {a : Addr} (h : Own ρ σ a) : ∃ u, H a = some u := by
  obtain ⟨j, ys, h1, h2⟩ := h
  rcases h2 with h2 | h2
  · obtain ⟨l, us, g6, _, g8, _⟩ := r.getOwn h1
    rw [h2] at g6
    cases g6
    exact ⟨us, g8⟩
  · obtain ⟨ps, kd, ds, rfl⟩ := lies_x h2
    obtain ⟨vs, e, _⟩ := (r.op j _ _ _ _ h1).con
    exact ⟨_, e⟩
theorem opLook {ρ : Rho} {σ : L2.St} : ∀ (c : Nat) (zs : Ow), ρ.sl[c]? = some (.own zs) → (ρ.sl[c]? = some (.own zs) ∧ ∀ l, σ[c]? = some (some (.ref l)) → σ[c]? = some (some (V.ref l))) ∨
      ((∀ a ps kd es, zs ≠ .x a ps kd es) ∧ ∀ l, σ[c]? = some (some (V.ref l)) → ∀ (i : Nat) (a0 : Addr) (ps : List (D × D)) (kd : D) (ds : List D), ρ.sl[i]? = some (.own (.x a0 ps kd ds)) → l ≠ a0) := fun _ _ h => .inl ⟨h, fun _ q => q⟩
theorem ex_pin (hp : H p = none) : Ex (hide L H) (hide (p :: L) (upd H p o)) := fun a b hb => by
  obtain ⟨h3, h4⟩ := hide_some.mp hb
  have n : a ≠ p := ne_of_none h4 hp
  exact hide_some.mpr ⟨fun z => (List.mem_cons.mp z).elim n h3, by rw [upd_ne n]; exact h4⟩
theorem R.pinNew (r : R K M P F L ρ σ H) (hp : H p = none) : R K M P (upd F p o) (p :: L) ρ σ (upd H p o) := by
  have r1 := r.hideMore (o := o) hp
  have pL : p ∉ L := r.notL hp
  refine ⟨r1.len, r1.sl, fun a u h => ?_, r1.tr, r1.apart, fun i xs l h1 h2 => ?_, fun q hq => ?_, r.tb.move (ex_pin hp) fun P' ps h1 h2 h3 => ⟨by rw [upd_ne (ne_of_none h3 hp)]; exact h1, List.mem_cons_of_mem _ h2, by rw [upd_ne (ne_of_none h3 hp)]; exact h3⟩, r.opMv (fun h => h) (ex_pin hp) opLook fun a vs _ h2 h3 h4 => ⟨List.mem_cons_of_mem _ h2, by rw [upd_ne (ne_of_none h4 hp)]; exact h3, by rw [upd_ne (ne_of_none h4 hp)]; exact h4⟩⟩
  · by_cases e : a = p
    · subst e
      rw [upd_same] at h
      cases h
      exact ⟨upd_same, List.mem_cons_self⟩
    · rw [upd_ne e] at h
      exact r1.fr a u h
  · obtain ⟨l', vs, h3, h4, _⟩ := r.getOwn h1
    rw [h2] at h3
    cases h3
    rw [upd_ne (show l ≠ p from fun e => pL (by rw [← e]; exact h4))]
    exact r.ownF i xs l h1 h2
  · obtain ⟨A, a1, a2, a3⟩ := r.m q hq
    refine ⟨A, M.loc (fun a ha b hb => by rw [upd_ne (ne_of_none hb hp)]; exact hb) a1, fun a ha => ⟨List.mem_cons_of_mem _ (a2 a ha).1, ?_⟩, a3⟩
    rw [upd_ne (show a ≠ p from fun e => pL (by rw [← e]; exact (a2 a ha).1))]
    exact (a2 a ha).2
theorem R.pinned (r : R K M P (upd F p o) L ρ σ H) : H p = some o ∧ p ∈ L := r.fr p o upd_same
theorem R.pinOwn (r : R K M P (upd F p o) L ρ σ H) : ¬ Own ρ σ p := fun ⟨i, xs, h1, h2⟩ => by
  rcases h2 with h2 | h2
  · have := r.ownF i xs p h1 h2
    rw [upd_same] at this
    cases this
  · obtain ⟨ps, kd, ds, rfl⟩ := lies_x h2
    exact r.opPin h1 rfl
theorem R.unpin (r : R K M P (upd F p o) L ρ σ H) (hF : F p = none) : R K M P F L ρ σ H := by
  have up : ∀ {a}, upd F p o a = none → F a = none := fun {a} h => by
    by_cases e : a = p
    · rw [e]; exact hF
    · rw [upd_ne e] at h; exact h
  refine ⟨r.len, r.sl, fun a u h => ?_, r.tr, r.apart, fun i xs l h1 h2 => up (r.ownF i xs l h1 h2), fun q hq => ?_, r.tb.move (Ex.refl _) fun P' ps h1 h2 h3 => ⟨up h1, h2, h3⟩, r.opMv (fun h => h) (Ex.refl _) opLook fun a vs _ h2 h3 h4 => ⟨h2, up h3, h4⟩⟩
  · refine r.fr a u ?_
    rw [upd_ne (fun e => by rw [e, hF] at h; cases h)]
    exact h
  · obtain ⟨A, a1, a2, a3⟩ := r.m q hq
    exact ⟨A, a1, fun a ha => ⟨(a2 a ha).1, up (a2 a ha).2⟩, a3⟩
/-- the held list becomes data -/
theorem R.reveal (r : R K M P (upd F p o) L ρ σ H) (hF : F p = none) : R K M P F (L.filter fun a => decide (a ≠ p)) ρ σ H := by
  have sub : ∀ a ∈ (L.filter fun a => decide (a ≠ p)), a ∈ L := fun a ha => (List.mem_filter.mp ha).1
  have inn : ∀ a ∈ L, a ≠ p → a ∈ (L.filter fun a => decide (a ≠ p)) := fun a ha n => List.mem_filter.mpr ⟨ha, decide_eq_true n⟩
  have ex : Ex (hide L H) (hide (L.filter fun a => decide (a ≠ p)) H) := hide_sub sub
  have up : ∀ {a}, upd F p o a = none → F a = none ∧ a ≠ p := fun {a} h => by
    have e : a ≠ p := fun e => by rw [e, upd_same] at h; cases h
    rw [upd_ne e] at h
    exact ⟨h, e⟩
  refine ⟨r.len, fun i s u e1 e2 => ?_, fun a u h => ?_, fun a h => r.tr a (sub a h), r.apart, fun i xs l h1 h2 => (up (r.ownF i xs l h1 h2)).1, fun q hq => ?_, r.tb.move ex fun P' ps h1 h2 h3 => ⟨(up h1).1, inn _ h2 (up h1).2, h3⟩, r.opMv (fun h => h) ex opLook fun a vs _ h2 h3 h4 => ⟨inn _ h2 (up h3).2, (up h3).1, h4⟩⟩
  · have q := r.sl i s u e1 e2
    cases s with
    | no => trivial
    | d x =>
      obtain ⟨v, g3, g4⟩ := q
      exact ⟨v, g3, dp_ex ex _ _ g4⟩
    | own xs =>
      obtain ⟨l, vs, g3, g4, g5, g6⟩ := q
      exact ⟨l, vs, g3, inn l g4 (up (r.ownF i xs l e1 (by rw [e2, g3]))).2, g5, g6.up ex⟩
    | st => exact q
    | raw v => exact q
    | exc a d fl => exact ⟨q.1, q.2.up ex⟩
    | err C fl =>
      obtain ⟨a0, oe, d, y1, y2, y3, y4, y5⟩ := q
      exact ⟨a0, oe, d, y1, ex _ _ y2, y3, y4, y5.up ex⟩
  · have e : a ≠ p := fun e => by rw [e, hF] at h; cases h
    have q := r.fr a u (by rw [upd_ne e]; exact h)
    exact ⟨q.1, inn a q.2 e⟩
  · obtain ⟨A, a1, a2, a3⟩ := r.m q hq
    exact ⟨A, a1, fun a ha => ⟨inn a (a2 a ha).1 (up (a2 a ha).2).2, (up (a2 a ha).2).1⟩, a3⟩
/-- what is held changes -/
theorem R.repin {o' : HO} (r : R K M P (upd F p o) L ρ σ H) : R K M P (upd F p o') L ρ σ (upd H p o') := by
  have hL := r.pinned.2
  have hh : hide L (upd H p o') = hide L H := by
    funext a
    unfold hide
    by_cases ha : a ∈ L
    · rw [if_pos ha, if_pos ha]
    · rw [if_neg ha, if_neg ha, upd_ne (show a ≠ p from fun e => ha (by rw [e]; exact hL))]
  have up : ∀ {a}, upd F p o a = none → upd F p o' a = none ∧ a ≠ p := fun {a} h => by
    have e : a ≠ p := fun e => by rw [e, upd_same] at h; cases h
    rw [upd_ne e] at h
    rw [upd_ne e]
    exact ⟨h, e⟩
  refine ⟨r.len, fun i s u e1 e2 => ?_, fun a u h => ?_, fun a h => ?_, r.apart, fun i xs l h1 h2 => (up (r.ownF i xs l h1 h2)).1, fun q hq => ?_, r.tb.move (by rw [hh]; exact Ex.refl _) fun P' ps h1 h2 h3 => ⟨(up h1).1, h2, by rw [upd_ne (up h1).2]; exact h3⟩, r.opMv (fun h => h) (by rw [hh]; exact Ex.refl _) opLook fun a vs _ h2 h3 h4 => ⟨h2, (up h3).1, by rw [upd_ne (up h3).2]; exact h4⟩⟩
  · have q := r.sl i s u e1 e2
    cases s with
    | no => trivial
    | d x =>
      obtain ⟨v, g3, g4⟩ := q
      exact ⟨v, g3, by rw [hh]; exact g4⟩
    | own xs =>
      obtain ⟨l, vs, g3, g4, g5, g6⟩ := q
      exact ⟨l, vs, g3, g4, by rw [upd_ne (up (r.ownF i xs l e1 (by rw [e2, g3]))).2]; exact g5, by rw [hh]; exact g6⟩
    | st => exact q
    | raw v => exact q
    | exc a d fl => exact ⟨q.1, by rw [hh]; exact q.2⟩
    | err C fl =>
      obtain ⟨a0, oe, d, y1, y2, y3, y4, y5⟩ := q
      exact ⟨a0, oe, d, y1, by rw [hh]; exact y2, y3, y4, by rw [hh]; exact y5⟩
  · by_cases e : a = p
    · subst e
      rw [upd_same] at h
      cases h
      exact ⟨upd_same, hL⟩
    · rw [upd_ne e] at h
      have q := r.fr a u (by rw [upd_ne e]; exact h)
      exact ⟨by rw [upd_ne e]; exact q.1, q.2⟩
  · by_cases e : a = p
    · subst e
      exact ⟨o', upd_same⟩
    · obtain ⟨u, q⟩ := r.tr a h
      exact ⟨u, by rw [upd_ne e]; exact q⟩
  · obtain ⟨A, a1, a2, a3⟩ := r.m q hq
    exact ⟨A, M.loc (fun a ha b hb => by rw [upd_ne (up (a2 a ha).2).2]; exact hb) a1, fun a ha => ⟨(a2 a ha).1, (up (a2 a ha).2).1⟩, a3⟩
theorem hide_repin {o' : HO} (hL : p ∈ L) : hide L (upd H p o') = hide L H := by
  funext a
  unfold hide
  by_cases ha : a ∈ L
  · rw [if_pos ha, if_pos ha]
  · rw [if_neg ha, if_neg ha, upd_ne (show a ≠ p from fun e => ha (by rw [e]; exact hL))]
/-- the held list goes to a slot, as its own -/
theorem R.toOwnC {o : HO} {ds : Ow} (r : R K M P (upd F p o) L ρ σ H) (hF : F p = none) (hd : OwAt K (hide L H) p o ds) (hx : ds.nx) (i : Nat) : R K M P F L (ρ.set i (.own ds)) (σ.set i (some (.ref p))) H := by
  have hno := r.pinOwn
  have r0 := r.unpin hF
  have pin := r.pinned
  refine ⟨by simp [r0.len], fun j t u h1 h2 => ?_, r0.fr, r0.tr, fun a b xs ys l hab h1 h2 h3 h4 => ?_, fun c zs l h h3 => ?_, fun q hq => ?_, r0.tb, r0.opMv (fun h => h) (Ex.refl _) (fun c zs h => ?_) fun a vs _ h2 h3 h4 => ⟨h2, h3, h4⟩⟩
  · by_cases e : j = i
    · subst e
      have hj : j < ρ.sl.length := by simpa using (List.getElem?_eq_some_iff.mp h1).1
      rw [show (ρ.set j (.own ds)).sl = ρ.sl.set j (.own ds) from rfl, List.getElem?_set_self hj] at h1
      rw [List.getElem?_set_self (by rw [r0.len]; exact hj)] at h2
      cases h1
      cases h2
      exact ⟨p, o, rfl, pin.2, pin.1, hd⟩
    · rw [show (ρ.set i (.own ds)).sl = ρ.sl.set i (.own ds) from rfl, List.getElem?_set_ne (fun q => e q.symm)] at h1
      rw [List.getElem?_set_ne (fun q => e q.symm)] at h2
      exact r0.sl j t u h1 h2
  · -- apart
    have look : ∀ {c : Nat} {zs : Ow}, c ≠ i → (ρ.set i (.own ds)).sl[c]? = some (.own zs) → (σ.set i (some (.ref p)))[c]? = some (some (.ref l)) → ρ.sl[c]? = some (.own zs) ∧ σ[c]? = some (some (.ref l)) := fun {c zs} hc g1 g2 => by
      rw [show (ρ.set i (.own ds)).sl = ρ.sl.set i (.own ds) from rfl, List.getElem?_set_ne (fun q => hc q.symm)] at g1
      rw [List.getElem?_set_ne (fun q => hc q.symm)] at g2
      exact ⟨g1, g2⟩
    have atp : ∀ {c : Nat}, c = i → (σ.set i (some (.ref p)))[c]? = some (some (V.ref l)) → l = p := fun {c} hc g => by
      subst hc
      have hlt : c < σ.length := by simpa using (List.getElem?_eq_some_iff.mp g).1
      rw [List.getElem?_set_self hlt] at g
      cases g
      rfl
    by_cases ha : a = i
    · have e := atp ha h3
      subst e
      have hb : b ≠ i := fun z => hab (ha.trans z.symm)
      obtain ⟨g1, g2⟩ := look hb h2 h4
      exact hno ⟨b, ys, g1, .inl g2⟩
    · obtain ⟨g1, g2⟩ := look ha h1 h3
      by_cases hb : b = i
      · have e := atp hb h4
        subst e
        exact hno ⟨a, xs, g1, .inl g2⟩
      · obtain ⟨g3, g4⟩ := look hb h2 h4
        exact r0.apart a b xs ys l hab g1 g3 g2 g4
  · by_cases hc : c = i
    · subst hc
      have hlt : c < σ.length := by simpa using (List.getElem?_eq_some_iff.mp h3).1
      rw [List.getElem?_set_self hlt] at h3
      cases h3
      exact hF
    · rw [show (ρ.set i (.own ds)).sl = ρ.sl.set i (.own ds) from rfl, List.getElem?_set_ne (fun q => hc q.symm)] at h
      rw [List.getElem?_set_ne (fun q => hc q.symm)] at h3
      exact r0.ownF c zs l h h3
  · obtain ⟨A, a1, a2, a3⟩ := r.m q hq
    refine ⟨A, a1, fun a ha => ⟨(a2 a ha).1, ?_⟩, fun c zs l h h3 hl => ?_⟩
    · have q := (a2 a ha).2
      rw [upd_ne (fun e => by rw [e, upd_same] at q; cases q)] at q
      exact q
    · by_cases hc : c = i
      · subst hc
        have hlt : c < σ.length := by simpa using (List.getElem?_eq_some_iff.mp h3).1
        rw [List.getElem?_set_self hlt] at h3
        cases h3
        have q := (a2 p hl).2
        rw [upd_same] at q
        cases q
      · rw [show (ρ.set i (.own ds)).sl = ρ.sl.set i (.own ds) from rfl, List.getElem?_set_ne (fun q => hc q.symm)] at h
        rw [List.getElem?_set_ne (fun q => hc q.symm)] at h3
        exact a3 c zs l h h3 hl
  · by_cases hc : c = i
    · subst hc
      have hj : c < ρ.sl.length := by simpa using (List.getElem?_eq_some_iff.mp h).1
      rw [show (ρ.set c (.own ds)).sl = ρ.sl.set c (.own ds) from rfl, List.getElem?_set_self hj] at h
      cases h
      refine .inr ⟨hx.ne, fun l h3 i a0 ps kd es h4 => ?_⟩
      rw [List.getElem?_set_self (by rw [r0.len]; exact hj)] at h3
      cases h3
      exact r.opPin h4
    · rw [show (ρ.set i (.own ds)).sl = ρ.sl.set i (.own ds) from rfl, List.getElem?_set_ne (fun q => hc q.symm)] at h
      refine .inl ⟨h, fun l h3 => ?_⟩
      rw [List.getElem?_set_ne (fun q => hc q.symm)] at h3
      exact h3
theorem R.toOwn {vs : List V} {ds : List D} (r : R K M P (upd F p (.lst vs)) L ρ σ H) (hF : F p = none) (hd : RpAll K (hide L H) vs ds) (i : Nat) : R K M P F L (ρ.set i (.own ds)) (σ.set i (some (.ref p))) H :=
  r.toOwnC (ds := .l ds) hF ⟨vs, rfl, hd⟩ trivial i
end
end PD
namespace PD
open PySem L2
open Evl (Ex)
/-- a new list, held by hand -/
def DNw (K : Fr0) (M : Mk0) (f : FN) : TE := fun σ H Q => ∃ P F L ρ, R K M P F L ρ σ H ∧ f ρ fun ds ρ' => ∀ p vs L' H', Ex (hide L H) (hide L' H') → F p = none → R K M P (upd F p (.lst vs)) L' ρ' σ H' → RpAll K (hide L' H') vs ds → Q (.ref p) H'
structure PN (X : Cx) (M : Mk0) (e : Expr) (f : FN) : Prop where
  pe : PE X e (DNw X.k0 M f)
  mono : ∀ ρ k k', (∀ d ρ', k d ρ' → k' d ρ') → f ρ k → f ρ k'
theorem filter_ne {L : List Addr} {p : Addr} : p ∉ (L.filter fun a => decide (a ≠ p)) := fun h => of_decide_eq_true (List.mem_filter.mp h).2 rfl
/-- what was the def's own, as data -/
def ow : Ow → D
  | .l xs => .list xs
  | .d _ ps => .dict ps
  | .o _ C ps => .dict ((.list [], .int (C : Nat)) :: ps)
  | .x _ _ _ _ => .none
theorem OwAt.rp' {K : Fr0} {H : Hp} {p : Addr} {u : HO} (hp : H p = some u) : ∀ {c : Ow}, c.nx → OwAt K H p u c → Rp K H (.ref p) (ow c)
  | .l _, _, ⟨vs, h1, h2⟩ => .lst (.inl (.inl (by rw [hp, h1]))) h2
  | .d true _, _, ⟨o, xs, h1, h2⟩ => .dctN (by rw [hp, h1]) h2
  | .d false _, _, ⟨o, xs, h1, h2⟩ => .dct (by rw [hp, h1]) h2
  | .o _ _ _, _, ⟨_, dx, fs, h1, h2⟩ => .obj (by rw [hp, h1]) h2
theorem OwAt.rp {K : Fr0} {H : Hp} {p : Addr} {u : HO} {c : Ow} (h : OwAt K H p u c) (hp : H p = some u) (hx : c.nx) : Rp K H (.ref p) (ow c) := OwAt.rp' hp hx h
theorem reveal_own {K : Fr0} {M : Mk0} {P : Option Addr} {F : Hp} {L L' : List Addr} {ρ : Rho} {σ : L2.St} {H H' : Hp} {p : Addr} {u : HO} {c : Ow} (e : Ex (hide L H) (hide L' H')) (hF : F p = none)
    (r : R K M P (upd F p u) L' ρ σ H') (hd : OwAt K (hide L' H') p u c) (hx : c.nx) :
    ∃ L2, Ex (hide L H) (hide L2 H') ∧ R K M P F L2 ρ σ H' ∧ Rp K (hide L2 H') (.ref p) (ow c) ∧ hide L2 H' p = some u := by
  have ex : Ex (hide L' H') (hide (L'.filter fun a => decide (a ≠ p)) H') := hide_sub fun a ha => (List.mem_filter.mp ha).1
  have see : hide (L'.filter fun a => decide (a ≠ p)) H' p = some u := hide_some.mpr ⟨filter_ne, r.pinned.1⟩
  exact ⟨_, e.trans ex, r.reveal hF, (hd.up ex).rp see hx, see⟩
/-- a new list as data, still seen -/
theorem reveal_at {K : Fr0} {M : Mk0} {P : Option Addr} {F : Hp} {L L' : List Addr} {ρ : Rho} {σ : L2.St} {H H' : Hp} {p : Addr} {vs : List V} {ds : List D} (e : Ex (hide L H) (hide L' H')) (hF : F p = none)
    (r : R K M P (upd F p (.lst vs)) L' ρ σ H') (hd : RpAll K (hide L' H') vs ds) :
    ∃ L2, Ex (hide L H) (hide L2 H') ∧ R K M P F L2 ρ σ H' ∧ Rp K (hide L2 H') (.ref p) (.list ds) ∧ hide L2 H' p = some (.lst vs) := by
  have ex : Ex (hide L' H') (hide (L'.filter fun a => decide (a ≠ p)) H') := hide_sub fun a ha => (List.mem_filter.mp ha).1
  have see : hide (L'.filter fun a => decide (a ≠ p)) H' p = some (HO.lst vs) := hide_some.mpr ⟨filter_ne, r.pinned.1⟩
  exact ⟨_, e.trans ex, r.reveal hF, .lst (.inl (.inl see)) (dpa_ex ex _ _ hd), see⟩
/-- a new list as data -/
theorem reveal_rp {K : Fr0} {M : Mk0} {P : Option Addr} {F : Hp} {L L' : List Addr} {ρ : Rho} {σ : L2.St} {H H' : Hp} {p : Addr} {vs : List V} {ds : List D} (e : Ex (hide L H) (hide L' H')) (hF : F p = none)
    (r : R K M P (upd F p (.lst vs)) L' ρ σ H') (hd : RpAll K (hide L' H') vs ds) :
    ∃ L2, Ex (hide L H) (hide L2 H') ∧ R K M P F L2 ρ σ H' ∧ Rp K (hide L2 H') (.ref p) (.list ds) := by
  obtain ⟨L2, h1, h2, h3, _⟩ := reveal_at e hF r hd
  exact ⟨L2, h1, h2, h3⟩
def fOfN (f : FN) : FE := fun ρ k => f ρ fun ds ρ1 => k (.list ds) ρ1
section
variable {X : Cx} {M : Mk0} {a b c e o tg iter : Expr} {es rest : List Expr} {fa fb fc : FE} {fl : FL} {ft fu : FT} {fn : FN} {pos : Pos}
theorem dOfN (mf : ∀ ρ k k', (∀ d ρ', k d ρ' → k' d ρ') → fn ρ k → fn ρ k') (σ : L2.St) (H : Hp) (Q : VK) (h : DE X.k0 M (fOfN fn) σ H Q) : DNw X.k0 M fn σ H Q := by
  obtain ⟨P, F, L, ρ, r, k⟩ := h
  refine ⟨P, F, L, ρ, r, mf _ _ _ (fun ds ρ1 q p vs L1 H1 e1 hF r1 d1 => ?_) k⟩
  obtain ⟨L2, e2, r2, d2⟩ := reveal_rp e1 hF r1 d1
  exact q (.ref p) L2 H1 e2 r2 d2
theorem pd_ofN (h : PN X M e fn) : PD X M e (fOfN fn) := ⟨PE.wk h.pe (dOfN h.mono), fun ρ k k' g q => h.mono _ _ _ (fun ds ρ1 q => g _ _ q) q⟩
/-- what gives a new list at a free address -/
theorem new_pin {K : Fr0} {P : Option Addr} {F : Hp} {L : List Addr} {ρ : Rho} {σ : L2.St} {H : Hp} (r : R K M P F L ρ σ H) {vs : List V} {ds : List D} (d : RpAll K (hide L H) vs ds) {p : Addr} (hp : H p = none) :
    Ex (hide L H) (hide (p :: L) (upd H p (.lst vs))) ∧ F p = none ∧ R K M P (upd F p (.lst vs)) (p :: L) ρ σ (upd H p (.lst vs)) ∧ RpAll K (hide (p :: L) (upd H p (.lst vs))) vs ds := by
  have ex : Ex (hide L H) (hide (p :: L) (upd H p (.lst vs))) := fun a b hb => by
    obtain ⟨h3, h4⟩ := hide_some.mp hb
    have n : a ≠ p := ne_of_none h4 hp
    exact hide_some.mpr ⟨fun z => by
      rcases List.mem_cons.mp z with z | z
      · exact n z
      · exact h3 z, by rw [upd_ne n]; exact h4⟩
  refine ⟨ex, ?_, r.pinNew hp, dpa_ex ex _ _ d⟩
  cases q : F p with
  | none => rfl
  | some o =>
    have := (r.fr p o q).1
    rw [hp] at this
    cases this
def fnLst (fl : FL) : FN := fun ρ k => fl ρ fun ds ρ1 => ds.length ≤ 100000 ∧ k ds ρ1
def fn1 (g : D → Option (List D)) (fa : FE) : FN := fun ρ k => fa ρ fun d ρ1 => ∃ ds, g d = some ds ∧ k ds ρ1
def nList : D → Option (List D)
  | .list xs => some xs
  | .tuple xs => some xs
  | _ => none
/-- only the slots of vs changed -/
def OnlyAt (vs : List Nat) (σ σ' : L2.St) : Prop := σ'.length = σ.length ∧ ∀ i, i ∉ vs → σ'[i]? = σ[i]?
theorem OnlyAt.refl {vs : List Nat} {σ : L2.St} : OnlyAt vs σ σ := ⟨rfl, fun _ _ => rfl⟩
theorem OnlyAt.trans {vs : List Nat} {σ σ1 σ2 : L2.St} (a : OnlyAt vs σ σ1) (b : OnlyAt vs σ1 σ2) : OnlyAt vs σ σ2 := ⟨b.1.trans a.1, fun i h => (b.2 i h).trans (a.2 i h)⟩
theorem OnlyAt.mono {vs ws : List Nat} {σ σ1 : L2.St} (a : OnlyAt vs σ σ1) (h : ∀ i ∈ vs, i ∈ ws) : OnlyAt ws σ σ1 := ⟨a.1, fun i g => a.2 i fun z => g (h i z)⟩
theorem wipe_get (σ : L2.St) : ∀ (vs : List Nat) (i : Nat), (wipe σ vs)[i]? = if i ∈ vs then (if i < σ.length then some none else none) else σ[i]?
  | [], i => by simp [wipe]
  | v :: vs, i => by
    unfold wipe
    by_cases e : v = i
    · subst e
      by_cases hl : v < σ.length
      · rw [List.getElem?_set_self (by rw [wipe_length]; exact hl), if_pos List.mem_cons_self, if_pos hl]
      · rw [if_pos List.mem_cons_self, if_neg hl]
        exact List.getElem?_eq_none (by simp [wipe_length]; omega)
    · rw [List.getElem?_set_ne e, wipe_get σ vs i]
      by_cases hm : i ∈ vs
      · rw [if_pos hm, if_pos (List.mem_cons_of_mem _ hm)]
      · rw [if_neg hm, if_neg]
        intro z
        rcases List.mem_cons.mp z with z | z
        · exact e z.symm
        · exact hm z
theorem wipe_only {vs : List Nat} {σ σ' : L2.St} (h : OnlyAt vs σ σ') : wipe σ' vs = wipe σ vs := by
  apply List.ext_getElem?
  intro i
  rw [wipe_get, wipe_get, h.1]
  by_cases hm : i ∈ vs
  · rw [if_pos hm, if_pos hm]
  · rw [if_neg hm, if_neg hm]
    exact h.2 i hm
theorem wipe_self (vs : List Nat) (σ : L2.St) : OnlyAt vs σ (wipe σ vs) := ⟨wipe_length σ vs, fun i h => by rw [wipe_get, if_neg h]⟩
def DGt (K : Fr0) (M : Mk0) (vs : List Nat) (f : FG) : TG := fun v σ H Q => ∃ P F L ρ d, R K M P F L ρ σ H ∧ Rp K (hide L H) v d ∧ f d ρ fun ρ' => ∀ σ' L' H', Ex (hide L H) (hide L' H') → R K M P F L' ρ' σ' H' → OnlyAt vs σ σ' → Q σ' H'
abbrev FGs := List D → Rho → (Rho → Prop) → Prop
structure PG1 (X : Cx) (M : Mk0) (tg : Expr) (vs : List Nat) (f : FG) : Prop where
  pg : PG X tg (DGt X.k0 M vs f)
  mono : ∀ d ρ k k', (∀ ρ', k ρ' → k' ρ') → f d ρ k → f d ρ k'
def fgN (i : Nat) : FG := fun d ρ k => k (ρ.set i (.d d))
theorem pg1_name {i : Nat} {x : Str} (h : PG X (.Name x pos) (gName i)) : PG1 X M (.Name x pos) [i] (fgN i) := by
  refine ⟨PG.wk h fun v σ H Q ⟨P, F, L, ρ, d, r, hd, k⟩ => ?_, fun d ρ k k' g q => g _ q⟩
  refine k (σ.set i (some v)) L H (Ex.refl _) (r.setD i (.d d) (some v) ⟨v, rfl, hd⟩ fun xs z => nomatch z) ⟨by simp, fun j hj => ?_⟩
  exact List.getElem?_set_ne fun z => hj (by rw [z]; exact List.mem_singleton.mpr rfl)
def fgNil : FGs := fun ds ρ k => ds = [] ∧ k ρ
def fgCons (g : FG) (gs : FGs) : FGs := fun ds ρ k => ∃ d r, ds = d :: r ∧ g d ρ fun ρ1 => gs r ρ1 k
def fgTup (n : Nat) (gs : FGs) : FG := fun d ρ k => ∃ ds, d = .tuple ds ∧ ds.length = n ∧ gs ds ρ k
end
end PD
namespace PD
open PySem L2
open Evl (Ex)
section
variable {X : Cx} {M : Mk0} {a b c e o tg iter : Expr} {es rest : List Expr} {fa fb fc : FE} {fl : FL} {ft fu : FT} {fn : FN} {fs fs' : FS} {st : Stmt} {sts : List Stmt} {pos : Pos}
def fsNext : FS := fun ρ P => P.nx ρ
def fsSeq (f g : FS) : FS := fun ρ P => f ρ { P with nx := fun ρ' => g ρ' P }
theorem pds_nil : PDs X M [] fsNext := ⟨PSs.wk pss_nil fun D σ H ⟨P, F, L, ρ, r, k⟩ => k σ L H (Ex.refl _) r, fun ρ k k' h q => h.nx _ q⟩
theorem fsSeq_mono {f g : FS} (mf : ∀ ρ k k', Post.Le k k' → f ρ k → f ρ k') (mg : ∀ ρ k k', Post.Le k k' → g ρ k → g ρ k') (ρ : Rho) (k k' : Post) (h : Post.Le k k') (q : fsSeq f g ρ k) : fsSeq f g ρ k' :=
  mf ρ { k with nx := fun ρ' => g ρ' k } { k' with nx := fun ρ' => g ρ' k' } ⟨fun ρ1 q => mg ρ1 k k' h q, h.rt, h.bk, h.ct⟩ q
theorem postLe_frz {K : Fr0} {P : Option Addr} {F : Hp} {L L1 : List Addr} {H H1 : Hp} (e1 : Ex (hide L H) (hide L1 H1)) (D : Ends) : Post.Le (postOf K M P F L H D) (postOf K M P F L1 H1 D) :=
  ⟨fun ρ2 q σ2 L2 H2 e2 r2 => q σ2 L2 H2 (e1.trans e2) r2, fun d ρ2 q v σ2 L2 H2 e2 r2 d2 => q v σ2 L2 H2 (e1.trans e2) r2 d2, fun ρ2 q σ2 L2 H2 e2 r2 => q σ2 L2 H2 (e1.trans e2) r2, fun ρ2 q σ2 L2 H2 e2 r2 => q σ2 L2 H2 (e1.trans e2) r2⟩
theorem pds_cons (h : PDS X M st fs) (hs : PDs X M sts fs') : PDs X M (st :: sts) (fsSeq fs fs') := by
  refine ⟨PSs.wk (pss_cons h.ps hs.ps) fun D σ H ⟨P, F, L, ρ, r, k⟩ => ?_, fsSeq_mono h.mono hs.mono⟩
  refine ⟨P, F, L, ρ, r, h.mono ρ _ (postOf X.k0 M P F L H { D with nx := DS X.k0 M fs' D }) ?_ k⟩
  refine ⟨fun ρ1 q σ1 L1 H1 e1 r1 => ?_, fun d ρ1 q => q, fun ρ1 q => q, fun ρ1 q => q⟩
  exact ⟨P, F, L1, ρ1, r1, hs.mono _ _ _ (postLe_frz e1 D) q⟩
theorem pds_one (h : PDS X M st fs) : PDs X M [st] fs := ⟨pss_one h.ps, h.mono⟩
def fsNever : FS := fun _ _ => False
theorem pds_never : PDS X M st fsNever := ⟨PS.wk ps_never fun D σ H ⟨_, _, _, _, _, k⟩ => k, fun _ _ _ _ q => q⟩
def fsBreak : FS := fun ρ P => P.bk ρ
def fsRet (fa : FE) : FS := fun ρ P => fa ρ P.rt
theorem pds_ret (h : PD X M e fa) : PDS X M (.Return (some e) pos) (fsRet fa) := by
  refine ⟨PS.wk (ps_ret h.pe) fun D σ H ⟨P, F, L, ρ, r, k⟩ => ?_, fun ρ k k' g q => h.mono _ _ _ g.rt q⟩
  exact ⟨P, F, L, ρ, r, h.mono _ _ _ (fun d ρ1 q v L1 H1 e1 r1 d1 => q v σ L1 H1 e1 r1 d1) k⟩
def fsDrop (fa : FE) : FS := fun ρ P => fa ρ fun _ ρ1 => P.nx ρ1
theorem pds_expr (h : PD X M e fa) (hs : swapsWith e none pos.line X.env = pure false := by rfl) : PDS X M (.Expr e pos) (fsDrop fa) := by
  refine ⟨PS.wk (ps_expr h.pe hs) fun D σ H ⟨P, F, L, ρ, r, k⟩ => ?_, fun ρ k k' g q => h.mono _ _ _ (fun _ ρ1 q => g.nx _ q) q⟩
  exact ⟨P, F, L, ρ, r, h.mono _ _ _ (fun d ρ1 q v L1 H1 e1 r1 d1 => q σ L1 H1 e1 r1) k⟩
def fsIf (ft : FT) (f g : FS) : FS := fun ρ P => ft ρ fun b ρ1 => if b = true then f ρ1 P else g ρ1 P
theorem pds_if {ss ts : List Stmt} (ht : PDT X M c ft) (hf : PDs X M ss fs) (hg : PDs X M ts fs') : PDS X M (.If c ss ts pos) (fsIf ft fs fs') := by
  refine ⟨PS.wk (ps_if ht.pt hf.ps hg.ps) fun D σ H ⟨P, F, L, ρ, r, k⟩ => ?_, fun ρ k k' h q => ht.mono _ _ _ (fun t ρ1 q => by
    cases t with
    | true => exact hf.mono _ _ _ h q
    | false => exact hg.mono _ _ _ h q) q⟩
  refine ⟨P, F, L, ρ, r, ht.mono _ _ _ (fun t ρ1 q L1 H1 e1 r1 => ?_) k⟩
  have le : ∀ D : Ends, Post.Le (postOf X.k0 M P F L H D) (postOf X.k0 M P F L1 H1 D) := fun D => ⟨fun ρ2 q σ2 L2 H2 e2 r2 => q σ2 L2 H2 (e1.trans e2) r2, fun d ρ2 q v σ2 L2 H2 e2 r2 d2 => q v σ2 L2 H2 (e1.trans e2) r2 d2, fun ρ2 q σ2 L2 H2 e2 r2 => q σ2 L2 H2 (e1.trans e2) r2, fun ρ2 q σ2 L2 H2 e2 r2 => q σ2 L2 H2 (e1.trans e2) r2⟩
  cases t with
  | true => exact ⟨P, F, L1, ρ1, r1, hf.mono _ _ _ (le D) q⟩
  | false => exact ⟨P, F, L1, ρ1, r1, hg.mono _ _ _ (le D) q⟩
/-- target = value, of data -/
def fsAsg (fa : FE) (g : FG) : FS := fun ρ P => fa ρ fun d ρ1 => g d ρ1 P.nx
theorem fsAsg_mono {g : FG} (ma : ∀ ρ k k', (∀ d ρ', k d ρ' → k' d ρ') → fa ρ k → fa ρ k') (mg : ∀ d ρ k k', (∀ ρ', k ρ' → k' ρ') → g d ρ k → g d ρ k') (ρ : Rho) (k k' : Post) (h : Post.Le k k') (q : fsAsg fa g ρ k) : fsAsg fa g ρ k' :=
  ma _ _ _ (fun d ρ1 q => mg _ _ _ _ h.nx q) q
theorem dAsg {g : FG} {vs : List Nat} (ma : ∀ ρ k k', (∀ d ρ', k d ρ' → k' d ρ') → fa ρ k → fa ρ k') (mg : ∀ d ρ k k', (∀ ρ', k ρ' → k' ρ') → g d ρ k → g d ρ k') (D : Ends) (σ : L2.St) (H : Hp) (h : DS X.k0 M (fsAsg fa g) D σ H) :
    tAsg (DE X.k0 M fa) (DGt X.k0 M vs g) D σ H := by
  obtain ⟨P, F, L, ρ, r, k⟩ := h
  refine ⟨P, F, L, ρ, r, ma _ _ _ (fun d ρ1 q v L1 H1 e1 r1 d1 => ?_) k⟩
  exact ⟨P, F, L1, ρ1, d, r1, d1, mg _ _ _ _ (fun ρ2 q σ2 L2 H2 e2 r2 _ => q σ2 L2 H2 (e1.trans e2) r2) q⟩
theorem pds_asg {g : FG} {vs : List Nat} (ha : PD X M e fa) (hg : PG1 X M tg vs g) (hs : swapsWithSole [tg] e pos.line X.env = pure false := by rfl) (hw : swappedStores [tg] e X.env = pure none := by rfl)
    (h1 : (assignEach [tg] X.env).map (·.2) = [assign tg X.env] := by rfl) : PDS X M (.Assign [tg] e pos) (fsAsg fa g) :=
  ⟨PS.wk (ps_asg ha.pe hg.pg hs hw h1) (dAsg ha.mono hg.mono), fsAsg_mono ha.mono hg.mono⟩
/-- x = a new list, that the def goes on filling -/
def fsOwn (i : Nat) (fn : FN) : FS := fun ρ P => fn ρ fun ds ρ1 => P.nx (ρ1.set i (.own ds))
/-- x.append(e), x a list of the def's own -/
def fsApp (i : Nat) (fa : FE) : FS := fun ρ P => fa ρ fun d ρ1 => ∃ xs : List D, ρ1.sl[i]? = some (.own xs) ∧ xs.length < 1000000 ∧ P.nx (ρ1.set i (.own (xs ++ [d])))
/-- a list of the def's own is no longer filled -/
def frz (i : Nat) (ρ : Rho) : Rho := match ρ.sl[i]? with
  | some (.own (.x _ _ _ _)) => ρ
  | some (.own c) => ρ.set i (.d (ow c))
  | _ => ρ
def dropOwn (s : Sl) : Sl := match s with
  | .own _ => .no
  | s => s
def lendR (i : Nat) (ρ : Rho) : Rho := ⟨(frz i ρ).sl.map dropOwn, ρ.n⟩
theorem bare_drop (l : List Sl) (n : Nat) : Bare ⟨l.map dropOwn, n⟩ := fun i xs h => by
  have h : (l.map dropOwn)[i]? = some (.own xs) := h
  rw [List.getElem?_map] at h
  cases e : l[i]? with
  | none => rw [e] at h; cases h
  | some s =>
    rw [e] at h
    cases s <;> cases h
/-- all lists of one's own set aside -/
theorem R.aside {K : Fr0} {P : Option Addr} {F : Hp} {L : List Addr} {ρ : Rho} {σ : L2.St} {H : Hp} (r : R K M P F L ρ σ H) : R K M P (keepF ρ σ F H) L ⟨ρ.sl.map dropOwn, ρ.n⟩ σ H := by
  refine r.frame (bare_drop _ _) rfl (by simp [r.len]) fun i s o h1 h2 => ?_
  have h1 : (ρ.sl.map dropOwn)[i]? = some s := h1
  rw [List.getElem?_map] at h1
  cases e : ρ.sl[i]? with
  | none => rw [e] at h1; cases h1
  | some t =>
    rw [e] at h1
    have q := r.sl i t o e h2
    cases t <;> (cases h1; first | trivial | exact q)
def ftLend (i : Nat) (ft : FT) : FT := fun ρ k => ft (lendR i ρ) fun b ρ' => k b ⟨ρ.sl, ρ'.n⟩
def fLend (i : Nat) (fa : FE) : FE := fun ρ k => fa (lendR i ρ) fun d ρ' => flatD d = true ∧ k d ⟨ρ.sl, ρ'.n⟩
end
end PD
namespace PD
open PySem L2
open Evl (Ex)
/-- what an iterator gives: the data ds, one by one, whatever is made meanwhile -/
def Walks (K : Fr0) (J : It) (L : List Addr) (H : Hp) (ds : List D) : Prop :=
  ∀ L2 H2, Ex (hide L H) (hide L2 H2) → (∀ a ∈ L2, ∃ o, H2 a = some o) → ∀ i,
    (∀ d, ds[i]? = some d → J.go i H2 ∧ ∀ x H3, J.yld i H2 x H3 → Ex H2 H3 ∧ Rp K (hide L2 H3) x d) ∧ (ds.length ≤ i → J.stop i H2)
theorem Walks.mono {K : Fr0} {J : It} {L L' : List Addr} {H H' : Hp} {ds : List D} (w : Walks K J L H ds) (e : Ex (hide L H) (hide L' H')) : Walks K J L' H' ds := fun L2 H2 e2 tr => w L2 H2 (e.trans e2) tr
abbrev FI := Rho → (List D → Rho → Prop) → Prop
def DI (K : Fr0) (M : Mk0) (f : FI) : TI := fun σ H Q => ∃ P F L ρ, R K M P F L ρ σ H ∧ f ρ fun ds ρ' => ∀ J L' H', Ex (hide L H) (hide L' H') → R K M P F L' ρ' σ H' → Walks K J L' H' ds → Q J H'
structure PDI (X : Cx) (M : Mk0) (tg iter : Expr) (f : FI) : Prop where
  pi : PI X tg iter (DI X.k0 M f)
  mono : ∀ ρ k k', (∀ d ρ', k d ρ' → k' d ρ') → f ρ k → f ρ k'
def forD (g : FG) (fb : FS) : List D → Rho → Post → Prop
  | [], ρ, P => P.nx ρ
  | x :: xs, ρ, P => g x ρ fun ρ1 => fb ρ1 { nx := fun ρ' => forD g fb xs ρ' P, ct := fun ρ' => forD g fb xs ρ' P, bk := P.nx, rt := P.rt }
def wipeR (vs : List Nat) (ρ : Rho) : Rho := ⟨vs.foldr (fun v l => l.set v .no) ρ.sl, ρ.n⟩
/-- a comprehension: what is made so far, one by one -/
def compD (g : FG) (ft : FT) (fe : FE) (vs : List Nat) : List D → List D → Rho → (List D → Rho → Prop) → Prop
  | [], acc, ρ, k => k acc ρ
  | x :: xs, acc, ρ, k => g x (wipeR vs ρ) fun ρ1 => ft ρ1 fun b ρ2 => if b = true then fe ρ2 fun y ρ3 => compD g ft fe vs xs (acc ++ [y]) ⟨ρ.sl, ρ3.n⟩ k else compD g ft fe vs xs acc ⟨ρ.sl, ρ2.n⟩ k
def ftYes : FT := fun ρ k => k true ρ
theorem R.wipe {K : Fr0} {M : Mk0} {P : Option Addr} {F : Hp} {L : List Addr} {ρ : Rho} {σ : L2.St} {H : Hp} (r : R K M P F L ρ σ H) : ∀ vs : List Nat, R K M P F L (wipeR vs ρ) (wipe σ vs) H
  | [] => r
  | v :: vs => (r.wipe vs).setD v .no none trivial fun xs z => nomatch z
section
variable {X : Cx} {M : Mk0} {a b c e o tg iter elt : Expr} {es rest ifs : List Expr} {fa fb fc fe : FE} {fl : FL} {ft fu : FT} {fn : FN} {fs fs' : FS} {fi : FI} {g : FG} {st : Stmt} {sts body : List Stmt} {pos : Pos}
theorem forD_mono (mg : ∀ d ρ k k', (∀ ρ', k ρ' → k' ρ') → g d ρ k → g d ρ k') (mb : ∀ ρ k k', Post.Le k k' → fs ρ k → fs ρ k') : ∀ (ds : List D) (ρ : Rho) (k k' : Post), Post.Le k k' → forD g fs ds ρ k → forD g fs ds ρ k'
  | [], ρ, k, k', h, q => h.nx _ q
  | d :: ds, ρ, k, k', h, q => mg _ _ _ _ (fun ρ1 q => mb ρ1 { nx := fun ρ' => forD g fs ds ρ' k, ct := fun ρ' => forD g fs ds ρ' k, bk := k.nx, rt := k.rt } { nx := fun ρ' => forD g fs ds ρ' k', ct := fun ρ' => forD g fs ds ρ' k', bk := k'.nx, rt := k'.rt }
      ⟨fun ρ2 q => forD_mono mg mb ds _ _ _ h q, h.rt, h.nx, fun ρ2 q => forD_mono mg mb ds _ _ _ h q⟩ q) q
def fsFor (fi : FI) (g : FG) (fb : FS) : FS := fun ρ P => fi ρ fun ds ρ1 => forD g fb ds ρ1 P
theorem dFor {vs : List Nat} (mi : ∀ ρ k k', (∀ d ρ', k d ρ' → k' d ρ') → fi ρ k → fi ρ k') (mg : ∀ d ρ k k', (∀ ρ', k ρ' → k' ρ') → g d ρ k → g d ρ k') (mb : ∀ ρ k k', Post.Le k k' → fs ρ k → fs ρ k')
    (D' : Ends) (σ : L2.St) (H : Hp) (h : DS X.k0 M (fsFor fi g fs) D' σ H) : tFor (DI X.k0 M fi) (DGt X.k0 M vs g) (DS X.k0 M fs) D' σ H := by
  obtain ⟨P, F, L, ρ, r, k⟩ := h
  refine ⟨P, F, L, ρ, r, mi _ _ _ (fun ds ρ1 q J L1 H1 e1 r1 w => ?_) k⟩
  refine ⟨fun i m σ' H' => m = ds.length - i ∧ i ≤ ds.length ∧ ∃ L' ρ', Ex (hide L1 H1) (hide L' H') ∧ R X.k0 M P F L' ρ' σ' H' ∧ forD g fs (ds.drop i) ρ' (postOf X.k0 M P F L H D'), ⟨ds.length, by simp, Nat.zero_le _, L1, ρ1, Ex.refl _, r1, by simpa using q⟩, ?_⟩
  rintro i m σ' H' ⟨rfl, hi, L', ρ', e', r', q'⟩
  have ww := w L' H' e' r'.tr i
  by_cases hlt : i < ds.length
  · have hd : ds[i]? = some ds[i] := List.getElem?_eq_getElem hlt
    obtain ⟨go, yl⟩ := ww.1 _ hd
    rw [List.drop_eq_getElem_cons hlt] at q'
    refine .inr ⟨go, fun σ2 H2 => ∃ L2 ρ2, Ex (hide L1 H1) (hide L2 H2) ∧ R X.k0 M P F L2 ρ2 σ2 H2 ∧ forD g fs (ds.drop (i + 1)) ρ2 (postOf X.k0 M P F L H D'), fun σ2 H2 ⟨L2, ρ2, e2, r2, q2⟩ => ⟨ds.length - (i + 1), by omega, rfl, hlt, L2, ρ2, e2, r2, q2⟩, fun x H2 y => ?_⟩
    obtain ⟨e2, d2⟩ := yl x H2 y
    refine ⟨P, F, L', ρ', ds[i], r'.ex e2, d2, mg _ _ _ _ (fun ρ3 q3 σ3 L3 H3 e3 r3 _ => ?_) q'⟩
    have e13 : Ex (hide L1 H1) (hide L3 H3) := (e'.trans (hide_ex e2)).trans e3
    refine ⟨P, F, L3, ρ3, r3, mb ρ3 { nx := fun ρ' => forD g fs (ds.drop (i + 1)) ρ' (postOf X.k0 M P F L H D'), ct := fun ρ' => forD g fs (ds.drop (i + 1)) ρ' (postOf X.k0 M P F L H D'), bk := (postOf X.k0 M P F L H D').nx, rt := (postOf X.k0 M P F L H D').rt } _ ⟨fun ρ4 q4 σ4 L4 H4 e4 r4 => ⟨L4, ρ4, e13.trans e4, r4, q4⟩, fun d ρ4 q4 v σ4 L4 H4 e4 r4 d4 => q4 v σ4 L4 H4 ((e1.trans e13).trans e4) r4 d4, fun ρ4 q4 σ4 L4 H4 e4 r4 => q4 σ4 L4 H4 ((e1.trans e13).trans e4) r4, fun ρ4 q4 σ4 L4 H4 e4 r4 => ⟨L4, ρ4, e13.trans e4, r4, q4⟩⟩ q3⟩
  · have e : ds.length ≤ i := by omega
    rw [List.drop_eq_nil_of_le e] at q'
    exact .inl ⟨ww.2 e, q' σ' L' H' (e1.trans e') r'⟩
theorem pds_for {vs : List Nat} (hp : PassesOwn (model X.prog X.w) X.A X.env X.xe) (hc : X.calm = true) (hi : PDI X M tg iter fi) (hg : PG1 X M tg vs g) (hb : PDs X M body fs) (hs : ∀ x, foldedSetIterable iter X.env x = pure x := by intro _; rfl) :
    PDS X M (.For tg iter body [] pos) (fsFor fi g fs) :=
  ⟨PS.wk (ps_for hp hc hi.pi hg.pg hb.ps hs) (dFor hi.mono hg.mono hb.mono), fun ρ k k' h q => hi.mono _ _ _ (fun ds ρ1 q => forD_mono hg.mono hb.mono ds _ _ _ h q) q⟩
def seqD : D → Option (List D)
  | .list xs => some xs
  | .tuple xs => some xs
  | _ => none
def fiSeq (fa : FE) : FI := fun ρ k => fa ρ fun d ρ1 => ∃ ds, seqD d = some ds ∧ k ds ρ1
theorem fiSeq_mono (ma : ∀ ρ k k', (∀ d ρ', k d ρ' → k' d ρ') → fa ρ k → fa ρ k') (ρ : Rho) (k k' : List D → Rho → Prop) (h : ∀ d ρ', k d ρ' → k' d ρ') (q : fiSeq fa ρ k) : fiSeq fa ρ k' :=
  ma _ _ _ (fun d ρ1 ⟨ds, h1, h2⟩ => ⟨ds, h1, h _ _ h2⟩) q
theorem walks_l {K : Fr0} {a : Addr} {vs : List V} {L : List Addr} {H : Hp} {ds : List D} (h : SqL K.f (hide L H) a vs) (hd : RpAll K (hide L H) vs ds) : Walks K (Itl K.f a) L H ds := by
  intro L2 H2 e tr i
  have h2 : SqL K.f H2 a vs := sql_le (Evl.ex_l e h)
  have d2 := dpa_ex e _ _ hd
  refine ⟨fun d hi => ?_, fun hl => ⟨vs, h2, by rw [dpa_len hd]; exact hl⟩⟩
  obtain ⟨v, hv, dv⟩ := dpa_get' d2 hi
  refine ⟨⟨vs, v, h2, hv⟩, fun x H3 ⟨e3, y⟩ => ?_⟩
  subst e3
  have := y vs h2
  rw [hv] at this
  cases this
  exact ⟨Ex.refl _, dv⟩
theorem walks_t {K : Fr0} {a : Addr} {vs : List V} {L : List Addr} {H : Hp} {ds : List D} (h : SqT K.f (hide L H) a vs) (hd : RpAll K (hide L H) vs ds) : Walks K (Itt K.f a) L H ds := by
  intro L2 H2 e tr i
  have h2 : SqT K.f H2 a vs := sqt_le (Evl.ex_t e h)
  have d2 := dpa_ex e _ _ hd
  refine ⟨fun d hi => ?_, fun hl => ⟨vs, h2, by rw [dpa_len hd]; exact hl⟩⟩
  obtain ⟨v, hv, dv⟩ := dpa_get' d2 hi
  refine ⟨⟨vs, v, h2, hv⟩, fun x H3 ⟨e3, y⟩ => ?_⟩
  subst e3
  have := y vs h2
  rw [hv] at this
  cases this
  exact ⟨Ex.refl _, dv⟩
def iSeq (K : PySem.W.Frag) (tl : TE) : TI := fun σ H R => tl σ H fun x H1 => ∃ a, x = V.ref a ∧ ((∃ xs, SqL K H1 a xs) ∧ R (Itl K a) H1 ∨ (∃ xs, SqT K H1 a xs) ∧ R (Itt K a) H1)
theorem pi_seq {l : Expr} {tl : TE} (hl : PE X l tl) : PI X tg l (iSeq X.K tl) := by
  refine ⟨fun pins s σ H R0 I h => ?_⟩
  refine thn (hl.run pins s σ H _ I h) fun v s1 ⟨x, H1, I1, r1, q1⟩ => ?_
  obtain ⟨a, e, q⟩ := q1
  subst e
  rcases q with ⟨⟨xs, hq⟩, q⟩ | ⟨⟨xs, hq⟩, q⟩
  · exact pi_list_tail I1 r1 hq q
  · exact pi_tup_tail I1 r1 hq q
where
  pi_list_tail {pins : List (Addr × Obj)} {s1 : Shared} {σ : L2.St} {H1 : Hp} {a : Addr} {xs : List V} {v : Value} {R0 : It → Hp → Prop} (I1 : Inv X pins σ H1 s1) (r1 : RelV (.ref a) v) (hq : SqL X.K H1 a xs) (q : R0 (Itl X.K a) H1) :
      wpAny (model X.prog X.w) X.A (pyIter v) (PIE X pins σ tg R0) X.xe s1 := by
    cases r1
    obtain ⟨its, rv, p, hz⟩ := I1.list hq
    refine wpAny_pyIter_list p.isList ?_
    refine ⟨s1.heap.objs.size, [s1.heap.objs.size], _, _, H1, rfl, I1.kept (t' := s1.toks) fun b o e => Heap.get?_push_of_some _ e, turn_list a _, ⟨_, Heap.get?_push_size _ rfl, rfl, rfl⟩, fun b hb => ?_, q⟩
    have e : b = s1.heap.objs.size := by simpa using hb
    subst e
    exact I1.fpOk (Nat.le_refl _) (I1.hok.fresh (Nat.le_refl _))
  pi_tup_tail {pins : List (Addr × Obj)} {s1 : Shared} {σ : L2.St} {H1 : Hp} {a : Addr} {xs : List V} {v : Value} {R0 : It → Hp → Prop} (I1 : Inv X pins σ H1 s1) (r1 : RelV (.ref a) v) (hq : SqT X.K H1 a xs) (q : R0 (Itt X.K a) H1) :
      wpAny (model X.prog X.w) X.A (pyIter v) (PIE X pins σ tg R0) X.xe s1 := by
    cases r1
    obtain ⟨its, rv, p, hz⟩ := I1.tuple hq
    refine wpAny_pyIter_tuple (show s1.heap.IsTuple a its.toArray from p) ?_
    refine ⟨s1.heap.objs.size, [s1.heap.objs.size], _, _, H1, rfl, I1.kept (t' := s1.toks) fun b o e => Heap.get?_push_of_some _ e, turn_tuple a _, ⟨_, Heap.get?_push_size _ rfl, rfl, rfl⟩, fun b hb => ?_, q⟩
    have e : b = s1.heap.objs.size := by simpa using hb
    subst e
    exact I1.fpOk (Nat.le_refl _) (I1.hok.fresh (Nat.le_refl _))
theorem pdi_seq (h : PD X M iter fa) : PDI X M tg iter (fiSeq fa) := by
  refine ⟨PI.wk (pi_seq h.pe) fun σ H Q ⟨P, F, L, ρ, r, k⟩ => ?_, fiSeq_mono h.mono⟩
  refine ⟨P, F, L, ρ, r, h.mono _ _ _ (fun d ρ1 ⟨ds, h1, q⟩ v L1 H1 e1 r1 d1 => ?_) k⟩
  cases d with
  | list xs =>
    cases h1
    cases d1 with
    | lst g1 g2 => exact ⟨_, rfl, .inl ⟨⟨_, sql_le g1⟩, q _ L1 H1 e1 r1 (walks_l g1 g2)⟩⟩
  | tuple xs =>
    cases h1
    cases d1 with
    | tup g1 g2 => exact ⟨_, rfl, .inr ⟨⟨_, sqt_le g1⟩, q _ L1 H1 e1 r1 (walks_t g1 g2)⟩⟩
  | none => cases h1
  | bool _ => cases h1
  | int _ => cases h1
  | str _ => cases h1
  | dict _ => cases h1
/-- range(n), range(a, b) -/
def rangeD (lo hi : Int) : List D := (List.range (hi - lo).toNat).map fun (i : Nat) => PyData.int (lo + i)
def fiRange1 (fl : FL) : FI := fun ρ k => fl ρ fun ds ρ1 => ∃ j, ds = [.int j] ∧ -(2 ^ 62) ≤ j ∧ j < 2 ^ 62 ∧ k (rangeD 0 j) ρ1
def fiRange2 (fl : FL) : FI := fun ρ k => fl ρ fun ds ρ1 => ∃ i j, ds = [.int i, .int j] ∧ (-(2 ^ 62) ≤ i ∧ i < 2 ^ 62 ∧ -(2 ^ 62) ≤ j ∧ j < 2 ^ 62) ∧ k (rangeD i j) ρ1
theorem rangeD_length (lo hi : Int) : (rangeD lo hi).length = (hi - lo).toNat := by
  unfold rangeD
  rw [List.length_map, List.length_range]
theorem rangeD_get {lo hi : Int} {i : Nat} {d : D} (h : (rangeD lo hi)[i]? = some d) : i < (hi - lo).toNat ∧ d = .int (lo + i) := by
  have hl : i < (hi - lo).toNat := by
    have := (List.getElem?_eq_some_iff.mp h).1
    rwa [rangeD_length] at this
  refine ⟨hl, ?_⟩
  unfold rangeD at h
  rw [List.getElem?_map, List.getElem?_range hl] at h
  cases h
  rfl
theorem walks_r {K : Fr0} {lo hi : Int} {L : List Addr} {H : Hp} : Walks K (Itr lo (hi - lo).toNat) L H (rangeD lo hi) := by
  intro L2 H2 e tr i
  refine ⟨fun d hi => ?_, fun hl => by rw [rangeD_length] at hl; exact hl⟩
  obtain ⟨h1, h2⟩ := rangeD_get hi
  subst h2
  refine ⟨h1, fun x H3 ⟨e3, y⟩ => ?_⟩
  subst e3 y
  exact ⟨Ex.refl _, .int _⟩
theorem pdi_range1 {p : Pos} (hg : Gl X "range") (hm : X.mg "range" = none) (ha : PDL X M [a] fl) (hs : starEach [a] X.env = [(false, eval a X.env)] := by rfl) : PDI X M tg (.Call (.Name "range" p) [a] [] pos) (fiRange1 fl) := by
  refine ⟨PI.wk (pi_range1 hg hm ha.pa hs) fun σ H Q ⟨P, F, L, ρ, r, k⟩ => ?_, fun ρ k k' h q => ha.mono _ _ _ (fun ds ρ1 ⟨j, h1, h2, h3, q⟩ => ⟨j, h1, h2, h3, h _ _ q⟩) q⟩
  refine ⟨P, F, L, ρ, r, ha.mono _ _ _ (fun ds ρ1 ⟨j, h1, h2, h3, q⟩ vs L1 H1 e1 r1 d1 => ?_) k⟩
  subst h1
  cases d1 with
  | cons g1 g2 =>
    cases g2
    refine ⟨j, by rw [rp_int g1], h2, h3, ?_⟩
    have := q (Itr 0 (j - 0).toNat) L1 H1 e1 r1 walks_r
    simpa using this
/-- zip(a, b): two lists, or two tuples -/
def zipD : D → D → Option (List D)
  | .list xs, .list ys => some (List.zipWith (fun x y => PyData.tuple [x, y]) xs ys)
  | .tuple xs, .tuple ys => some (List.zipWith (fun x y => PyData.tuple [x, y]) xs ys)
  | _, _ => none
def fiZip (fl : FL) : FI := fun ρ k => fl ρ fun ds ρ1 => ∃ x y zs, ds = [x, y] ∧ zipD x y = some zs ∧ k zs ρ1
end
end PD
namespace PD
open PySem L2
open Evl (Ex)
section
variable {X : Cx} {M : Mk0} {a b c e o tg iter elt : Expr} {es rest ifs : List Expr} {fa fb fc fe : FE} {fl : FL} {ft fu : FT} {fn : FN} {fs fs' : FS} {fi : FI} {g : FG} {st : Stmt} {sts body : List Stmt} {pos : Pos}
theorem compD_mono (mg : ∀ d ρ k k', (∀ ρ', k ρ' → k' ρ') → g d ρ k → g d ρ k') (mt : ∀ ρ k k', (∀ d ρ', k d ρ' → k' d ρ') → ft ρ k → ft ρ k') (me : ∀ ρ k k', (∀ d ρ', k d ρ' → k' d ρ') → fe ρ k → fe ρ k') {vs : List Nat} :
    ∀ (ds acc : List D) (ρ : Rho) (k k' : List D → Rho → Prop), (∀ d ρ', k d ρ' → k' d ρ') → compD g ft fe vs ds acc ρ k → compD g ft fe vs ds acc ρ k'
  | [], acc, ρ, k, k', h, q => h _ _ q
  | d :: ds, acc, ρ, k, k', h, q => mg _ _ _ _ (fun ρ1 q => mt _ _ _ (fun t ρ2 q => by
    cases t with
    | true => exact me _ _ _ (fun y ρ3 q => compD_mono mg mt me ds _ _ _ _ h q) q
    | false => exact compD_mono mg mt me ds _ _ _ _ h q) q) q
/-- all lists of one's own aside meanwhile; at most so many items -/
def fnComp (fi : FI) (g : FG) (ft : FT) (fe : FE) (vs : List Nat) : FN := fun ρ k => fi ρ fun ds ρ1 => ds.length ≤ 1000000 ∧ compD g ft fe vs ds [] ⟨ρ1.sl.map dropOwn, ρ1.n⟩ fun out ρ2 => k out ⟨ρ1.sl, ρ2.n⟩
theorem fnComp_mono {vs : List Nat} (mi : ∀ ρ k k', (∀ d ρ', k d ρ' → k' d ρ') → fi ρ k → fi ρ k') (mg : ∀ d ρ k k', (∀ ρ', k ρ' → k' ρ') → g d ρ k → g d ρ k') (mt : ∀ ρ k k', (∀ d ρ', k d ρ' → k' d ρ') → ft ρ k → ft ρ k') (me : ∀ ρ k k', (∀ d ρ', k d ρ' → k' d ρ') → fe ρ k → fe ρ k')
    (ρ : Rho) (k k' : List D → Rho → Prop) (h : ∀ d ρ', k d ρ' → k' d ρ') (q : fnComp fi g ft fe vs ρ k) : fnComp fi g ft fe vs ρ k' :=
  mi _ _ _ (fun ds ρ1 q => ⟨q.1, compD_mono mg mt me ds _ _ _ _ (fun out ρ2 q => h _ _ q) q.2⟩) q
theorem dComp {vs : List Nat} (mi : ∀ ρ k k', (∀ d ρ', k d ρ' → k' d ρ') → fi ρ k → fi ρ k') (mg : ∀ d ρ k k', (∀ ρ', k ρ' → k' ρ') → g d ρ k → g d ρ k') (mt : ∀ ρ k k', (∀ d ρ', k d ρ' → k' d ρ') → ft ρ k → ft ρ k') (me : ∀ ρ k k', (∀ d ρ', k d ρ' → k' d ρ') → fe ρ k → fe ρ k')
    (hgv : ∀ ρ d k, g d ρ k → True) (σ : L2.St) (H : Hp) (Q : VK) (h : DNw X.k0 M (fnComp fi g ft fe vs) σ H Q) : tLc (DI X.k0 M fi) (DGt X.k0 M vs g) (DT X.k0 M ft) (DE X.k0 M fe) vs σ H Q := by
  obtain ⟨P, F, L, ρ, r, k⟩ := h
  refine ⟨P, F, L, ρ, r, mi _ _ _ (fun ds ρ1 q J L1 H1 e1 r1 w => ?_) k⟩
  obtain ⟨hsz, q⟩ := q
  intro A hA
  -- the new list is held; the def's own lists are aside
  have r2 := r1.aside
  have r3 := r2.pinNew (o := HO.lst []) hA
  have e3 : Ex (hide L1 H1) (hide (A :: L1) (upd H1 A (.lst []))) := (new_pin (vs := []) (ds := []) r2 .nil hA).1
  refine ⟨fun i m H' => m = ds.length - i ∧ i ≤ ds.length ∧ ∃ L' n' acc us, Ex (hide L1 H1) (hide L' H') ∧ R X.k0 M P (upd (keepF ρ1 σ F H1) A (.lst us)) L' ⟨ρ1.sl.map dropOwn, n'⟩ σ H' ∧ RpAll X.k0 (hide L' H') us acc ∧ acc.length ≤ i ∧
      compD g ft fe vs (ds.drop i) acc ⟨ρ1.sl.map dropOwn, n'⟩ (fun out ρ2 => ∀ p vs L' H', Ex (hide L H) (hide L' H') → F p = none → R X.k0 M P (upd F p (.lst vs)) L' ⟨ρ1.sl, ρ2.n⟩ σ H' → RpAll X.k0 (hide L' H') vs out → Q (.ref p) H'),
    ⟨ds.length, by simp, Nat.zero_le _, A :: L1, ρ1.n, [], [], e3, r3, .nil, Nat.le_refl _, by simpa using q⟩, ?_⟩
  rintro i m H' ⟨rfl, hi, L', n', acc, us, e', r', d', ha, q'⟩
  have ww := w L' H' e' r'.tr i
  by_cases hlt : i < ds.length
  · have hd : ds[i]? = some ds[i] := List.getElem?_eq_getElem hlt
    obtain ⟨go, yl⟩ := ww.1 _ hd
    rw [List.drop_eq_getElem_cons hlt] at q'
    refine .inr ⟨go, fun H2 => ∃ L2 n2 acc2 us2, Ex (hide L1 H1) (hide L2 H2) ∧ R X.k0 M P (upd (keepF ρ1 σ F H1) A (.lst us2)) L2 ⟨ρ1.sl.map dropOwn, n2⟩ σ H2 ∧ RpAll X.k0 (hide L2 H2) us2 acc2 ∧ acc2.length ≤ i + 1 ∧
      compD g ft fe vs (ds.drop (i + 1)) acc2 ⟨ρ1.sl.map dropOwn, n2⟩ (fun out ρ2 => ∀ p vs L' H', Ex (hide L H) (hide L' H') → F p = none → R X.k0 M P (upd F p (.lst vs)) L' ⟨ρ1.sl, ρ2.n⟩ σ H' → RpAll X.k0 (hide L' H') vs out → Q (.ref p) H'),
      fun H2 ⟨L2, n2, acc2, us2, e2, r2', d2, a2, q2⟩ => ⟨ds.length - (i + 1), by omega, rfl, hlt, L2, n2, acc2, us2, e2, r2', d2, a2, q2⟩, fun x H2 y => ?_⟩
    obtain ⟨e2, d2⟩ := yl x H2 y
    have r4 := (r'.ex e2).wipe vs
    refine ⟨P, _, L', _, ds[i], r4, d2, mg _ _ _ _ (fun ρ5 q5 σ5 L5 H5 e5 r5 o5 => ?_) q'⟩
    refine ⟨by rw [wipe_only o5]; exact wipe_only (wipe_self vs σ), ?_⟩
    have e15 : Ex (hide L1 H1) (hide L5 H5) := (e'.trans (hide_ex e2)).trans e5
    have e'5 : Ex (hide L' H') (hide L5 H5) := (hide_ex e2).trans e5
    -- the state behind a part of the block, back in the comprehension's frame
    have back : ∀ {ρx σx Lx Hx}, Ex (hide L5 H5) (hide Lx Hx) → R X.k0 M P (upd (keepF ρ1 σ F H1) A (.lst us)) Lx ρx σx Hx → R X.k0 M P (upd (keepF ρ1 σ F H1) A (.lst us)) Lx ⟨ρ1.sl.map dropOwn, ρx.n⟩ σ Hx := fun {ρx σx Lx Hx} ex rx => by
      have e6 := (e'5.trans ex)
      refine ⟨r'.len, fun j s u h1 h2 => ?_, rx.fr, rx.tr, fun a b xs ys l _ h => absurd h (bare_drop ρ1.sl n' a xs), fun j xs l h => absurd h (bare_drop ρ1.sl n' j xs), fun p hp => ?_, rx.tb, fun j _ _ _ _ h => absurd h (bare_drop ρ1.sl n' j _)⟩
      · have q := r'.sl j s u h1 h2
        cases s with
        | no => trivial
        | d z =>
          obtain ⟨v, g3, g4⟩ := q
          exact ⟨v, g3, dp_ex e6 _ _ g4⟩
        | own xs => exact absurd h1 (bare_drop ρ1.sl n' j xs)
        | st => exact q
        | raw v => exact q
        | exc a d fl => exact ⟨q.1, q.2.up e6⟩
        | err C fl =>
          obtain ⟨a0, oe, d, y1, y2, y3, y4, y5⟩ := q
          exact ⟨a0, oe, d, y1, e6 _ _ y2, y3, y4, y5.up e6⟩
      · obtain ⟨B, b1, b2, b3⟩ := rx.m p hp
        exact ⟨B, b1, b2, fun j xs l h => absurd h (bare_drop ρ1.sl n' j xs)⟩
    refine ⟨P, _, L5, ρ5, r5, mt _ _ _ (fun t ρ6 q6 L6 H6 e6 r6 => ?_) q5⟩
    cases t with
    | true =>
      refine ⟨P, _, L6, ρ6, r6, me _ _ _ (fun z ρ7 q7 v L7 H7 e7 r7 d7 => ?_) q6⟩
      have pin := r7.pinned
      have d8 : RpAll X.k0 (hide L7 H7) us acc := dpa_ex (e'5.trans (e6.trans e7)) _ _ d'
      refine ⟨us, pin.1, by rw [dpa_len d8, sizeLine_eq]; omega, L7, ρ7.n, acc ++ [z], us ++ [v], ?_, ?_, ?_, by rw [List.length_append, List.length_singleton]; omega, q7⟩
      · rw [hide_repin pin.2]
        exact (e15.trans e6).trans e7
      · exact (back (e6.trans e7) r7).repin
      · rw [hide_repin pin.2]
        exact dpa_app d8 (.cons d7 .nil)
    | false =>
      exact ⟨L6, ρ6.n, acc, us, e15.trans e6, back e6 r6, dpa_ex (e'5.trans e6) _ _ d', by omega, q6⟩
  · have e : ds.length ≤ i := by omega
    rw [List.drop_eq_nil_of_le e] at q'
    refine .inl ⟨ww.2 e, ?_⟩
    -- give it out
    have hFA : F A = none := by
      cases z : F A with
      | none => rfl
      | some o =>
        have := (r1.fr A o z).1
        rw [hA] at this
        cases this
    have hno : ¬ Own ρ1 σ A := fun ho => by
      obtain ⟨us, g3⟩ := r1.own_some ho
      rw [hA] at g3
      cases g3
    have kF : upd (keepF ρ1 σ F H1) A (.lst us) = keepF ρ1 σ (upd F A (.lst us)) H1 := by
      funext z
      by_cases hz : z = A
      · subst hz
        rw [upd_same, keepF_not hno, upd_same]
      · rw [upd_ne hz]
        by_cases ho : Own ρ1 σ z
        · rw [keepF_own ho, keepF_own ho]
        · rw [keepF_not ho, keepF_not ho, upd_ne hz]
    refine q' A us L' H' (e1.trans e') hFA ?_ d'
    -- R.back with A held
    refine ⟨r1.len, fun j s u h1 h2 => ?_, fun z u h => ?_, r'.tr, r1.apart, fun j xs l h1 h2 => ?_, fun p hp => ?_, r'.tb.move (Ex.refl _) fun P' ps k1 k2 k3 => ⟨?_, k2, k3⟩, r1.opMv (fun h => h) e' opLook fun a vs ho h8 h9 h10 => ?_⟩
    · have q := r1.sl j s u h1 h2
      cases s with
      | no => trivial
      | d x =>
        obtain ⟨v, g3, g4⟩ := q
        exact ⟨v, g3, dp_ex e' _ _ g4⟩
      | own xs =>
        obtain ⟨l, vs', g3, g4, g5, g6⟩ := q
        have ho : Own ρ1 σ l := ⟨j, xs, h1, .inl (by rw [h2, g3])⟩
        have hf := r'.fr l vs' (by rw [kF, keepF_own ho]; exact g5)
        exact ⟨l, vs', g3, hf.2, hf.1, g6.up e'⟩
      | st => exact q
      | raw v => exact q
      | exc a d fl => exact ⟨q.1, q.2.up e'⟩
      | err C fl =>
        obtain ⟨a0, oe, d, y1, y2, y3, y4, y5⟩ := q
        exact ⟨a0, oe, d, y1, e' _ _ y2, y3, y4, y5.up e'⟩
    · by_cases hz : z = A
      · subst hz
        rw [upd_same] at h
        cases h
        exact r'.pinned
      · rw [upd_ne hz] at h
        have hno2 : ¬ Own ρ1 σ z := fun ho => by
          have := r1.own_nf ho
          rw [h] at this
          cases this
        exact r'.fr z u (by rw [upd_ne hz, keepF_not hno2]; exact h)
    · have : l ≠ A := fun z => hno ⟨j, xs, h1, .inl (by rw [h2, z])⟩
      rw [upd_ne this]
      exact r1.ownF j xs l h1 h2
    · obtain ⟨B, b1, b2, _⟩ := r'.m p hp
      have hB : ∀ z ∈ B, ¬ Own ρ1 σ z := fun z hz ho => by
        have q := (b2 z hz).2
        rw [kF, keepF_own ho] at q
        obtain ⟨us, g8⟩ := r1.own_some ho
        rw [g8] at q
        cases q
      refine ⟨B, b1, fun z hz => ⟨(b2 z hz).1, ?_⟩, fun j xs l h1 h2 hl => hB l hl ⟨j, xs, h1, .inl h2⟩⟩
      have q := (b2 z hz).2
      rw [kF, keepF_not (hB z hz)] at q
      exact q
    · have hz : P' ≠ A := fun z => by rw [z, upd_same] at k1; cases k1
      rw [upd_ne hz] at k1 ⊢
      cases z : F P' with
      | none => rfl
      | some o =>
        have hno2 : ¬ Own ρ1 σ P' := fun ho => by
          have := r1.own_nf ho
          rw [z] at this
          cases this
        rw [keepF_not hno2, z] at k1
        cases k1
    · have hf := r'.fr a _ (by rw [kF, keepF_own ho.1]; exact h10)
      refine ⟨hf.2, ?_, hf.1⟩
      rw [upd_ne (fun z => by rw [z, hA] at h10; cases h10)]
      exact h9
/-- the block of a comprehension -/
abbrev Blk (X : Cx) (scope : Scope) (s : Shared) (H : Hp) (C : Addr) (cl : List (Str × Addr)) (fp : List Addr) : Cx := X.blk s H scope (compEnvC scope cl C X.env) fp
structure PTn (X : Cx) (M : Mk0) (ifs : List Expr) (f : FT) : Prop where
  pt : PTs X ifs (DT X.k0 M f)
  mono : ∀ ρ k k', (∀ d ρ', k d ρ' → k' d ρ') → f ρ k → f ρ k'
theorem ptn_nil : PTn X M [] ftYes := ⟨PTs.wk pts_nil fun σ H Q ⟨P, F, L, ρ, r, k⟩ => k L H (Ex.refl _) r, fun ρ k k' h q => h _ _ q⟩
theorem ptn_one (h : PDT X M c ft) : PTn X M [c] ft := ⟨pts_one h.pt, h.mono⟩
theorem pn_lc {scope : Scope} {own : List (Str × Nat)} {vs : List Nat} (hc : X.calm = true) (hN : X.N.Nodup) (hi : PDI X M tg iter fi) (ok : BlkOk X.N X.env.scope scope own) (hv : own.map (·.2) = vs)
    (hg : ∀ s H C cl fp, PG1 (Blk X scope s H C cl fp) M tg vs g) (ht : ∀ s H C cl fp, PTn (Blk X scope s H C cl fp) M ifs ft) (he : ∀ s H C cl fp, PD (Blk X scope s H C cl fp) M elt fe)
    (w0 : Shared) (hs : ∀ x, foldedSetIterable iter X.env x = pure x := by intro _; rfl) : PN X M (.ListComp elt [⟨tg, iter, ifs, 0⟩] scope pos) (fnComp fi g ft fe vs) := by
  subst hv
  have h0 := hg w0 (fun _ => none) 0 [] []
  have t0 := ht w0 (fun _ => none) 0 [] []
  have e0 := he w0 (fun _ => none) 0 [] []
  refine ⟨PE.wk (pe_lc (te := DE X.k0 M fe) (tt := DT X.k0 M ft) (g := DGt X.k0 M (own.map (·.2)) g) hc hN hi.pi ok (fun s H C cl fp => (hg s H C cl fp).pg) (fun s H C cl fp => (ht s H C cl fp).pt) (fun s H C cl fp => (he s H C cl fp).pe) hs) fun σ H Q h => ?_, fnComp_mono hi.mono h0.mono t0.mono e0.mono⟩
  exact dComp hi.mono h0.mono t0.mono e0.mono (fun _ _ _ _ => trivial) σ H Q h
/-- .. as a list of the def's own -/
theorem pds_ownLc {i : Nat} {y : Str} {py spos : Pos} {scope : Scope} {own : List (Str × Nat)} {vs : List Nat} (hc : X.calm = true) (hN : X.N.Nodup) (hy : X.N[i]? = some y) (hyl : X.env.scope.names.lookup y = some .local)
    (hsw : swapsWith (.ListComp elt [⟨tg, iter, ifs, 0⟩] scope pos) (some (.Name y py)) spos.line X.env = pure true) (hi : PDI X M tg iter fi) (ok : BlkOk X.N X.env.scope scope own) (hv : own.map (·.2) = vs)
    (hg : ∀ s H C cl fp, PG1 (Blk X scope s H C cl fp) M tg vs g) (ht : ∀ s H C cl fp, PTn (Blk X scope s H C cl fp) M ifs ft) (he : ∀ s H C cl fp, PD (Blk X scope s H C cl fp) M elt fe)
    (w0 : Shared) (hs : ∀ x, foldedSetIterable iter X.env x = pure x := by intro _; rfl) :
    PDS X M (.Assign [.Name y py] (.ListComp elt [⟨tg, iter, ifs, 0⟩] scope pos) spos) (fsOwn i (fnComp fi g ft fe vs)) := by
  subst hv
  have h0 := hg w0 (fun _ => none) 0 [] []
  have t0 := ht w0 (fun _ => none) 0 [] []
  have e0 := he w0 (fun _ => none) 0 [] []
  have mN := fnComp_mono (vs := own.map (·.2)) hi.mono h0.mono t0.mono e0.mono
  refine ⟨PS.wk (ps_setLc (te := DE X.k0 M fe) (tt := DT X.k0 M ft) (g := DGt X.k0 M (own.map (·.2)) g) hc hN hy hyl hsw hi.pi ok (fun s H C cl fp => (hg s H C cl fp).pg) (fun s H C cl fp => (ht s H C cl fp).pt) (fun s H C cl fp => (he s H C cl fp).pe) hs) fun D' σ H h => ?_,
    fun ρ k k' h q => mN _ _ _ (fun ds ρ1 q => h.nx _ q) q⟩
  obtain ⟨P, F, L, ρ, r, k⟩ := h
  refine dComp hi.mono h0.mono t0.mono e0.mono (fun _ _ _ _ => trivial) σ H _ ?_
  refine ⟨P, F, L, ρ, r, mN _ _ _ (fun ds ρ1 q p vs L1 H1 e1 hF r1 d1 => ?_) k⟩
  exact q _ L1 H1 e1 (r1.toOwn hF d1 i)
def fsPar2 (i j : Nat) (fl : FL) : FS := fun ρ P => fl ρ fun ds ρ1 => ∃ x y, ds = [x, y] ∧ P.nx ((ρ1.set i (.d x)).set j (.d y))
def fsPar3 (i j l : Nat) (fl : FL) : FS := fun ρ P => fl ρ fun ds ρ1 => ∃ x y z, ds = [x, y, z] ∧ P.nx (((ρ1.set i (.d x)).set j (.d y)).set l (.d z))
end
end PD
namespace PD
open PySem L2 PyProof.Rows PySem.Spec
open Evl (Ex)
structure FnG (P : Program) (w : World) (K : PySem.W.Frag) (mg : Str → Option Value) (base : Heap) (CX : CXT) (k : Nat) (f : Addr) (fd : FuncData) (ps : List Str) (sp : Sp) : Prop where
  len : ∀ vs H Q E, sp vs H Q E → vs.length = ps.length
  go : ∀ (A : Around) (outer : List Env) (s : Shared) (H : Hp) (args : Args) (us : List Value) (vs : List V) (Q : VK) (E : XK), A.guards = some [] → Room k A → Env0 P w K mg base A outer s H → BindsTo s fd args (ps.zip us) → Vals vs us → sp vs H Q E →
    codeAny (model P w) A (.call (.ref f) args) (CR CX outer P w H s Q E) s
section
variable {P : Program} {w : World} {K : PySem.W.Frag} {mg : Str → Option Value} {base : Heap} {CX : CXT} {j k : Nat} {f : Addr} {fd : FuncData} {ps N : List Str} {sp sp' : Sp}
theorem FnG.mono (G : FnG P w K mg base CX j f fd ps sp) (h : j ≤ k) : FnG P w K mg base CX k f fd ps sp :=
  ⟨G.len, fun A outer s H args us vs Q E hg hr => G.go A outer s H args us vs Q E hg (hr.mono h)⟩
theorem FnG.imp (G : FnG P w K mg base CX k f fd ps sp) (h : ∀ vs H Q E, sp' vs H Q E → sp vs H Q E) : FnG P w K mg base CX k f fd ps sp' :=
  ⟨fun vs H Q E q => G.len vs H Q E (h _ _ _ _ q), fun A outer s H args us vs Q E hg hr he hb hv hs => G.go A outer s H args us vs Q E hg hr he hb hv (h _ _ _ _ hs)⟩
/-- a def of the text, by its body -/
theorem fnG_of {x qual : Str} {st : Stmt} (F : Fun K x qual st f fd) (S : FnScope N ps (defScope st)) (len : ∀ vs H Q E, sp vs H Q E → vs.length = ps.length)
    (body : ∀ (cdv : Value) (A : Around) (outer : List Env) (s : Shared) (H : Hp) (vs : List V) (Q : VK) (E : XK), A.guards = some [] → Room k (A.deeper (envOfC qual (defScope st) s.heap.objs.size f cdv)) → sp vs H Q E →
      ∃ t, PSs (cxOf CX P w K mg base N qual (defScope st) f cdv A outer s H E) (defBody st) t ∧ t { nx := fun _ H' => Q .non H', rt := Q } (start N vs) H) : FnG P w K mg base CX (k + 1) f fd ps sp := by
  obtain ⟨oc, od, kV, doc, pm, an, cdv, ct, osl, efd, lk, hcd⟩ := F.ex
  subst efd
  refine ⟨len, fun A outer s H args us vs Q E hgd hr e0 hbi hva hsp => ?_⟩
  have kin : K.In s.heap := e0.mod.kin.keeps fun b o e => (e0.bs b o e).1
  have nolim : s.heap.NoLimit := e0.mod.nolimit.keeps fun b o e => (e0.bs b o e).1
  have kinds : ∀ y ∈ ps.zip us, (defScope st).names.lookup y.1 = some .local ∨ ((defScope st).names.lookup y.1 = some .cell ∧ ((cellsFrom (s.heap.objs.size + 1) (defScope st).names []).lookup y.1).isSome = true) := by
    intro y hy
    obtain ⟨nm, vl⟩ := y
    rcases S.par nm (List.of_mem_zip hy).1 with loc | cel
    · exact .inl loc
    · exact .inr ⟨cel, PySem.W.cellsFrom_some _ _ _ (.inl cel)⟩
  refine codeAny_call_function hr.depth (kin _ _ lk) rfl S.co S.gen rfl (PySem.W.codeRec_of kin hcd) (hbi _ _ _ _ ?_)
  refine wpAny_newFunctionEnv_cells S.kind kinds fun env henv sA xA => ?_
  subst henv
  refine ⟨nolim.keeps xA.toInCall.keep, codeAny_func ?_⟩
  obtain ⟨t, ht, hq⟩ := body cdv A outer s H vs Q E hgd (hr.deeper _) hsp
  have IA : Inv (cxOf CX P w K mg base N qual (defScope st) f cdv A outer s H E) [] (start N vs) H sA := inv_start S hr.hd e0 (len _ _ _ _ hsp) hva xA
  refine wpAny_mono (ht.run [] sA (start N vs) H _ IA hq) (fun fl sB hs => ?_) fun e sB hs => hs
  cases fl with
  | next =>
    obtain ⟨σB, HB, JB, qB⟩ := hs
    exact ⟨V.non, HB, JB.os, JB.bare, JB.base, JB.hok, rfl, qB⟩
  | ret u =>
    obtain ⟨vB, σB, HB, JB, rB, qB⟩ := hs
    exact ⟨vB, HB, JB.os, JB.bare, JB.base, JB.hok, rB, qB⟩
  | brk =>
    obtain ⟨_, _, _, qB⟩ := hs
    exact qB.elim
  | cont =>
    obtain ⟨_, _, _, qB⟩ := hs
    exact qB.elim
end
section
variable {X : Cx} {CX : CXT} {k : Nat} {f : Addr} {fd : FuncData} {ps : List Str} {sp : Sp} {E : XK} {x : Str} {p pos : Pos} {e : Expr} {es : List Expr} {t : TA}
theorem run_fnG {pins : List (Addr × Obj)} {σ : L2.St} {H : Hp} {s : Shared} {Q : VK} {us : List Value} {vs : List V} (G : FnG X.prog X.w X.K X.mg X.base CX k f fd ps sp) (hgd : X.A.guards = some []) (hr : Room k X.A) (hb : Binds X.K fd ps []) (hx : Passes CX X E)
    (I : Inv X pins σ H s) (r : Vals vs us) (h : sp vs H Q E) : wpAny (model X.prog X.w) X.A (call (.ref f) us) (EP X pins σ Q) X.xe s := by
  have hl : (us ++ []).length = ps.length := by rw [List.append_nil, ← r.length]; exact G.len _ _ _ _ h
  have bi := hb s us I.kIn hl
  rw [List.append_nil] at bi
  refine wpAny_call (codeAny_mono (G.go X.A X.stack s H ⟨us, []⟩ us vs Q E hgd hr I.env0 bi r h) fun res sB hq => ?_)
  cases res with
  | error ex => exact hx pins σ H s ex sB I hq
  | ok fl =>
    cases fl with
    | ret u => exact I.after hq
    | next => exact hq.elim
    | brk => exact hq.elim
    | cont => exact hq.elim
def tCallG (sp : Sp) (E : XK) (t : TA) : TE := fun σ H Q => t σ H fun vs H1 => sp vs H1 Q E
theorem pe_callG (G : FnG X.prog X.w X.K X.mg X.base CX k f fd ps sp) (hgd : X.A.guards = some []) (hr : Room k X.A) (hg : Gl X x) (hm : X.mg x = some (.ref f)) (hk : PySem.W.keepIn X.K (.ref f) = true) (hb : Binds X.K fd ps []) (hx : Passes CX X E)
    (ha : PA X (e :: es) t) (hdb : (x == ("__debug__" : Str)) = false := by decide) (he : starEach (e :: es) X.env = (false, eval e X.env) :: starEach es X.env := by rfl) (hpl : (backTo pos (starEach es X.env)).any (·.1) = false := by rfl) :
    PE X (.Call (.Name x p) (e :: es) [] pos) (tCallG sp E t) := by
  constructor
  intro pins s σ H Q I hw
  refine wpAny_Call_Name_kw (ld_glob I hg hm ?_ hdb)
  exact PySem.W.callWith_K (h₀ := X.base) I.ok.mod.kin hk (thn (ha.run pos pins s σ H _ I hw) fun us sA ⟨vs, HA, IA, rA, qA⟩ => ⟨IA.kIn, run_fnG G hgd hr hb hx IA rA qA⟩) he hpl
end
/-- nothing is raised -/
theorem passF {X : Cx} : Passes (L2.CX X.prog X.w) X (fun _ _ _ => False) := fun _ _ _ _ _ _ _ ⟨_, _, _, _, _, _, _, _, _, _, _, _, z⟩ => z.elim
def spD (K : Fr0) (M : Mk0) (n : Nat) (W : FE) : Sp := fun vs H Q _ => ∃ P F L ρ, R K M P F L ρ (vs.map some) H ∧ Bare ρ ∧ ρ.sl.length = n ∧ W ρ (KV' K M P F L (vs.map some) H Q)
theorem spD_len {K : Fr0} {M : Mk0} {n : Nat} {W : FE} (vs : List V) (H : Hp) (Q : VK) (E : XK) (h : spD K M n W vs H Q E) : vs.length = n := by
  obtain ⟨P, F, L, ρ, r, _, hl, _⟩ := h
  have := r.len
  rw [List.length_map] at this
  omega
/-- only arguments are looked at when a def begins, only its value when it ends -/
def fBody (nN : Nat) (fs : FS) : FE := fun ρ k => fs ⟨ρ.sl ++ List.replicate (nN - ρ.sl.length) .no, ρ.n⟩ { nx := fun ρ' => k .none ⟨ρ.sl, ρ'.n⟩, rt := fun d ρ' => k d ⟨ρ.sl, ρ'.n⟩ }
section
variable {K : Fr0} {M : Mk0} {P : Option Addr} {F : Hp} {L L' : List Addr} {ρ ρ' : Rho} {σ σ' : L2.St} {H H' : Hp}
theorem R.start {vs : List V} (r : R K M P F L ρ (vs.map some) H) (hb : Bare ρ) (N : List Str) : R K M P F L ⟨ρ.sl ++ List.replicate (N.length - ρ.sl.length) .no, ρ.n⟩ (start N vs) H := by
  have hl : vs.length = ρ.sl.length := by simpa using r.len
  have bare : Bare ⟨ρ.sl ++ List.replicate (N.length - ρ.sl.length) .no, ρ.n⟩ := fun i xs h => by
    have h : (ρ.sl ++ List.replicate (N.length - ρ.sl.length) .no)[i]? = some (.own xs) := h
    by_cases hi : i < ρ.sl.length
    · rw [List.getElem?_append_left hi] at h
      exact hb i xs h
    · rw [List.getElem?_append_right (by omega), List.getElem?_replicate] at h
      split at h <;> cases h
  refine ⟨?_, fun i s o h1 h2 => ?_, r.fr, r.tr, fun a b xs ys l _ h => absurd h (bare a xs), fun i xs l h => absurd h (bare i xs), fun p hp => ?_, r.tb, fun i _ _ _ _ h => absurd h (bare i _)⟩
  · unfold L2.start
    simp [hl]
  · have h1 : (ρ.sl ++ List.replicate (N.length - ρ.sl.length) .no)[i]? = some s := h1
    unfold L2.start at h2
    by_cases hi : i < ρ.sl.length
    · rw [List.getElem?_append_left hi] at h1
      rw [List.getElem?_append_left (by simpa [hl] using hi)] at h2
      exact r.sl i s o h1 h2
    · rw [List.getElem?_append_right (by omega), List.getElem?_replicate] at h1
      split at h1
      · cases h1
        trivial
      · cases h1
  · obtain ⟨A, a1, a2, _⟩ := r.m p hp
    exact ⟨A, a1, a2, fun i xs l h => absurd h (bare i xs)⟩
/-- from a later state of another frame, with the same wishes -/
theorem R.swap (r : R K M P F L ρ σ H) (hb : Bare ρ) (r' : R K M P F L' ρ' σ' H') (e : Ex (hide L H) (hide L' H')) : R K M P F L' ⟨ρ.sl, ρ'.n⟩ σ H' := by
  refine ⟨r.len, fun i s o h1 h2 => ?_, r'.fr, r'.tr, fun a b xs ys l _ h => absurd h (hb a xs), fun i xs l h => absurd h (hb i xs), fun p hp => ?_, r'.tb, fun i _ _ _ _ h => absurd h (hb i _)⟩
  · have q := r.sl i s o h1 h2
    cases s with
    | no => trivial
    | d x =>
      obtain ⟨v, g1, g2⟩ := q
      exact ⟨v, g1, dp_ex e _ _ g2⟩
    | own xs => exact absurd h1 (hb i xs)
    | st => exact q
    | raw v => exact q
    | exc a d fl => exact ⟨q.1, q.2.up e⟩
    | err C fl =>
      obtain ⟨a0, oe, d, y1, y2, y3, y4, y5⟩ := q
      exact ⟨a0, oe, d, y1, e _ _ y2, y3, y4, y5.up e⟩
  · obtain ⟨A, a1, a2, _⟩ := r'.m p hp
    exact ⟨A, a1, a2, fun i xs l h => absurd h (hb i xs)⟩
end
section
variable {P : Program} {w : World} {K : PySem.W.Frag} {mg : Str → Option Value} {base : Heap} {k : Nat} {f : Addr} {fd : FuncData} {ps N : List Str} {M : Mk0} {fs : FS}
theorem fnD {x qual : Str} {st : Stmt} (F : Fun K x qual st f fd) (S : FnScope N ps (defScope st))
    (body : ∀ (cdv : Value) (A : Around) (outer : List Env) (s : Shared) (H : Hp) (E : XK), A.guards = some [] → Room k (A.deeper (envOfC qual (defScope st) s.heap.objs.size f cdv)) →
      PDs (cxOf (L2.CX P w) P w K mg base N qual (defScope st) f cdv A outer s H E).nox M (defBody st) fs) : FnG P w K mg base (L2.CX P w) (k + 1) f fd ps (spD ⟨K, w, P⟩ M ps.length (fBody N.length fs)) := by
  refine fnG_of F S (fun vs H Q E h => spD_len vs H Q E h) fun cdv A outer s H vs Q E hg hr ⟨P', F', L, ρ, r, hb, hl, hw⟩ => ?_
  have B := body cdv A outer s H E hg hr
  refine ⟨_, B.ps.nox, P', F', L, _, r.start hb N, B.mono _ _ _ ⟨fun ρ' q σ' L' H' e' r' => ?_, fun d ρ' q v σ' L' H' e' r' d' => ?_, fun _ (q : False) => q.elim, fun _ (q : False) => q.elim⟩ hw⟩
  · exact q .non L' H' e' (r.swap hb r' e') .non
  · exact q v L' H' e' (r.swap hb r' e') d'
end
section
variable {X : Cx} {M : Mk0} {k : Nat} {f : Addr} {fd : FuncData} {ps : List Str} {n : Nat} {W : FE} {x : Str} {p pos : Pos} {e : Expr} {es : List Expr} {fa : FA} {fl : FL}
/-- arguments: all data -/
def faD (fl : FL) : FA := fun ρ k => fl ρ fun ds ρ1 => k (ds.map .d) ρ1
theorem slots_d {K : Fr0} {P : Option Addr} {L : List Addr} {H : Hp} : ∀ {vs : List V} {ds : List D}, RpAll K (hide L H) vs ds → ∀ (i : Nat) (s : Sl) (v : V), (ds.map Sl.d)[i]? = some s → vs[i]? = some v → SlOk K P L H s (some v) := by
  intro vs ds h i s v h1 h2
  rw [List.getElem?_map] at h1
  obtain ⟨d, h3, h4⟩ := dpa_get h h2
  rw [h3] at h1
  cases h1
  exact ⟨v, rfl, h4⟩
theorem map_d_bare (ds : List D) : ∀ (i : Nat) (xs : Ow), (ds.map Sl.d)[i]? ≠ some (.own xs) := fun i xs h => by
  rw [List.getElem?_map] at h
  cases e : ds[i]? with
  | none => rw [e] at h; cases h
  | some d => rw [e] at h; cases h
theorem pda_d (h : PDL X M es fl) : PDA X M es (faD fl) := by
  refine ⟨PA.wk h.pa fun σ H Q ⟨P, F, L, ρ, r, q⟩ => ?_, fun ρ k k' g q => h.mono _ _ _ (fun ds ρ1 q => g _ _ q) q⟩
  refine ⟨P, F, L, ρ, r, h.mono _ _ _ (fun ds ρ1 q vs L1 H1 e1 r1 d1 => ?_) q⟩
  exact q vs L1 H1 e1 r1 (by simp [dpa_len d1]) (slots_d d1) (map_d_bare ds)
/-- .. the first one the object of the draws -/
def faSt (i : Nat) (fl : FL) : FA := fun ρ k => ρ.sl[i]? = some .st ∧ fl ρ fun ds ρ1 => k (.st :: ds.map .d) ρ1
theorem pda_st {i : Nat} {y : Str} {py : Pos} (hv : PE X (.Name y py) (tVar i)) (h : PDL X M es fl) (hs : starEach (.Name y py :: es) X.env = (false, eval (.Name y py) X.env) :: starEach es X.env := by rfl) : PDA X M (.Name y py :: es) (faSt i fl) := by
  refine ⟨PA.wk (pa_cons hv h.pa hs) fun σ H Q ⟨P, F, L, ρ, r, h0, q⟩ => ?_, fun ρ k k' g q => ⟨q.1, h.mono _ _ _ (fun ds ρ1 q => g _ _ q) q.2⟩⟩
  obtain ⟨a, hP, hσ⟩ := r.getSt h0
  refine ⟨.ref a, hσ, P, F, L, ρ, r, h.mono _ _ _ (fun ds ρ1 q vs L1 H1 e1 r1 d1 => ?_) q⟩
  refine q (.ref a :: vs) L1 H1 e1 r1 (by simp [dpa_len d1]) (fun j s v g1 g2 => ?_) fun j xs g => ?_
  · cases j with
    | zero =>
      simp at g1 g2
      subst g1 g2
      exact ⟨a, hP, rfl⟩
    | succ j => exact slots_d d1 j s v (by simpa using g1) (by simpa using g2)
  · cases j with
    | zero => simp at g
    | succ j => exact map_d_bare ds j xs (by simpa using g)
/-- a call: what the def makes of its arguments -/
def fCall (n : Nat) (W : FE) (fa : FA) : FE := fun ρ k => fa ρ fun ss ρ1 => ss.length = n ∧ W ⟨ss, ρ1.n⟩ fun d ρ2 => k d ⟨ρ1.sl, ρ2.n⟩
theorem pd_call (mW : ∀ ρ k k', (∀ d ρ', k d ρ' → k' d ρ') → W ρ k → W ρ k') (G : FnG X.prog X.w X.K X.mg X.base (L2.CX X.prog X.w) k f fd ps (spD X.k0 M n W)) (hgd : X.A.guards = some []) (hr : Room k X.A) (hg : Gl X x) (hm : X.mg x = some (.ref f)) (hk : PySem.W.keepIn X.K (.ref f) = true) (hb : Binds X.K fd ps [])
    (ha : PDA X M (e :: es) fa) (hdb : (x == ("__debug__" : Str)) = false := by decide) (he : starEach (e :: es) X.env = (false, eval e X.env) :: starEach es X.env := by rfl) (hpl : (backTo pos (starEach es X.env)).any (·.1) = false := by rfl) :
    PD X M (.Call (.Name x p) (e :: es) [] pos) (fCall n W fa) := by
  refine ⟨PE.wk (pe_callG (E := E0) G hgd hr hg hm hk hb passF ha.pa hdb he hpl) fun σ H Q ⟨P, F, L, ρ, r, q⟩ => ?_, fun ρ k k' g q => ha.mono _ _ _ (fun ss ρ1 q => ⟨q.1, mW _ _ _ (fun d ρ2 q => g _ _ q) q.2⟩) q⟩
  refine ⟨P, F, L, ρ, r, ha.mono _ _ _ (fun ss ρ1 q vs L1 H1 e1 r1 hl hs hbare => ?_) q⟩
  have bare : Bare ⟨ss, ρ1.n⟩ := hbare
  have r2 : R X.k0 M P (keepF ρ1 σ F H1) L1 ⟨ss, ρ1.n⟩ (vs.map some) H1 := r1.frame bare rfl (by simpa using hl) fun i s o g1 g2 => by
    rw [List.getElem?_map] at g2
    cases ev : vs[i]? with
    | none => rw [ev] at g2; cases g2
    | some v =>
      rw [ev] at g2
      cases g2
      exact hs i s v g1 ev
  refine ⟨P, _, L1, _, r2, bare, q.1, mW _ _ _ (fun d ρ2 q2 v L2 H2 e2 r3 d2 => ?_) q.2⟩
  exact q2 v L2 H2 (e1.trans e2) (r1.back r3 e2) d2
end
end PD
namespace PD
open PySem L2 PyProof.Rows PySem.Spec
open Evl (Ex)
/-- from a heap in which at most the script is known -/
theorem enterG {P : Program} {w : World} {K : PySem.W.Frag} {mg mb : Str → Option Value} {k : Nat} {fa a : Addr} {fd : FuncData} {x : Str} {sp : Sp} {sA : Shared} {H : Hp}
    (KX : K.In sA.heap) (hns : sA.heap.Ns mainGlobals mg) (hb : sA.heap.Ns builtinsNs mb) (hbb : ∀ x : Str, x ≠ "__name__" → mb x = bootBuiltins x) (hlim : sA.heap.NoLimit) (hgen : sA.gens = #[])
    (hr : Room k callerA) (F : ∀ base : Heap, K.In base → base.Ns mainGlobals mg → FnG P w K mg base (L2.CX P w) k fa fd [x] sp) (hbind : ∀ (s : Shared) (u : Value), BindsTo s fd ⟨[u], []⟩ [(x, u)])
    (hsp : sp [.ref a] H (fun v _ => v = .bl true) fun _ _ _ => False) (hok : HOk P w H sA.heap) (hO : Only H)
    (away : ∀ b o, H b ≠ none → sA.heap.get? b = some o → K.lookup b = none ∧ ∀ es ep, o.data ≠ .dict es ep) :
    codeAny (model P w) callerA (.call (.ref fa) ⟨[.ref a], []⟩) (fun r s' => r = .ok (.ret (.bool true)) ∧ OldK sA.heap s'.heap ∧ s'.os = sA.os ∧ AllBare s'.gens) sA := by
  have seen : ∀ {b : Addr} {o : Obj} {es : Array DictEntry} {ep : Nat}, sA.heap.get? b = some o → o.data = .dict es ep → H b = none := by
    intro b o es ep e d
    cases q : H b with
    | none => rfl
    | some u => exact absurd d ((away b o (by rw [q]; intro z; cases z) e).2 es ep)
  have nsH : ∀ {b : Addr} {m : Str → Option Value}, sA.heap.Ns b m → (hidT sA.heap H).Ns b m := by
    intro b m ⟨o, es, ep, e, d, rest⟩
    exact ⟨o, es, ep, hidT_get e (seen e d), d, rest⟩
  have kinH : K.In (hidT sA.heap H) := by
    intro b o e
    refine hidT_get (KX b o e) ?_
    cases q : H b with
    | none => rfl
    | some u =>
      have := (away b o (by rw [q]; intro z; cases z) (KX b o e)).1
      rw [e] at this
      cases this
  have mod : Mod K mg (hidT sA.heap H) := by
    obtain ⟨mc, l1, l2⟩ := hlim
    exact ⟨kinH, nsH hns, ⟨mb, nsH hb, hbb⟩, mc, nsH l1, l2⟩
  have env : Env0 P w K mg (hidT sA.heap H) callerA [] sA H :=
    ⟨rfl, mod, fun b o e => of_hidT e, Nat.le_of_eq (hidT_size _ _), trivial, fun b hb => absurd hb List.not_mem_nil, hok, .of_eq hgen⟩
  have G := F _ kinH (nsH hns)
  refine codeAny_mono (G.go callerA [] sA H ⟨[.ref a], []⟩ [.ref a] [.ref a] _ _ rfl hr env (hbind sA (.ref a)) (.cons rfl .nil) hsp) fun res sB hB => ?_
  cases res with
  | error e =>
    obtain ⟨_, _, _, _, _, _, _, _, _, _, _, _, z⟩ := hB
    exact z.elim
  | ok fl =>
    cases fl with
    | next => exact hB.elim
    | brk => exact hB.elim
    | cont => exact hB.elim
    | ret u =>
      obtain ⟨v, HB, osB, bareB, unB, okB, relB, qB⟩ := hB
      have qB : v = .bl true := qB
      subst qB
      have eu : u = Value.bool true := relB
      subst eu
      refine ⟨rfl, OldK.of_keep fun b o e => ?_, osB, bareB⟩
      cases q : H b with
      | none => exact unB.keep b o e q List.not_mem_nil List.not_mem_nil
      | some u =>
        rcases hO b with z | ⟨ob, xs, z⟩
        · rw [q] at z
          cases z
        · have g1 := (hok b _ z).1
          have g2 := (okB b _ (unB.frzs b ob _ z)).1
          rw [e] at g1
          cases g1
          exact g2
theorem walkG {l : PySem.W.OpenLaw} {n k : Nat} {q : Program} {loose : List Str} {XP : (Str → Option Value) → Heap → Prop} {YP : World → Heap → Prop} {d : DefRec} {K : Params → PySem.W.Frag} {sp : PySem.W.Frag → World → Sp} {x : Str}
    (hn : l.most = some n) (hn2 : n ≤ sizeLine) (hdf : d.params.defaults = []) (hr : Room k callerA) (hY : ∀ (w : World) (h : Heap), YP w h → (K w.params).In h)
    (F : ∀ (w : World) (mg : Str → Option Value) (fa : Addr) (h : Heap), (K w.params).In h → h.Ns mainGlobals mg → mg d.name = some (.ref fa) →
      ∃ fd : FuncData, (∀ (s : Shared) (u : Value), BindsTo s fd ⟨[u], []⟩ [(x, u)]) ∧ ∀ base : Heap, (K w.params).In base → base.Ns mainGlobals mg → FnG l.prog w (K w.params) mg base (L2.CX l.prog w) k fa fd [x] (sp (K w.params) w))
    (hsp : ∀ (K : PySem.W.Frag) (w : World) (H : Hp) (a : Addr) (ns : List Int), ns.length ≤ n → (∀ b, H b = none ∨ ∃ o xs, H b = some (.frz o (.lst xs))) → SqL K H a (ns.map V.int) → sp K w [.ref a] H (fun v _ => v = .bl true) fun _ _ _ => False) :
    PySem.W.WalkO q loose XP YP l.row.toRowW d [] (fun f vs => PySem.call f vs) := by
  refine Att.attach_call hn hdf fun w s₀ sA mg mb fa o pm cd doc a vs ns G Y ho hd hcd hmg hobj hints hlen hgen => ?_
  have KX := hY w _ Y
  obtain ⟨fd, hb, hF⟩ := F w mg fa _ KX G.T.g hmg
  have hlv := hints.length
  have rv := vals_ints hints
  have hsz : ns.length ≤ sizeLine := Nat.le_trans hlen hn2
  cases hk : (K w.params).lookup a with
  | some ob =>
    have same := KX a ob hk
    rw [hobj] at same
    cases same
    refine enterG (H := fun _ => none) KX G.T.g G.T.b G.T.builtins G.T.nolimit hgen hr hF hb (hsp _ _ _ a ns hlen (fun _ => .inl rfl) ?_) (fun b u z => nomatch z) (fun _ => .inl rfl) fun b o z => absurd rfl z
    exact .inr ⟨_, vs.toArray, _, hk, rfl, rfl, rfl, by rw [List.size_toArray]; omega, by simpa using rv⟩
  | none =>
    have hH : ∀ b, (fun c => if c = a then some (HO.frz { cls := .type "list", data := .seq vs.toArray } (.lst (ns.map V.int))) else none : Hp) b = none ∨
        (fun c => if c = a then some (HO.frz { cls := .type "list", data := .seq vs.toArray } (.lst (ns.map V.int))) else none : Hp) b = some (.frz { cls := .type "list", data := .seq vs.toArray } (.lst (ns.map V.int))) ∧ b = a := by
      intro b
      by_cases e : b = a
      · exact .inr ⟨if_pos e, e⟩
      · exact .inl (if_neg e)
    have only : Only (fun c => if c = a then some (HO.frz { cls := .type "list", data := .seq vs.toArray } (.lst (ns.map V.int))) else none : Hp) := fun b => (hH b).imp id fun z => ⟨_, _, z.1⟩
    refine enterG (H := fun c => if c = a then some (HO.frz { cls := .type "list", data := .seq vs.toArray } (.lst (ns.map V.int))) else none) KX G.T.g G.T.b G.T.builtins G.T.nolimit hgen hr hF hb
      (hsp _ _ _ a ns hlen (fun b => only b) (.inl (.inr ⟨_, if_pos rfl⟩))) (fun b u z => ?_) only fun b o z e => ?_
    · rcases hH b with y | ⟨y, rfl⟩
      · rw [y] at z
        cases z
      · rw [y] at z
        cases z
        exact ⟨hobj, by rw [List.length_map]; exact hsz, vs, _, rv, hobj⟩
    · rcases hH b with y | ⟨y, rfl⟩
      · exact absurd y z
      · refine ⟨hk, fun es ep w => ?_⟩
        rw [hobj] at e
        cases e
        cases w
end PD
namespace PySem
open Sem (wp)
open AutoSeq1 (wpAny_loadPart')
end PySem
namespace PD
open PySem L2 PyProof.Rows PySem.Spec
open Evl (Ex)
section
variable {X : Cx} {M : Mk0} {a e : Expr} {fl : FL} {p pos tpos : Pos} {elts : List Expr} {kk : Nat}
/-- enumerate(a), a list or a tuple -/
def enumA : D → Option (List D)
  | .list xs => some (xs.zipIdx.map fun p => PyData.tuple [.int (p.2 : Nat), p.1])
  | .tuple xs => some (xs.zipIdx.map fun p => PyData.tuple [.int (p.2 : Nat), p.1])
  | _ => none
def fiEnumA (fl : FL) : FI := fun ρ k => fl ρ fun ds ρ1 => ∃ x zs, ds = [x] ∧ enumA x = some zs ∧ k zs ρ1
end
end PD
namespace PD
open PySem L2 PyProof.Rows PySem.Spec
open Evl (Ex)
def tyName : D → String
  | .none => "NoneType"
  | .bool _ => "bool"
  | .int _ => "int"
  | .str _ => "str"
  | .list _ => "list"
  | .tuple _ => "tuple"
  | .dict _ => "dict"
def notDict : D → Bool
  | .dict _ => false
  | _ => true
/-- isinstance of a thing of the first kind -/
def isN (a T : String) : Bool := a == T || (a == "bool" && T == "int")
def isT (T : String) (d : D) : Bool := isN (tyName d) T
section
variable {X : Cx} {M : Mk0} {a : Expr} {fa : FE} {pos : Pos}
def gIsT (T : String) (d : D) : Option D := if notDict d = true then some (.bool (isT T d)) else none
/-- a built-in type's name as a value -/
theorem pe_tyName {T : String} {x : Str} {px : Pos} (hg : Gl X x) (hm : X.mg x = none) (hv : bootBuiltins x = some (.type T)) (hn : x ≠ "__name__" := by decide) (hd : (x == ("__debug__" : Str)) = false := by decide) : PE X (.Name x px) (tC (.ty T)) :=
  pe_bltn hg hm hv rfl hn hd
def fits (d : D) : Bool := d.showable && !d.hasDict && decide (d.shown.length ≤ sizeLine) && decide (d.depth ≤ 60)
theorem fits_and {d : D} (h : fits d = true) : d.showable = true ∧ d.hasDict = false ∧ d.shown.length ≤ sizeLine ∧ d.depth ≤ 60 := by
  unfold fits at h
  simp only [Bool.and_eq_true, decide_eq_true_eq, Bool.not_eq_true'] at h
  exact ⟨h.1.1.1, h.1.1.2, h.1.2, h.2⟩
def gRepr (d : D) : Option D := if fits d = true then some (.str d.shown) else none
def gEqA : D → D → Option D
  | .str a, .str b => some (.bool (decide (a = b)))
  | x, y => gEq x y
def gNeA : D → D → Option D
  | .str a, .str b => some (.bool (!decide (a = b)))
  | x, y => gNe x y
theorem dec_strD {a b : Str} : decide (V.str a = V.str b) = decide (a = b) := by
  by_cases e : a = b
  · subst e; simp
  · rw [decide_eq_false e, decide_eq_false (fun z => e (V.str.inj z))]
theorem op_eqA (hu : X.A.units + 64 < cLine) : OpR X (compareOp .Eq) (opOr rEq (rEqD X.K)) := or_op op_eq (op_eqD hu)
theorem op_neA (hu : X.A.units + 64 < cLine) : OpR X (compareOp .NotEq) (opOr rNe (rNeD X.K)) := or_op op_ne (op_neD hu)
theorem rd_eqA {K : Fr0} : R2D K (opOr rEq (rEqD K.f)) gEqA := by
  intro L H x y dx dy d Q tr hx hy hg k
  unfold gEqA at hg
  split at hg
  · cases hg
    rw [rp_str hx, rp_str hy]
    exact .inl ⟨rfl, by rw [dec_strD]; exact k _ _ (Ex.refl _) (.bl _)⟩
  · exact .inr (rd_eq L H x y dx dy d Q tr hx hy hg k)
theorem rd_neA {K : Fr0} : R2D K (opOr rNe (rNeD K.f)) gNeA := by
  intro L H x y dx dy d Q tr hx hy hg k
  unfold gNeA at hg
  split at hg
  · cases hg
    rw [rp_str hx, rp_str hy]
    exact .inl ⟨rfl, by rw [dec_strD]; exact k _ _ (Ex.refl _) (.bl _)⟩
  · exact .inr (rd_ne L H x y dx dy d Q tr hx hy hg k)
end
end PD
namespace PD
open PySem L2 PyProof.Rows PySem.Spec
open Evl (Ex)
end PD
namespace PD
open PySem L2 PyProof.Rows PySem.Spec
open Evl (Ex)
theorem isort_le (ns : List Int) : (isort ns).Pairwise (· ≤ ·) := by
  have h2 : (isort ns).Pairwise (fun a b => decide (a ≤ b) = true) := List.pairwise_mergeSort (fun a b c h1 h2 => by simp at *; omega) (fun a b => by simp; omega) ns
  exact h2.imp fun h => by simpa using h
theorem isort_perm (ns : List Int) : (isort ns).Perm ns := List.mergeSort_perm _ _
end PD
namespace PD
open PySem L2 PyProof.Rows PySem.Spec
open Evl (Ex)
def gNeg : D → Option D
  | .int i => some (.int (-i))
  | _ => none
theorem r1_neg {K : Fr0} : R1D K (rU fun i => .int (-i)) gNeg := by
  intro L H x dx d Q tr hx hg k
  unfold gNeg at hg
  split at hg
  · cases hg
    exact ⟨_, rp_int hx, k _ _ (Ex.refl _) (.int _)⟩
  · cases hg
section
variable {X : Cx} {M : Mk0} {a b c : Expr} {fa fb : FE} {fn fm : FN} {fl : FL} {pos : Pos}
/-- two lists in a row: a new one -/
def nCat : D → D → Option (List D)
  | .list xs, .list ys => if xs.length + ys.length ≤ 1000000 then some (xs ++ ys) else none
  | _, _ => none
def fnCat (fa fb : FE) : FN := fun ρ k => fa ρ fun x ρ1 => fb ρ1 fun y ρ2 => ∃ ds, nCat x y = some ds ∧ k ds ρ2
def fsPar_od (i j : Nat) (fn : FN) (fb : FE) : FS := fun ρ P => fn ρ fun ds ρ1 => fb ρ1 fun d ρ2 => P.nx ((ρ2.set i (.own ds)).set j (.d d))
def fsPar_do (i j : Nat) (fa : FE) (fm : FN) : FS := fun ρ P => fa ρ fun d ρ1 => fm ρ1 fun ds ρ2 => P.nx ((ρ2.set i (.d d)).set j (.own ds))
def fsPar_oo (i j : Nat) (fn fm : FN) : FS := fun ρ P => fn ρ fun ds ρ1 => fm ρ1 fun es ρ2 => P.nx ((ρ2.set j (.own es)).set i (.own ds))
theorem hide_newex {L : List Addr} {H : Hp} {p : Addr} {o : HO} (hp : H p = none) : Ex (hide L H) (hide (p :: L) (upd H p o)) := fun a b hb => by
  obtain ⟨h3, h4⟩ := hide_some.mp hb
  have n : a ≠ p := ne_of_none h4 hp
  exact hide_some.mpr ⟨fun z => by
    rcases List.mem_cons.mp z with z | z
    · exact n z
    · exact h3 z, by rw [upd_ne n]; exact h4⟩
end
end PD
namespace PD
open PySem L2 PyProof.Rows PySem.Spec
open Evl (Ex)
theorem R.drawn {K : Fr0} {M : Mk0} {F : Hp} {L : List Addr} {ρ : Rho} {σ : L2.St} {H H' : Hp} {p : Addr} {A A' : List Addr} {m : Nat} (r : R K M (some p) F L ρ σ H)
    (hA : (∀ a ∈ A, a ∈ L ∧ F a = none) ∧ ∀ (i : Nat) (xs : Ow) (l : Addr), ρ.sl[i]? = some (.own xs) → σ[i]? = some (some (.ref l)) → l ∉ A)
    (nT : NoTb A H) (h : M.holds K p m A' H') (same : ∀ a o, H a = some o → a ∉ A → H' a = some o) (tA : ∀ a ∈ A, ∃ o, H' a = some o) (nA : ∀ a ∈ A', (a ∈ A ∨ H a = none) ∧ ∃ o, H' a = some o) :
    Ex (hide L H) (hide (A' ++ L) H') ∧ R K M (some p) F (A' ++ L) ⟨ρ.sl, m⟩ σ H' := by
  have e : Ex (hide L H) (hide (A' ++ L) H') := fun a o ho => by
    obtain ⟨h1, h2⟩ := hide_some.mp ho
    have n1 : a ∉ A := fun z => h1 (hA.1 a z).1
    refine hide_some.mpr ⟨fun z => ?_, same a o h2 n1⟩
    rcases List.mem_append.mp z with z | z
    · rcases (nA a z).1 with q | q
      · exact n1 q
      · rw [q] at h2; cases h2
    · exact h1 z
  have notA : ∀ {i : Nat} {xs : Ow} {l : Addr}, ρ.sl[i]? = some (.own xs) → σ[i]? = some (some (.ref l)) → ∃ o, H l = some o := fun {i xs l} h1 h2 => by
    obtain ⟨l', vs, g1, g2, g3, _⟩ := r.getOwn h1
    rw [h2] at g1
    cases g1
    exact ⟨_, g3⟩
  refine ⟨e, r.len, fun i s o h1 h2 => ?_, fun a o ho => ?_, fun a ha => ?_, r.apart, r.ownF, fun q hq => ?_, r.tb.move e fun P' ps k1 k2 k3 => ⟨k1, List.mem_append_right _ k2, same P' _ k3 fun z => nT P' z ps k3⟩, fun i a0 ps kd ds h => by have := (r.op i a0 ps kd ds h).pn; cases this⟩
  · have g := r.sl i s o h1 h2
    cases s with
    | no => trivial
    | d x =>
      obtain ⟨v, g1, g2⟩ := g
      exact ⟨v, g1, dp_ex e _ _ g2⟩
    | own xs =>
      obtain ⟨l, vs, g1, g2, g3, g4⟩ := g
      subst g1
      exact ⟨l, vs, rfl, List.mem_append_right _ g2, same l _ g3 (hA.2 i xs l h1 h2), g4.up e⟩
    | st => exact g
    | raw v => exact g
    | exc a d fl => exact ⟨g.1, g.2.up e⟩
    | err C fl =>
      obtain ⟨a0, oe, d, y1, y2, y3, y4, y5⟩ := g
      exact ⟨a0, oe, d, y1, e _ _ y2, y3, y4, y5.up e⟩
  · obtain ⟨f1, f2⟩ := r.fr a o ho
    refine ⟨same a o f1 fun z => ?_, List.mem_append_right _ f2⟩
    rw [(hA.1 a z).2] at ho
    cases ho
  · rcases List.mem_append.mp ha with z | z
    · exact (nA a z).2
    · by_cases ia : a ∈ A
      · exact tA a ia
      · obtain ⟨o, ho⟩ := r.tr a z
        exact ⟨o, same a o ho ia⟩
  · cases hq
    refine ⟨A', h, fun a ha => ⟨List.mem_append_left _ ha, ?_⟩, fun i xs l h1 h2 z => ?_⟩
    · rcases (nA a ha).1 with q | q
      · exact (hA.1 a q).2
      · cases f : F a with
        | none => rfl
        | some o =>
          have := (r.fr a o f).1
          rw [q] at this
          cases this
    · rcases (nA l z).1 with q | q
      · exact hA.2 i xs l h1 h2 q
      · obtain ⟨o, ho⟩ := notA h1 h2
        rw [q] at ho
        cases ho
end PD
namespace PD
open PySem L2 PyProof.Rows PySem.Spec
open Evl (Ex)
/-- a dict with a list that is filled is set aside -/
@[simp] def noX (s : Sl) : Sl := match s with
  | .own (.x _ _ _ _) => .no
  | s => s
theorem noX_own {l : List Sl} {j : Nat} {xs : Ow} (h : (l.map noX)[j]? = some (Sl.own xs)) : l[j]? = some (.own xs) ∧ xs.nx := by
  rw [List.getElem?_map] at h
  cases z : l[j]? with
  | none => rw [z] at h; cases h
  | some t =>
    rw [z] at h
    cases t with
    | own c => cases c <;> (cases h; try exact ⟨rfl, trivial⟩)
    | _ => cases h
theorem noX_st {l : List Sl} {j : Nat} (h : (l.map noX)[j]? = some Sl.st) : l[j]? = some Sl.st := by
  rw [List.getElem?_map] at h
  cases z : l[j]? with
  | none => rw [z] at h; cases h
  | some t =>
    rw [z] at h
    cases t with
    | own c => cases c <;> cases h
    | st => rfl
    | _ => cases h
theorem R.noX {K : Fr0} {M : Mk0} {P : Option Addr} {F : Hp} {L : List Addr} {ρ : Rho} {σ : L2.St} {H : Hp} (r : R K M P F L ρ σ H) : R K M P F L ⟨ρ.sl.map PD.noX, ρ.n⟩ σ H :=
  ⟨by simp [r.len], fun j s o h1 h2 => by
    have h1 : (ρ.sl.map PD.noX)[j]? = some s := h1
    rw [List.getElem?_map] at h1
    cases z : ρ.sl[j]? with
    | none => rw [z] at h1; cases h1
    | some t =>
      rw [z] at h1
      have g := r.sl j t o z h2
      cases t with
      | own c => cases c <;> (cases h1; first | trivial | exact g)
      | _ => cases h1; exact g, r.fr, r.tr, fun a b xs ys l hab h1 h2 h3 h4 => r.apart a b xs ys l hab (noX_own h1).1 (noX_own h2).1 h3 h4,
    fun j xs l h1 h2 => r.ownF j xs l (noX_own h1).1 h2, fun p hp => let ⟨A, a1, a2, a3⟩ := r.m p hp; ⟨A, a1, a2, fun j xs l h1 h2 => a3 j xs l (noX_own h1).1 h2⟩, r.tb,
    fun j _ _ _ _ h => (noX_own h).2.elim⟩
def noSt (s : Sl) : Sl := match s with
  | .st => .no
  | s => s
/-- the promise of a def that makes an object of draws -/
def spB (K : Fr0) (M : Mk0) (n : Nat) (B : List D → Prop) : Sp := fun vs H Q _ => vs.length = n ∧ ∃ ds, RpAll K H vs ds ∧ B ds ∧ ∀ p A H', (∀ a o, H a = some o → H' a = some o) → (∀ a ∈ A, H a = none ∧ ∃ o, H' a = some o) → M.holds K p 0 A H' → Q (.ref p) H'
def keepA (A0 : List Addr) (F H : Hp) : Hp := fun a => if a ∈ A0 then H a else F a
section
variable {K : Fr0} {M : Mk0} {P : Option Addr} {F : Hp} {L L' : List Addr} {ρ ρ' : Rho} {σ σ' : L2.St} {H H' : Hp}
/-- a new object of draws in a slot, the old one's things are kept -/
theorem R.begin (r : R K M P F L ρ σ H) (i : Nat) (hns : ∀ j : Nat, ρ.sl[j]? ≠ some Sl.st) (hnx : ∀ (j : Nat) (xs : Ow), ρ.sl[j]? = some (.own xs) → xs.nx) {p : Addr} {A : List Addr} {H2 : Hp} (hk : ∀ a o, H a = some o → H2 a = some o) (hA : ∀ a ∈ A, H a = none ∧ ∃ o, H2 a = some o) (hm : M.holds K p 0 A H2) :
    ∃ F2, Ex (hide L H) (hide (A ++ L) H2) ∧ R K M (some p) F2 (A ++ L) ⟨ρ.sl.set i .st, 0⟩ (σ.set i (some (.ref p))) H2 ∧
      ∀ L' ρ' σ' H', Ex (hide (A ++ L) H2) (hide L' H') → R K M (some p) F2 L' ρ' σ' H' → R K M P F L' ⟨ρ'.sl.map noSt, ρ.n + ρ'.n⟩ σ' H' := by
  obtain ⟨A0, h0⟩ : ∃ A0 : List Addr, (∀ q, P = some q → M.holds K q ρ.n A0 H) ∧ NoTb A0 H ∧ (∀ a ∈ A0, a ∈ L ∧ F a = none) ∧ ∀ (i : Nat) (xs : Ow) (l : Addr), ρ.sl[i]? = some (.own xs) → σ[i]? = some (some (.ref l)) → l ∉ A0 := by
    cases P with
    | none => exact ⟨[], ⟨fun q z => by (cases z), fun a z => absurd z List.not_mem_nil, fun a z => absurd z List.not_mem_nil, fun _ _ _ _ _ z => absurd z List.not_mem_nil⟩⟩
    | some q =>
      obtain ⟨A0, a1, a2, a3⟩ := r.m q rfl
      exact ⟨A0, fun q' z => by cases z; exact a1, M.nt a1, a2, a3⟩
  obtain ⟨m0, n0, a2, a3⟩ := h0
  have e : Ex (hide L H) (hide (A ++ L) H2) := fun a o ho => by
    obtain ⟨h1, h2⟩ := hide_some.mp ho
    refine hide_some.mpr ⟨fun z => ?_, hk a o h2⟩
    rcases List.mem_append.mp z with z | z
    · rw [(hA a z).1] at h2; cases h2
    · exact h1 z
  have kA : ∀ {a : Addr}, a ∈ A0 → keepA A0 F H a = H a := fun {a} h => by unfold keepA; rw [if_pos h]
  have kN : ∀ {a : Addr}, a ∉ A0 → keepA A0 F H a = F a := fun {a} h => by unfold keepA; rw [if_neg h]
  have inH : ∀ {j : Nat} {xs : Ow} {l : Addr}, ρ.sl[j]? = some (Sl.own xs) → σ[j]? = some (some (V.ref l)) → ∃ o, H l = some o := fun {j xs l} h1 h2 => by
    obtain ⟨l', vs, g1, g2, g3, _⟩ := r.getOwn h1
    rw [h2] at g1
    cases g1
    exact ⟨_, g3⟩
  have slot : ∀ {j : Nat} {s : Sl}, (ρ.sl.set i .st)[j]? = some s → j ≠ i → ρ.sl[j]? = some s := fun {j s} h n => by rwa [List.getElem?_set_ne (fun z => n z.symm)] at h
  have slotσ : ∀ {j : Nat} {o : Option V}, (σ.set i (some (V.ref p)))[j]? = some o → j ≠ i → σ[j]? = some o := fun {j s} h n => by rwa [List.getElem?_set_ne (fun z => n z.symm)] at h
  have here : ∀ {j : Nat} {s : Sl}, (ρ.sl.set i .st)[j]? = some s → j = i → s = .st := fun {j s} h n => by
    subst n
    have hj : j < ρ.sl.length := by
      have := (List.getElem?_eq_some_iff.mp h).1
      simpa using this
    rw [List.getElem?_set_self hj] at h
    cases h
    rfl
  have ownNe : ∀ {j : Nat} {xs : Ow}, (ρ.sl.set i .st)[j]? = some (Sl.own xs) → j ≠ i := fun {j xs} h z => by have := here h z; cases this
  refine ⟨keepA A0 F H, e, ⟨by simp [r.len], fun j s o h1 h2 => ?_, fun a o ho => ?_, fun a ha => ?_, fun a b xs ys l hab h1 h2 h3 h4 => ?_, fun j xs l h1 h2 => ?_, fun q hq => ?_, r.tb.move e fun P' ps k1 k2 k3 => ⟨by rw [kN fun z => n0 P' z ps k3]; exact k1, List.mem_append_right _ k2, hk _ _ k3⟩, fun j _ _ _ _ h => (hnx j _ (slot h (ownNe h))).elim⟩, fun L' ρ' σ' H' e' r' => ?_⟩
  · have h1 : (ρ.sl.set i .st)[j]? = some s := h1
    by_cases ej : j = i
    · have := here h1 ej
      subst this
      subst ej
      have hj : j < σ.length := by
        have := (List.getElem?_eq_some_iff.mp h2).1
        simpa using this
      rw [List.getElem?_set_self hj] at h2
      cases h2
      exact ⟨p, rfl, rfl⟩
    · have g := r.sl j s o (slot h1 ej) (slotσ h2 ej)
      cases s with
      | no => trivial
      | d x =>
        obtain ⟨v, g1, g2⟩ := g
        exact ⟨v, g1, dp_ex e _ _ g2⟩
      | own xs =>
        obtain ⟨l, vs, g1, g2, g3, g4⟩ := g
        exact ⟨l, vs, g1, List.mem_append_right _ g2, hk l _ g3, g4.up e⟩
      | st => exact absurd (slot h1 ej) (hns j)
      | raw v => exact g
      | exc a d fl => exact ⟨g.1, g.2.up e⟩
      | err C fl =>
        obtain ⟨a0, oe, d, y1, y2, y3, y4, y5⟩ := g
        exact ⟨a0, oe, d, y1, e _ _ y2, y3, y4, y5.up e⟩
  · by_cases ha : a ∈ A0
    · rw [kA ha] at ho
      exact ⟨hk a o ho, List.mem_append_right _ (a2 a ha).1⟩
    · rw [kN ha] at ho
      obtain ⟨f1, f2⟩ := r.fr a o ho
      exact ⟨hk a o f1, List.mem_append_right _ f2⟩
  · rcases List.mem_append.mp ha with z | z
    · exact (hA a z).2
    · obtain ⟨o, ho⟩ := r.tr a z
      exact ⟨o, hk a o ho⟩
  · have n1 := ownNe h1
    have n2 := ownNe h2
    exact r.apart a b xs ys l hab (slot h1 n1) (slot h2 n2) (slotσ h3 n1) (slotσ h4 n2)
  · have n1 := ownNe h1
    have g1 := slot h1 n1
    have g2 := slotσ h2 n1
    rw [kN (a3 j xs l g1 g2)]
    exact r.ownF j xs l g1 g2
  · cases hq
    refine ⟨A, hm, fun a ha => ⟨List.mem_append_left _ ha, ?_⟩, fun j xs l h1 h2 z => ?_⟩
    · have hn := (hA a ha).1
      by_cases i0 : a ∈ A0
      · rw [kA i0]; exact hn
      · rw [kN i0]
        cases f : F a with
        | none => rfl
        | some o =>
          have := (r.fr a o f).1
          rw [hn] at this
          cases this
    · have n1 := ownNe h1
      obtain ⟨o, ho⟩ := inH (slot h1 n1) (slotσ h2 n1)
      rw [(hA l z).1] at ho
      cases ho
  · have frz : ∀ {j : Nat} {s : Sl}, (ρ'.sl.map noSt)[j]? = some s → s = .no ∨ (ρ'.sl[j]? = some s ∧ s ≠ .st) := fun {j s} h => by
      rw [List.getElem?_map] at h
      cases z : ρ'.sl[j]? with
      | none => rw [z] at h; cases h
      | some t =>
        rw [z] at h
        cases t <;> (cases h; first | exact .inl rfl | exact .inr ⟨rfl, by intro q; cases q⟩)
    have own' : ∀ {j : Nat} {xs : Ow}, (ρ'.sl.map noSt)[j]? = some (Sl.own xs) → ρ'.sl[j]? = some (.own xs) := fun {j xs} h => by
      rcases frz h with z | z
      · cases z
      · exact z.1
    have FF : ∀ {a : Addr} {o : HO}, F a = some o → keepA A0 F H a = some o := fun {a o} h => by
      by_cases i0 : a ∈ A0
      · rw [(a2 a i0).2] at h; cases h
      · rw [kN i0]; exact h
    refine ⟨by simp [r'.len], fun j s o h1 h2 => ?_, fun a o ho => r'.fr a o (FF ho), r'.tr, fun a b xs ys l hab h1 h2 h3 h4 => r'.apart a b xs ys l hab (own' h1) (own' h2) h3 h4, fun j xs l h1 h2 => ?_, fun q hq => ?_, r'.tb.move (Ex.refl _) fun P' ps k1 k2 k3 => ⟨by
      cases z : F P' with
      | none => rfl
      | some o => (rw [FF z] at k1; cases k1), k2, k3⟩, fun j _ _ _ _ h => by have := (r'.op j _ _ _ _ (own' h)).pn; cases this⟩
    · rcases frz h1 with z | z
      · subst z; trivial
      · have g := r'.sl j s o z.1 h2
        cases s with
        | no => trivial
        | d x => exact g
        | own xs => exact g
        | st => exact absurd rfl z.2
        | raw v => exact g
        | exc a d fl => exact g
        | err C fl => exact g
    · have g := r'.ownF j xs l (own' h1) h2
      cases f : F l with
      | none => rfl
      | some o =>
        rw [FF f] at g
        cases g
    · have old : ∀ a ∈ A0, ∀ o, H a = some o → H' a = some o ∧ a ∈ L' := fun a ha o ho => r'.fr a o (by rw [kA ha]; exact ho)
      refine ⟨A0, M.le (Nat.le_add_right _ _) (M.loc (fun a ha o ho => (old a ha o ho).1) (m0 q hq)), fun a ha => ⟨?_, (a2 a ha).2⟩, fun j xs l h1 h2 z => ?_⟩
      · obtain ⟨o, ho⟩ := r.tr a (a2 a ha).1
        exact (old a ha o ho).2
      · have g := r'.ownF j xs l (own' h1) h2
        rw [kA z] at g
        obtain ⟨o, ho⟩ := r.tr l (a2 l z).1
        rw [ho] at g
        cases g
end
section
variable {X : Cx} {M : Mk0} {e : Expr} {es : List Expr} {fl : FL} {fs : FS} {pos spos p : Pos} {st : Stmt} {sts : List Stmt} {k : Nat} {f : Addr} {fd : FuncData} {ps : List Str} {n : Nat} {x y : Str} {py : Pos}
def fsBegin (i n : Nat) (B : List D → Prop) (fl : FL) (fs : FS) : FS := fun ρ P => fl ρ fun ds ρ1 => (∀ j : Nat, ρ1.sl[j]? ≠ some Sl.st) ∧ ds.length = n ∧ B ds ∧ fs ⟨(ρ1.sl.map noX).set i .st, 0⟩
  { nx := fun ρ' => P.nx ⟨ρ'.sl.map noSt, ρ1.n + ρ'.n⟩, rt := fun d ρ' => P.rt d ⟨ρ'.sl.map noSt, ρ1.n + ρ'.n⟩, bk := fun ρ' => P.bk ⟨ρ'.sl.map noSt, ρ1.n + ρ'.n⟩, ct := fun ρ' => P.ct ⟨ρ'.sl.map noSt, ρ1.n + ρ'.n⟩ }
theorem pds_begin {i : Nat} {B : List D → Prop} (G : FnG X.prog X.w X.K X.mg X.base (L2.CX X.prog X.w) k f fd ps (spB X.k0 M n B)) (hgd : X.A.guards = some []) (hr : Room k X.A) (hg : Gl X x) (hm : X.mg x = some (.ref f)) (hk : PySem.W.keepIn X.K (.ref f) = true) (hb : Binds X.K fd ps [])
    (ha : PDL X M (e :: es) fl) (hn : PG X (.Name y py) (gName i)) (hs : PDs X M sts fs) (hdb : (x == ("__debug__" : Str)) = false := by decide) (he : starEach (e :: es) X.env = (false, eval e X.env) :: starEach es X.env := by rfl)
    (hpl : (backTo pos (starEach es X.env)).any (·.1) = false := by rfl)
    (hsw : swapsWithSole [.Name y py] (.Call (.Name x p) (e :: es) [] pos) spos.line X.env = pure false := by rfl) (hw : swappedStores [.Name y py] (.Call (.Name x p) (e :: es) [] pos) X.env = pure none := by rfl)
    (h1 : (assignEach [.Name y py] X.env).map (·.2) = [assign (.Name y py) X.env] := by rfl) :
    PDs X M (.Assign [.Name y py] (.Call (.Name x p) (e :: es) [] pos) spos :: sts) (fsBegin i n B fl fs) := by
  refine ⟨PSs.wk (pss_cons (ps_asg (pe_callG (E := E0) G hgd hr hg hm hk hb passF ha.pa hdb he hpl) hn hsw hw h1) hs.ps) fun D σ H ⟨P, F, L, ρ, r, q⟩ => ?_,
    fun ρ q q' h z => ha.mono _ _ _ (fun ds ρ1 z => ⟨z.1, z.2.1, z.2.2.1, hs.mono _ _ _ ⟨fun _ z => h.nx _ z, fun _ _ z => h.rt _ _ z, fun _ z => h.bk _ z, fun _ z => h.ct _ z⟩ z.2.2.2⟩) z⟩
  refine ⟨P, F, L, ρ, r, ha.mono _ _ _ (fun ds ρ1 z vs L1 H1 e1 r1 d1 => ?_) q⟩
  obtain ⟨z1, z2, z3, z4⟩ := z
  refine ⟨by rw [dpa_len d1]; exact z2, ds, dpa_ex (hide_le L1 H1) _ _ d1, z3, fun pp A H2 hk2 hA hold => ?_⟩
  obtain ⟨F2, e2, r2, back⟩ := r1.noX.begin i (fun j h => z1 j (noX_st h)) (fun j xs h => (noX_own h).2) hk2 hA hold
  refine ⟨some pp, F2, A ++ L1, _, r2, hs.mono _ _ _ ⟨fun ρ' g σ' L' H' e' r' => ?_, fun d ρ' g v σ' L' H' e' r' d' => ?_, fun ρ' g σ' L' H' e' r' => ?_, fun ρ' g σ' L' H' e' r' => ?_⟩ z4⟩
  · exact g σ' L' H' ((e1.trans e2).trans e') (back _ _ _ _ e' r')
  · exact g v σ' L' H' ((e1.trans e2).trans e') (back _ _ _ _ e' r') d'
  · exact g σ' L' H' ((e1.trans e2).trans e') (back _ _ _ _ e' r')
  · exact g σ' L' H' ((e1.trans e2).trans e') (back _ _ _ _ e' r')
end
end PD
namespace PD
open PySem L2 PyProof.Rows PySem.Spec
open Evl (Ex)
def kvA (c l : Addr) (k : Int) : List (Key × V) := [(.inr "cells", .ref c), (.inr "left", .ref l), (.inr "at", .int k)]
structure SA (H0 : Hp) (p c l0 : Addr) (cs : List Int) (l : Addr) (ls : List Int) (k : Int) (H : Hp) : Prop where
  hp : H p = some (.dK (kvA c l k))
  hc : H c = some (.lst (cs.map V.int))
  hl : H l = some (.lst (ls.map V.int))
  ncl : c ≠ l
  fresh : l = l0 ∨ H0 l = none
  same : ∀ a o, H0 a = some o → a ≠ p → a ≠ l0 → H a = some o
  h0 : ∃ o, H l0 = some o
  cn : c ≠ l0
  ln : ls.length ≤ 63
section
variable {H0 H : Hp} {p c l0 l : Addr} {cs ls : List Int} {k : Int}
theorem SA.new (S : SA H0 p c l0 cs l ls k H) {t : Addr} {o : HO} (ht : H t = none) : SA H0 p c l0 cs l ls k (upd H t o) :=
  ⟨by rw [upd_ne (ne_of_none S.hp ht)]; exact S.hp, by rw [upd_ne (ne_of_none S.hc ht)]; exact S.hc, by rw [upd_ne (ne_of_none S.hl ht)]; exact S.hl, S.ncl, S.fresh,
   fun a o' h n1 n2 => by have := S.same a o' h n1 n2; rw [upd_ne (ne_of_none this ht)]; exact this, by obtain ⟨o', h⟩ := S.h0; exact ⟨o', by rw [upd_ne (ne_of_none h ht)]; exact h⟩, S.cn, S.ln⟩
theorem SA.np (S : SA H0 p c l0 cs l ls k H) : p ≠ l ∧ p ≠ c := by
  constructor
  · intro e
    have h := S.hp
    rw [e, S.hl] at h
    cases h
  · intro e
    have h := S.hp
    rw [e, S.hc] at h
    cases h
end
theorem hide_nil (H : Hp) : hide [] H = H := by
  funext a
  unfold hide
  rw [if_neg List.not_mem_nil]
theorem dp_ints {K : PySem.W.Frag} {w : World} {H : Hp} {l : Addr} {ls : List Int} (h : H l = some (.lst (ls.map V.int))) : Dp K H (.ref l) (.list (ls.map PyData.int)) := by
  exact rp_dp (K := ⟨K, w, default⟩) _ _ (SeqAt.canLay_of_shaped (PySem.W.ke_shaped_ints ls)) (.lst (.inl (.inl h)) (dpa_ints _))
/-- o[key] != [], o a dict, a list of ints there -/
theorem t_neNil {K : PySem.W.Frag} (w : World) {σ : L2.St} {H : Hp} {Q : Bool → Hp → Prop} {i : Nat} {p l : Addr} {kvs : List (Key × V)} {x : Str} {ls : List Int} (h0 : σ[i]? = some (some (.ref p))) (hp : H p = some (.dK kvs)) (hv : valV kvs (.inr x : Key) = some (.ref l))
    (hl : H l = some (.lst (ls.map V.int))) (q : ∀ t, H t = none → Q (!decide (ls = [])) (upd H t (.lst []))) : tTest (tOp (rNeD K) (tDGet (tVar i) (tC (.str x))) (tLst tNil)) σ H Q := by
  refine ⟨_, h0, p, .ref l, rfl, by have := DGet.k (k := (.inr x : Key)) hp; rw [hv] at this; exact this, by show 0 ≤ sizeLine; omega, fun t ht => ?_⟩
  refine ⟨_, _, dp_ints (w := w) (by rw [upd_ne (ne_of_none hl ht)]; exact hl), dp_ints (w := w) (ls := []) upd_same, PySem.W.ke_shaped_ints _, PySem.W.ke_shaped_ints [], _, rfl, ?_⟩
  have e : PyData.eqv (.list (ls.map PyData.int)) (.list (([] : List Int).map PyData.int)) = decide (ls = []) := by
    cases ls with
    | nil => rfl
    | cons a b => simp [PyData.eqv, PyData.eqvAll]
  rw [e]
  exact q t ht
/-- o[key] -/
theorem t_get {σ : L2.St} {H : Hp} {Q : VK} {i : Nat} {p : Addr} {kvs : List (Key × V)} {x : Str} {v : V} (h0 : σ[i]? = some (some (.ref p))) (hp : H p = some (.dK kvs)) (hv : valV kvs (.inr x : Key) = some v) (q : Q v H) : tDGet (tVar i) (tC (.str x)) σ H Q :=
  ⟨_, h0, p, v, rfl, by have := DGet.k (k := (.inr x : Key)) hp; rw [hv] at this; exact this, q⟩
def W_nextA : FE := fun ρ k => ∃ t : Int, ρ.sl = [.st, .d (.int t)] ∧ 0 < t ∧ t < 1073741824 ∧ ρ.n < 1000000000000 ∧ ∀ r : Int, 0 ≤ r → r < t → k (.int r) ⟨ρ.sl, ρ.n + 1⟩
theorem mW_nextA (ρ : Rho) (k k' : KD) (h : ∀ d ρ', k d ρ' → k' d ρ') (q : W_nextA ρ k) : W_nextA ρ k' := by
  obtain ⟨t, e, h1, h0, h2, h3⟩ := q
  exact ⟨t, e, h1, h0, h2, fun r a b => h _ _ (h3 r a b)⟩
theorem at0 {α : Type} {x : α} {xs : List α} : atI (x :: xs) 0 = some x := atI_nat (j := 0) rfl
theorem cut1 {x : V} {xs : List V} : cutV (x :: xs) (some 1) none = xs := by
  unfold cutV
  have e1 : HT.sIx (x :: xs).length 0 (some 1) = 1 := by
    simp [HT.sIx]
  have e2 : HT.sIx (x :: xs).length (x :: xs).length none = (x :: xs).length := by simp [HT.sIx]
  rw [e1, e2]
  simp
def B_law : List D → Prop := fun ds => ∃ ns : List Int, ds = [.list (ns.map .int)] ∧ ns.length ≤ 63
end PD
namespace PD
open PySem L2 PyProof.Rows PySem.Spec
open Evl (Ex)
theorem spD_imp {K : Fr0} {M : Mk0} {n : Nat} {W W' : FE} (h : ∀ ρ k, W' ρ k → W ρ k) (vs : List V) (H : Hp) (Q : VK) (E : XK) (q : spD K M n W' vs H Q E) : spD K M n W vs H Q E := by
  obtain ⟨P, F, L, ρ, r, hb, hl, hw⟩ := q
  exact ⟨P, F, L, ρ, r, hb, hl, h _ _ hw⟩
theorem flat_ints (ns : List Int) : (ns.map PyData.int).all flatD = true := by
  induction ns with
  | nil => rfl
  | cons a b ih => simp [flatD]
theorem any_ints (ns : List Int) (x : Int) : ((ns.map PyData.int).any fun y => PyData.eqv y (.int x)) = decide (x ∈ ns) := by
  induction ns with
  | nil => rfl
  | cons a b ih =>
    rw [List.map_cons, List.any_cons, ih]
    by_cases e : a = x
    · subst e; simp [PyData.eqv]
    · have e' : ¬ x = a := fun z => e z.symm
      simp [PyData.eqv, e, e']
theorem gIn_ints (ns : List Int) (x : Int) : gIn (.int x) (.tuple (ns.map .int)) = some (.bool (decide (x ∈ ns))) := by
  show (if flatD (.int x) = true ∧ (ns.map PyData.int).all flatD = true then some (PyData.bool ((ns.map PyData.int).any fun y => PyData.eqv y (.int x))) else none) = _
  rw [if_pos ⟨rfl, flat_ints ns⟩, any_ints]
theorem gIn_intsL (ns : List Int) (x : Int) : gIn (.int x) (.list (ns.map .int)) = some (.bool (decide (x ∈ ns))) := by
  show (if flatD (.int x) = true ∧ (ns.map PyData.int).all flatD = true then some (PyData.bool ((ns.map PyData.int).any fun y => PyData.eqv y (.int x))) else none) = _
  rw [if_pos ⟨rfl, flat_ints ns⟩, any_ints]
theorem gNotIn_ints (ns : List Int) (x : Int) : gNotIn (.int x) (.tuple (ns.map .int)) = some (.bool (!decide (x ∈ ns))) := by
  show (if flatD (.int x) = true ∧ (ns.map PyData.int).all flatD = true then some (PyData.bool (!(ns.map PyData.int).any fun y => PyData.eqv y (.int x))) else none) = _
  rw [if_pos ⟨rfl, flat_ints ns⟩, any_ints]
theorem gNotIn_intsL (ns : List Int) (x : Int) : gNotIn (.int x) (.list (ns.map .int)) = some (.bool (!decide (x ∈ ns))) := by
  show (if flatD (.int x) = true ∧ (ns.map PyData.int).all flatD = true then some (PyData.bool (!(ns.map PyData.int).any fun y => PyData.eqv y (.int x))) else none) = _
  rw [if_pos ⟨rfl, flat_ints ns⟩, any_ints]
theorem gIx_lst {xs : List D} {i : Nat} {d : D} (h : xs[i]? = some d) : gIx (.list xs) (.int (i : Int)) = some d := atI_nat h
/-- the same over the pictures of things -/
theorem comp_on {α : Type} {g : FG} {ft : FT} {fe : FE} {vs : List Nat} {ρ : Rho} {k : List D → Rho → Prop} (c : α → D) (p : α → Bool) (f : α → D) : ∀ (xs : List α) (acc : List D),
    (∀ x ∈ xs, ∀ (kt : D → Rho → Prop) (kf : Rho → Prop), (p x = true → ∀ ρ3 : Rho, ρ3.n = ρ.n → kt (f x) ρ3) → (p x = false → ∀ ρ2 : Rho, ρ2.n = ρ.n → kf ρ2) → g (c x) (wipeR vs ρ) fun ρ1 => ft ρ1 fun b ρ2 => if b = true then fe ρ2 kt else kf ρ2) →
    k (acc ++ (xs.filter p).map f) ρ → compD g ft fe vs (xs.map c) acc ρ k
  | [], acc, _, q => by simpa [compD] using q
  | x :: xs, acc, s, q => by
    rw [List.map_cons]
    unfold compD
    refine s x List.mem_cons_self _ _ (fun hp ρ3 e => ?_) (fun hp ρ2 e => ?_)
    · rw [e]
      refine comp_on c p f xs _ (fun y hy => s y (List.mem_cons_of_mem _ hy)) ?_
      rw [List.filter_cons, if_pos hp] at q
      simpa using q
    · rw [e]
      refine comp_on c p f xs _ (fun y hy => s y (List.mem_cons_of_mem _ hy)) ?_
      rw [List.filter_cons, if_neg (by simp [hp])] at q
      exact q
theorem comp_all {α : Type} {g : FG} {fe : FE} {vs : List Nat} {ρ : Rho} {k : List D → Rho → Prop} (c : α → D) (f : α → D) (xs : List α) (s : ∀ x ∈ xs, ∀ kt : D → Rho → Prop, (∀ ρ3 : Rho, ρ3.n = ρ.n → kt (f x) ρ3) → g (c x) (wipeR vs ρ) fun ρ1 => fe ρ1 kt)
    (q : k (xs.map f) ρ) : compD g ftYes fe vs (xs.map c) [] ρ k := by
  refine comp_on c (fun _ => true) f xs [] (fun x hx kt kf h1 h2 => ?_) (by
    rw [show xs.filter (fun _ => true) = xs from List.filter_eq_self.mpr fun _ _ => rfl]
    exact q)
  have := s x hx kt (h1 rfl)
  simpa [ftYes] using this
theorem gEq_ii (i j : Int) : gEq (.int i) (.int j) = some (.bool (decide (i = j))) := by
  show (if SeqAt.shaped (.int i) = true ∧ SeqAt.shaped (.int j) = true then some (PyData.bool (i == j)) else none) = _
  rw [if_pos ⟨rfl, rfl⟩]
  rfl
theorem gNe_ii (i j : Int) : gNe (.int i) (.int j) = some (.bool (!decide (i = j))) := by
  show (if SeqAt.shaped (.int i) = true ∧ SeqAt.shaped (.int j) = true then some (PyData.bool (!(i == j))) else none) = _
  rw [if_pos ⟨rfl, rfl⟩]
  rfl
theorem truD_b (b : Bool) : truD (.bool b) = some b := rfl
theorem truD_i (i : Int) : truD (.int i) = some (i != 0) := rfl
theorem truD_l (xs : List D) : truD (.list xs) = some (!xs.isEmpty) := rfl
theorem truD_t (xs : List D) : truD (.tuple xs) = some (!xs.isEmpty) := rfl
theorem truD_n : truD .none = some false := rfl
theorem gIx_t0 (x : D) (xs : List D) : gIx (.tuple (x :: xs)) (.int 0) = some x := atI_nat (j := 0) rfl
theorem gIx_t1 (x y : D) (xs : List D) : gIx (.tuple (x :: y :: xs)) (.int 1) = some y := atI_nat (j := 1) rfl
theorem gIx_t2 (x y z : D) (xs : List D) : gIx (.tuple (x :: y :: z :: xs)) (.int 2) = some z := atI_nat (j := 2) rfl
theorem cut_from1 (x : D) (xs : List D) : cutD (x :: xs) (some 1) none = xs := by
  unfold cutD
  have e1 : HT.sIx (x :: xs).length 0 (some 1) = 1 := by simp [HT.sIx]
  have e2 : HT.sIx (x :: xs).length (x :: xs).length none = (x :: xs).length := by simp [HT.sIx]
  rw [e1, e2]
  simp
theorem cut_tail (xs : List D) : cutD xs (some 1) none = xs.tail := by
  cases xs with
  | nil => rfl
  | cons x xs => exact cut_from1 x xs
theorem gSl_t (xs : List D) : gSl (.tuple xs) (some 1) none = some (.tuple xs.tail) := by
  show some (PyData.tuple (cutD xs (some 1) none)) = _
  rw [cut_tail]
theorem gSl_l (xs : List D) : gSl (.list xs) (some 1) none = some (.list xs.tail) := by
  show some (PyData.list (cutD xs (some 1) none)) = _
  rw [cut_tail]
theorem eqv_ints : ∀ (ns ms : List Int), PyData.eqvAll (ns.map .int) (ms.map .int) = decide (ns = ms)
  | [], [] => rfl
  | [], _ :: _ => rfl
  | _ :: _, [] => rfl
  | a :: as, b :: bs => by
    show (PyData.eqv (.int a) (.int b) && PyData.eqvAll (as.map .int) (bs.map .int)) = _
    rw [eqv_ints as bs]
    by_cases e : a = b
    · subst e; simp [PyData.eqv]
    · simp [PyData.eqv, e]
theorem shaped_tup (ns : List Int) : SeqAt.shaped (.tuple (ns.map PyData.int)) = true := by
  have := PySem.W.ke_shaped_ints ns
  simpa [SeqAt.shaped, PyData.canLay0, PyData.depth] using this
theorem gEq_tt (ns ms : List Int) : gEq (.tuple (ns.map .int)) (.tuple (ms.map .int)) = some (.bool (decide (ns = ms))) := by
  show (if SeqAt.shaped (.tuple (ns.map .int)) = true ∧ SeqAt.shaped (.tuple (ms.map .int)) = true then some (PyData.bool (PyData.eqvAll (ns.map .int) (ms.map .int))) else none) = _
  rw [if_pos ⟨shaped_tup ns, shaped_tup ms⟩, eqv_ints]
theorem gLen_t (xs : List D) : gLen (.tuple xs) = some (.int xs.length) := rfl
theorem gLen_l (xs : List D) : gLen (.list xs) = some (.int xs.length) := rfl
theorem rangeD_nat (n : Nat) : rangeD 0 (n : Int) = (List.range n).map fun i : Nat => PyData.int (i : Int) := by
  unfold rangeD
  rw [show ((n : Int) - 0).toNat = n by omega]
  refine List.map_congr_left fun i _ => ?_
  rw [Int.zero_add]
theorem isort_strict {ns : List Int} (h : ns.Nodup) : (isort ns).Pairwise (· < ·) := by
  have h1 := isort_le ns
  have h2 : (isort ns).Nodup := (isort_perm ns).nodup_iff.mpr h
  exact (h1.and h2).imp fun ⟨a, b⟩ => by
    have b : _ ≠ _ := b
    omega
theorem fnComp_i {fi : FI} {g : FG} {ft : FT} {fe : FE} {vs : List Nat} {ρ : Rho} {k : List D → Rho → Prop} (h : fi ρ fun ds ρ1 => ds.length ≤ 1000000 ∧ compD g ft fe vs ds [] ⟨ρ1.sl.map dropOwn, ρ1.n⟩ fun out ρ2 => k out ⟨ρ1.sl, ρ2.n⟩) : fnComp fi g ft fe vs ρ k := h
theorem gTuple_l (xs : List D) : gTuple (.list xs) = some (.tuple xs) := rfl
theorem gAdd_ii (i j : Int) : gAdd (.int i) (.int j) = some (.int (i + j)) := rfl
theorem gAdd_ss (x y : Str) : gAdd (.str x) (.str y) = if x.length + y.length ≤ sizeLine then some (.str (x ++ y)) else none := rfl
theorem gAdd_tt (xs ys : List D) : gAdd (.tuple xs) (.tuple ys) = if xs.length + ys.length ≤ sizeLine then some (.tuple (xs ++ ys)) else none := rfl
theorem gAdd_ll (xs ys : List D) : gAdd (.list xs) (.list ys) = if xs.length + ys.length ≤ sizeLine then some (.list (xs ++ ys)) else none := rfl
end PD
namespace PD
open PySem L2 PyProof.Rows PySem.Spec
mutual
def tame : D → Bool
  | .none | .bool _ => true
  | .int i => decide (i.natAbs < 10 ^ 12)
  | .str x => PyData.strOk x
  | .list xs | .tuple xs => tameAll xs
  | .dict _ => false
def tameAll : List D → Bool
  | [] => true
  | x :: xs => tame x && tameAll xs
end
mutual
theorem tame_all : ∀ d : D, tame d = true → d.canLay0 = true ∧ d.showable = true ∧ d.hasDict = false ∧ d.intsShort 13 = true
  | .none, _ => ⟨rfl, rfl, rfl, rfl⟩
  | .bool _, _ => ⟨rfl, rfl, rfl, rfl⟩
  | .int i, h => by
    have h : i.natAbs < 10 ^ 12 := by simpa [tame] using h
    refine ⟨rfl, ?_, rfl, ?_⟩
    · have e : i.natAbs.log2 < 1920 := by
        by_cases z : i.natAbs = 0
        · rw [z]; decide
        · have : i.natAbs.log2 < 40 := (Nat.log2_lt z).mpr (Nat.lt_of_lt_of_le h (by decide))
          omega
      simpa [PyData.showable] using e
    · simpa [PyData.intsShort] using PyData.shown_int_le h
  | .str x, h => ⟨by simpa [tame, PyData.canLay0] using h, rfl, rfl, rfl⟩
  | .list xs, h => by
    obtain ⟨a, b, c, d⟩ := tameAll_all xs (by simpa [tame] using h)
    exact ⟨by simpa [PyData.canLay0] using a, by simpa [PyData.showable] using b, by simpa [PyData.hasDict] using c, by simpa [PyData.intsShort] using d⟩
  | .tuple xs, h => by
    obtain ⟨a, b, c, d⟩ := tameAll_all xs (by simpa [tame] using h)
    exact ⟨by simpa [PyData.canLay0] using a, by simpa [PyData.showable] using b, by simpa [PyData.hasDict] using c, by simpa [PyData.intsShort] using d⟩
theorem tameAll_all : ∀ xs : List D, tameAll xs = true → PyData.canLayAll0 xs = true ∧ PyData.showableAll xs = true ∧ PyData.hasDictAll xs = false ∧ PyData.intsShortAll 13 xs = true
  | [], _ => ⟨rfl, rfl, rfl, rfl⟩
  | x :: xs, h => by
    have h : tame x = true ∧ tameAll xs = true := by simpa [tameAll] using h
    obtain ⟨a, b, c, d⟩ := tame_all x h.1
    obtain ⟨a', b', c', d'⟩ := tameAll_all xs h.2
    refine ⟨?_, ?_, ?_, ?_⟩
    · show (x.canLay0 && _) = true; rw [a, a']; rfl
    · show (x.showable && _) = true; rw [b, b']; rfl
    · show (x.hasDict || _) = false; rw [c, c']; rfl
    · show (x.intsShort 13 && _) = true; rw [d, d']; rfl
end
theorem gRepr_tame {d : D} (h : tame d = true) (hd : d.depth ≤ 60) (hw : d.weight ≤ 1000000) : gRepr d = some (.str d.shown) := by
  obtain ⟨a, b, c, e⟩ := tame_all d h
  have hs : d.shown.length ≤ 15728653 := PyData.shown_le_of_layable0 (by
    show (d.canLay0 && decide (d.depth ≤ 64) && decide (d.weight ≤ 2 ^ 20)) = true
    rw [a, decide_eq_true (show d.depth ≤ 64 by omega), decide_eq_true (show d.weight ≤ 2 ^ 20 from Nat.le_trans hw (by decide))]
    rfl) e
  unfold gRepr fits
  rw [b, c, decide_eq_true (show d.shown.length ≤ sizeLine by rw [sizeLine_eq]; omega), decide_eq_true hd]
  rfl
end PD
namespace PD
open PySem L2 PyProof.Rows PySem.Spec
open Evl (Ex)
theorem R.oneT {K : Fr0} {M : Mk0} {H : Hp} {v : V} {d : D} (hT : ∀ t ∈ M.T, H t = some (.tbl #[])) (h : Rp K (hide M.T H) v d) : R K M none (fun _ => none) M.T ⟨[.d d], 0⟩ [some v] H where
  len := rfl
  sl := fun i s o h1 h2 => by
    cases i with
    | zero =>
      cases h1
      cases h2
      exact ⟨v, rfl, h⟩
    | succ i => simp at h1
  fr := fun a o h => nomatch h
  tr := fun a h => ⟨_, hT a h⟩
  apart := fun i j xs ys l _ h1 _ _ _ => by
    cases i with
    | zero => cases h1
    | succ i => simp at h1
  ownF := fun i xs l h1 _ => rfl
  m := fun p h => nomatch h
  op := fun i _ _ _ _ h1 => by
    cases i with
    | zero => cases h1
    | succ i => simp at h1
  tb := fun t ht => ⟨rfl, ht, #[], hT t ht, True.intro, fun pos cv hc => by
    have z : codeAmong pos [] = some cv := hc
    simp [codeAmong] at z⟩
/-- a script of ints, by the promise over data -/
theorem head_ofT {K : Fr0} {M : Mk0} {W : FE} {H : Hp} {a : Addr} {ns : List Int} (hT : ∀ t ∈ M.T, H t = some (.tbl #[])) (hS : SqL K.f H a (ns.map V.int))
    (hW : ∀ k : KD, (∀ n', k (.bool true) ⟨[.d (.list (ns.map .int))], n'⟩) → W ⟨[.d (.list (ns.map .int))], 0⟩ k) :
    spD K M 1 W [.ref a] H (fun v _ => v = .bl true) fun _ _ _ => False := by
  have hS2 : SqL K.f (hide M.T H) a (ns.map V.int) := by
    have nT : ∀ o, H a = some o → (∀ ps, o ≠ .tbl ps) → hide M.T H a = some o := fun o ho no => hide_some.mpr ⟨fun z => by
      have := hT a z
      rw [ho] at this
      exact no _ (Option.some.inj this), ho⟩
    rcases hS with (h | ⟨o, h⟩) | h
    · exact .inl (.inl (nT _ h fun ps z => by cases z))
    · exact .inl (.inr ⟨o, nT _ h fun ps z => by cases z⟩)
    · exact .inr h
  refine ⟨none, fun _ => none, M.T, _, R.oneT hT (.lst hS2 (dpa_ints ns)), fun i xs h => ?_, rfl, hW _ fun n' v L' H' e r d => ?_⟩
  · cases i with
    | zero => cases h
    | succ i => simp at h
  · cases d
    rfl
theorem head_of {K : Fr0} {M : Mk0} {W : FE} {H : Hp} {a : Addr} {ns : List Int} (hS : SqL K.f H a (ns.map V.int))
    (hW : ∀ k : KD, (∀ n', k (.bool true) ⟨[.d (.list (ns.map .int))], n'⟩) → W ⟨[.d (.list (ns.map .int))], 0⟩ k) (hT : M.T = [] := by rfl) :
    spD K M 1 W [.ref a] H (fun v _ => v = .bl true) fun _ _ _ => False := head_ofT (fun t ht => by rw [hT] at ht; cases ht) hS hW
end PD
namespace PD
open PySem L2 PyProof.Rows PySem.Spec
open Evl (Ex)
def kvB (c l : Addr) (k : Int) : List (Key × V) := [(.inr "cells", .ref c), (.inr "great", .ref l), (.inr "spot", .int k)]
def MBt (T : List Addr) (nm : Nat → Nat → Str) : Mk0 where
  T := T
  nm := nm
  holds _ p n A H := ∃ (c l : Addr) (cs ls : List Int) (k : Int), A = [p, c, l] ∧ c ≠ l ∧ H p = some (.dK (kvB c l k)) ∧ H c = some (.lst (cs.map V.int)) ∧ H l = some (.lst (ls.map V.int)) ∧ 0 ≤ k ∧ k ≤ n ∧ cs.length ≤ 63 ∧ ls.length ≤ 63
  loc := fun {K p n A H H'} h ⟨c, l, cs, ls, k, eA, n1, h1, h2, h3, r⟩ => by
    subst eA
    exact ⟨c, l, cs, ls, k, rfl, n1, h _ (by simp) _ h1, h _ (by simp) _ h2, h _ (by simp) _ h3, r⟩
  le := fun {K p n m A H} hm ⟨c, l, cs, ls, k, eA, n1, h1, h2, h3, a, b, r⟩ => ⟨c, l, cs, ls, k, eA, n1, h1, h2, h3, a, by omega, r⟩
  nt := fun ⟨c, l, cs, ls, k, eA, n1, h1, h2, h3, _⟩ => by subst eA; exact nt3 h1 h2 h3
abbrev MB : Mk0 := MBt [] (fun _ _ => "")
structure SB (H0 : Hp) (p c l0 : Addr) (cs : List Int) (l : Addr) (ls : List Int) (k : Int) (H : Hp) : Prop where
  hp : H p = some (.dK (kvB c l k))
  hc : H c = some (.lst (cs.map V.int))
  hl : H l = some (.lst (ls.map V.int))
  ncl : c ≠ l
  fresh : l = l0 ∨ H0 l = none
  same : ∀ a o, H0 a = some o → a ≠ p → a ≠ l0 → H a = some o
  h0 : ∃ o, H l0 = some o
  cn : c ≠ l0
  ln : ls.length ≤ 63
section
variable {H0 H : Hp} {p c l0 l : Addr} {cs ls : List Int} {k : Int}
theorem SB.new (S : SB H0 p c l0 cs l ls k H) {t : Addr} {o : HO} (ht : H t = none) : SB H0 p c l0 cs l ls k (upd H t o) :=
  ⟨by rw [upd_ne (ne_of_none S.hp ht)]; exact S.hp, by rw [upd_ne (ne_of_none S.hc ht)]; exact S.hc, by rw [upd_ne (ne_of_none S.hl ht)]; exact S.hl, S.ncl, S.fresh,
   fun a o' h n1 n2 => by have := S.same a o' h n1 n2; rw [upd_ne (ne_of_none this ht)]; exact this, by obtain ⟨o', h⟩ := S.h0; exact ⟨o', by rw [upd_ne (ne_of_none h ht)]; exact h⟩, S.cn, S.ln⟩
theorem SB.np (S : SB H0 p c l0 cs l ls k H) : p ≠ l ∧ p ≠ c := by
  constructor
  · intro e
    have h := S.hp
    rw [e, S.hl] at h
    cases h
  · intro e
    have h := S.hp
    rw [e, S.hc] at h
    cases h
theorem kvB_cells : valV (kvB c l k) (.inr "cells" : Key) = some (.ref c) := rfl
theorem kvB_great : valV (kvB c l k) (.inr "great" : Key) = some (.ref l) := rfl
theorem kvB_spot : valV (kvB c l k) (.inr "spot" : Key) = some (.int k) := rfl
theorem kvB_pgreat {l' : Addr} : putK (kvB c l k) (.inr "great" : Key) (.ref l') = kvB c l' k := rfl
theorem kvB_pspot {k' : Int} : putK (kvB c l k) (.inr "spot" : Key) (.int k') = kvB c l k' := rfl
end
def W_nextB : FE := fun ρ k => ∃ t : Int, ρ.sl = [.st, .d (.int t)] ∧ 0 < t ∧ t < 1073741824 ∧ ρ.n < 1000000000000 ∧ ∀ r : Int, 0 ≤ r → r < t → k (.int r) ⟨ρ.sl, ρ.n + 1⟩
theorem mW_nextB (ρ : Rho) (k k' : KD) (h : ∀ d ρ', k d ρ' → k' d ρ') (q : W_nextB ρ k) : W_nextB ρ k' := by
  obtain ⟨t, e, h1, h0, h2, h3⟩ := q
  exact ⟨t, e, h1, h0, h2, fun r a b => h _ _ (h3 r a b)⟩
/-- the end of a draw -/
theorem endB {K : Fr0} {F : Hp} {L : List Addr} {ρ : Rho} {σ : L2.St} {H Hf : Hp} {p c l0 l : Addr} {cs ls : List Int} {k : Int} {Q : VK} {t x : Int} {T : List Addr} {nm : Nat → Nat → Str} (r : R K (MBt T nm) (some p) F L ρ σ H)
    (hA : (∀ a ∈ [p, c, l0], a ∈ L ∧ F a = none) ∧ ∀ (i : Nat) (xs : Ow) (l : Addr), ρ.sl[i]? = some (.own xs) → σ[i]? = some (some (.ref l)) → l ∉ [p, c, l0])
    (S : SB H p c l0 cs l ls k Hf) (hH : NoTb [p, c, l0] H) (hc : cs.length ≤ 63) (h0 : 0 ≤ k) (h1 : k ≤ (ρ.n + 1 : Nat)) (ht : 0 < t)
    (hk : ∀ r : Int, 0 ≤ r → r < t → KV' K (MBt T nm) (some p) F L σ H Q (.int r) ⟨ρ.sl, ρ.n + 1⟩) : Q (.int (x % t)) Hf := by
  obtain ⟨e, r'⟩ := R.drawn (M := MBt T nm) (A' := [p, c, l]) (m := ρ.n + 1) r hA hH ⟨c, l, cs, ls, k, rfl, S.ncl, S.hp, S.hc, S.hl, h0, h1, hc, S.ln⟩ (fun a o ha n => S.same a o ha (fun e => n (by simp [e])) (fun e => n (by simp [e])))
    (fun a ha => by
      rcases List.mem_cons.mp ha with e | ha
      · exact ⟨_, e ▸ S.hp⟩
      · rcases List.mem_cons.mp ha with e | ha
        · exact ⟨_, e ▸ S.hc⟩
        · rcases List.mem_cons.mp ha with e | ha
          · exact e ▸ S.h0
          · cases ha)
    (fun a ha => by
      rcases List.mem_cons.mp ha with e | ha
      · exact ⟨.inl (by simp [e]), _, e ▸ S.hp⟩
      · rcases List.mem_cons.mp ha with e | ha
        · exact ⟨.inl (by simp [e]), _, e ▸ S.hc⟩
        · rcases List.mem_cons.mp ha with e | ha
          · refine ⟨?_, _, e ▸ S.hl⟩
            rcases S.fresh with f | f
            · exact .inl (by simp [e, f])
            · exact .inr (by rw [e]; exact f)
          · cases ha)
  exact hk (x % t) (Int.emod_nonneg _ (by omega)) (Int.emod_lt_of_pos _ ht) _ _ _ e r' (.int _)
theorem comp_bigB (ns : List Int) : ∀ (acc : List Int) (ρ : Rho) (k : List D → Rho → Prop) (s0 s1 s2 : Sl), ρ.sl = [s0, s1, s2] → (∀ ms : List Int, ms.length ≤ acc.length + ns.length → k (ms.map .int) ρ) →
    compD (fgN 2) (ftB (fOp gGe (fVar 2) (fOp gPow (fC (.int 10)) (fC (.int 18))))) (fVar 2) [2] (ns.map .int) (acc.map .int) ρ k := by
  induction ns with
  | nil => intro acc ρ k s0 s1 s2 e h; exact h acc (by simp)
  | cons x xs ih =>
    intro acc ρ k s0 s1 s2 e h
    obtain ⟨sl, n⟩ := ρ
    simp only at e
    subst e
    refine ⟨.int x, rfl, .int (10 ^ 18), by simp [gPow], _, rfl, _, rfl, ?_⟩
    refine ite2 (fun _ => ?_) (fun _ => ?_)
    · refine ⟨.int x, rfl, ?_⟩
      have := ih (acc ++ [x]) ⟨[s0, s1, s2], n⟩ k s0 s1 s2 rfl fun ms hm => h ms (by simp at hm ⊢; omega)
      rw [List.map_append] at this
      exact this
    · exact ih acc ⟨[s0, s1, s2], n⟩ k s0 s1 s2 rfl fun ms hm => h ms (by simp at hm ⊢; omega)
end PD
namespace PD
open PySem L2 PyProof.Rows PySem.Spec
open Evl (Ex)
section
variable {X : Cx} {M : Mk0} {o e a b : Expr} {fo fa fb : FE} {pos : Pos} {K : Fr0}
def fM0 (g : D → Option D) (fo : FE) : FE := fun ρ k => fo ρ fun x ρ1 => ∃ y, x = .str y ∧ ∃ d, g x = some d ∧ k d ρ1
def fM1 (g : D → D → Option D) (fo fa : FE) : FE := fun ρ k => fo ρ fun x ρ1 => (∃ y, x = .str y) ∧ fa ρ1 fun z ρ2 => ∃ d, g x z = some d ∧ k d ρ2
def fJ : List FE → Str → Rho → (Str → Rho → Prop) → Prop
  | [], acc, ρ, k => k acc ρ
  | f :: fs, acc, ρ, k => f ρ fun d ρ1 => ∃ y : Str, d = .str y ∧ (acc ++ y).length ≤ sizeLine ∧ fJ fs (acc ++ y) ρ1 k
inductive PDJ (X : Cx) (M : Mk0) : List Expr → List FE → Prop where
  | nil : PDJ X M [] []
  | cons {e : Expr} {f : FE} {es : List Expr} {fs : List FE} (h : PD X M e f) (r : PDJ X M es fs) : PDJ X M (e :: es) (f :: fs)
theorem PDJ.mono {es : List Expr} {fs : List FE} (h : PDJ X M es fs) : ∀ (acc : Str) (ρ : Rho) (k k' : Str → Rho → Prop), (∀ d ρ', k d ρ' → k' d ρ') → fJ fs acc ρ k → fJ fs acc ρ k' := by
  induction h with
  | nil => exact fun acc ρ k k' g q => g _ _ q
  | cons h _ ih => exact fun acc ρ k k' g q => h.mono _ _ _ (fun d ρ1 ⟨y, h0, h1, q⟩ => ⟨y, h0, h1, ih _ _ _ _ g q⟩) q
def fJoined (fs : List FE) : FE := fun ρ k => fJ fs Str.empty ρ fun s ρ1 => k (.str s) ρ1
end
end PD
namespace PD
open PySem L2 PyProof.Rows PySem.Spec
open Evl (Ex)
end PD
namespace PD
open PySem L2 PyProof.Rows PySem.Spec
open Evl (Ex)
end PD
namespace PD
open PySem L2 PyProof.Rows PySem.Spec
open Evl (Ex)
section
variable {X : Cx} {M : Mk0} {a : Expr} {es : List Expr} {fa : FE} {fl : FL} {p pos : Pos}
/-- *e in a display: the items of a tuple or a list -/
def starD : D → Option (List D)
  | .tuple xs => some xs
  | .list xs => some xs
  | _ => none
def flStar (fa : FE) (fl : FL) : FL := fun ρ k => fa ρ fun d ρ1 => ∃ xs, starD d = some xs ∧ fl ρ1 fun ds ρ2 => k (xs ++ ds) ρ2
end
end PD
namespace PD
open PySem L2 PyProof.Rows PySem.Spec
open Evl (Ex)
section
variable {X : Cx} {M : Mk0} {k : Nat} {f : Addr} {fd : FuncData} {ps : List Str} {n : Nat} {W : FE} {x : Str} {p pos : Pos}
/-- a call without arguments -/
def fCall0 (W : FE) : FE := fun ρ k => W ⟨[], ρ.n⟩ fun d ρ2 => k d ⟨ρ.sl, ρ2.n⟩
end
end PD
namespace PD
open PySem L2 PyProof.Rows PySem.Spec TL
open Evl (Ex)
structure Neat (x : D) (dep wt : Nat) : Prop where
  t : tame x = true
  d : x.depth ≤ dep
  w : x.weight ≤ wt
theorem Neat.mono {d : D} {a b a' b' : Nat} (h : Neat d a b) (ha : a ≤ a') (hb : b ≤ b') : Neat d a' b' := ⟨h.t, Nat.le_trans h.d ha, Nat.le_trans h.w hb⟩
end PD
namespace PD
open PySem L2 PyProof.Rows PySem.Spec
open Evl (Ex)
abbrev XC := Value → List (D × D) → Rho → Prop
abbrev FX := Rho → XC → Prop
def KX (K : Fr0) (M : Mk0) (P : Option Addr) (F : Hp) (L : List Addr) (H : Hp) (W : WX) : XC := fun c fl ρ' => ∀ (σ' : L2.St) (L' : List Addr) (H' : Hp) (d : Option Addr), Ex (hide L H) (hide L' H') → R K M P F L' ρ' σ' H' → XAt K (hide L' H') d fl → W c d σ' H'
def KE (K : Fr0) (M : Mk0) (P : Option Addr) (F : Hp) (L : List Addr) (σ : L2.St) (H : Hp) (E : XK) : XC := fun c fl ρ' => ∀ (L' : List Addr) (H' : Hp) (d : Option Addr), Ex (hide L H) (hide L' H') → R K M P F L' ρ' σ H' → XAt K (hide L' H') d fl → E c d H'
def DX (K : Fr0) (M : Mk0) (W : WX) (f : FX) (σ : L2.St) (H : Hp) : Prop := ∃ P F L ρ, R K M P F L ρ σ H ∧ f ρ (KX K M P F L H W)
/-- an expression that does not end, but raises -/
structure PX (X : Cx) (M : Mk0) (W : WX) (e : Expr) (f : FX) : Prop where
  pe : PE X e (fun σ H _ => DX X.k0 M W f σ H)
  mono : ∀ ρ k k', (∀ c fl ρ', k c fl ρ' → k' c fl ρ') → f ρ k → f ρ k'
structure PR (X : Cx) (M : Mk0) (W : WX) (st : Stmt) (f : FX) : Prop where
  ps : PS X st (fun _ σ H => DX X.k0 M W f σ H)
  mono : ∀ ρ k k', (∀ c fl ρ', k c fl ρ' → k' c fl ρ') → f ρ k → f ρ k'
structure PRs (X : Cx) (M : Mk0) (W : WX) (ss : List Stmt) (f : FX) : Prop where
  ps : PSs X ss (fun _ σ H => DX X.k0 M W f σ H)
  mono : ∀ ρ k k', (∀ c fl ρ', k c fl ρ' → k' c fl ρ') → f ρ k → f ρ k'
theorem pss_or {X : Cx} {ss : List Stmt} {t u : TS} (h : PSs X ss t) (g : PSs X ss u) : PSs X ss (fun D σ H => t D σ H ∨ u D σ H) := ⟨fun pins s σ H D I q => q.elim (h.run pins s σ H D I) (g.run pins s σ H D I)⟩
section
variable {K : Fr0} {M : Mk0} {W : WX} {f g : FX}
def fxOr (f g : FX) : FX := fun ρ k => f ρ k ∨ g ρ k
def fxNo : FX := fun _ _ => False
theorem DX.or {σ : L2.St} {H : Hp} (h : DX K M W (fxOr f g) σ H) : DX K M W f σ H ∨ DX K M W g σ H := by
  obtain ⟨P, F, L, ρ, r, q⟩ := h
  exact q.elim (fun z => .inl ⟨P, F, L, ρ, r, z⟩) fun z => .inr ⟨P, F, L, ρ, r, z⟩
theorem KX.later {P : Option Addr} {F : Hp} {L L1 : List Addr} {H H1 : Hp} (e : Ex (hide L H) (hide L1 H1)) (c : Value) (fl : List (D × D)) (ρ' : Rho) (q : KX K M P F L H W c fl ρ') : KX K M P F L1 H1 W c fl ρ' :=
  fun σ' L' H' d e' r x => q σ' L' H' d (e.trans e') r x
end
section
variable {X : Cx} {M : Mk0} {W : WX} {e a b c : Expr} {es : List Expr} {st : Stmt} {ss tt : List Stmt} {fa fb : FE} {ft : FT} {fl : FL} {fs fs' : FS} {f g : FX} {pos p : Pos}
theorem prs_or (h : PRs X M W ss f) (h' : PRs X M W ss g) : PRs X M W ss (fxOr f g) :=
  ⟨PSs.wk (pss_or h.ps h'.ps) fun _ _ _ q => q.or, fun ρ k k' le q => q.elim (fun z => .inl (h.mono ρ k k' le z)) fun z => .inr (h'.mono ρ k k' le z)⟩
theorem prs_no (h : PDs X M ss fs) : PRs X M W ss fxNo := ⟨PSs.wk h.ps fun _ _ _ ⟨_, _, _, _, _, q⟩ => q.elim, fun _ _ _ _ q => q.elim⟩
/-- the first statement raises -/
theorem prs_hd (h : PR X M W st f) (hs : PDs X M ss fs) : PRs X M W (st :: ss) f := ⟨PSs.wk (pss_cons h.ps hs.ps) fun _ _ _ q => q, h.mono⟩
/-- the first one runs through, a later one raises -/
def fxThen (fs : FS) (g : FX) : FX := fun ρ k => fs ρ { nx := fun ρ1 => g ρ1 k, rt := fun _ _ => False }
theorem prs_tl (h : PDS X M st fs) (hs : PRs X M W ss g) : PRs X M W (st :: ss) (fxThen fs g) := by
  refine ⟨PSs.wk (pss_cons h.ps hs.ps) fun D σ H ⟨P, F, L, ρ, r, q⟩ => ?_, fun ρ k k' le q => h.mono ρ { nx := fun ρ1 => g ρ1 k, rt := fun _ _ => False } { nx := fun ρ1 => g ρ1 k', rt := fun _ _ => False } ⟨fun ρ1 z => hs.mono _ _ _ le z, fun _ _ z => z, fun _ z => z, fun _ z => z⟩ q⟩
  refine ⟨P, F, L, ρ, r, h.mono _ _ _ ⟨fun ρ1 z σ1 L1 H1 e1 r1 => ?_, fun _ _ z => False.elim z, fun _ z => False.elim z, fun _ z => False.elim z⟩ q⟩
  exact ⟨P, F, L1, ρ1, r1, hs.mono _ _ _ (KX.later e1) z⟩
/-- if: what its suites raise -/
def fxIf (ft : FT) (f g : FX) : FX := fun ρ k => ft ρ fun b ρ1 => if b = true then f ρ1 k else g ρ1 k
theorem pr_if (ht : PDT X M c ft) (h : PRs X M W ss f) (h' : PRs X M W tt g) : PR X M W (.If c ss tt pos) (fxIf ft f g) := by
  refine ⟨PS.wk (ps_if ht.pt h.ps h'.ps) fun D σ H ⟨P, F, L, ρ, r, q⟩ => ?_, fun ρ k k' le q => ht.mono _ _ _ (fun b ρ1 z => ?_) q⟩
  · refine ⟨P, F, L, ρ, r, ht.mono _ _ _ (fun b ρ1 z L1 H1 e1 r1 => ?_) q⟩
    cases b with
    | true => exact ⟨P, F, L1, ρ1, r1, h.mono _ _ _ (KX.later e1) z⟩
    | false => exact ⟨P, F, L1, ρ1, r1, h'.mono _ _ _ (KX.later e1) z⟩
  · cases b with
    | true => exact h.mono _ _ _ le z
    | false => exact h'.mono _ _ _ le z
theorem pr_expr (h : PX X M W e f) (hs : swapsWith e none pos.line X.env = pure false := by rfl) : PR X M W (.Expr e pos) f := ⟨PS.wk (ps_expr h.pe hs) fun _ _ _ q => q, h.mono⟩
end
def spX (K : Fr0) (M : Mk0) (n : Nat) (V : FE) (U : FX) : Sp := fun vs H Q E => ∃ P F L ρ, R K M P F L ρ (vs.map some) H ∧ Bare ρ ∧ ρ.sl.length = n ∧ (V ρ (KV' K M P F L (vs.map some) H Q) ∨ U ρ (KE K M P F L (vs.map some) H E))
def spU (K : Fr0) (M : Mk0) (n : Nat) (U : FX) : Sp := fun vs H _ E => ∃ P F L ρ, R K M P F L ρ (vs.map some) H ∧ Bare ρ ∧ ρ.sl.length = n ∧ U ρ (KE K M P F L (vs.map some) H E)
section
variable {P : Program} {w : World} {K : PySem.W.Frag} {mg : Str → Option Value} {base : Heap} {k : Nat} {f : Addr} {fd : FuncData} {ps N : List Str} {M : Mk0} {fs : FS} {V V' : FE} {U U' : FX} {n : Nat}
theorem FnG.left (G : FnG P w K mg base (L2.CX P w) k f fd ps (spX ⟨K, w, P⟩ M n V U)) : FnG P w K mg base (L2.CX P w) k f fd ps (spD ⟨K, w, P⟩ M n V) :=
  G.imp fun vs H Q E ⟨P', F, L, ρ, r, hb, hl, q⟩ => ⟨P', F, L, ρ, r, hb, hl, .inl q⟩
theorem FnG.right (G : FnG P w K mg base (L2.CX P w) k f fd ps (spX ⟨K, w, P⟩ M n V U)) : FnG P w K mg base (L2.CX P w) k f fd ps (spU ⟨K, w, P⟩ M n U) :=
  G.imp fun vs H Q E ⟨P', F, L, ρ, r, hb, hl, q⟩ => ⟨P', F, L, ρ, r, hb, hl, .inr q⟩
theorem spX_imp {K : Fr0} (h : ∀ ρ k, V' ρ k → V ρ k) (h' : ∀ ρ k, U' ρ k → U ρ k) (vs : List L2.V) (H : Hp) (Q : VK) (E : XK) (q : spX K M n V' U' vs H Q E) : spX K M n V U vs H Q E := by
  obtain ⟨P, F, L, ρ, r, hb, hl, q⟩ := q
  exact ⟨P, F, L, ρ, r, hb, hl, q.elim (fun z => .inl (h _ _ z)) fun z => .inr (h' _ _ z)⟩
def fBodyX (nN : Nat) (fr : FX) : FX := fun ρ k => fr ⟨ρ.sl ++ List.replicate (nN - ρ.sl.length) .no, ρ.n⟩ fun c fl ρ' => k c fl ⟨ρ.sl, ρ'.n⟩
theorem fnX {x qual : Str} {st : Stmt} {fr : FX} (F : Fun K x qual st f fd) (S : FnScope N ps (defScope st))
    (body : ∀ (X : Cx) (cdv : Value) (A : Around) (outer : List Env) (s : Shared) (H : Hp) (E : XK), X = cxOf (L2.CX P w) P w K mg base N qual (defScope st) f cdv A outer s H E → A.guards = some [] → Room k (A.deeper (envOfC qual (defScope st) s.heap.objs.size f cdv)) →
      Takes X (fun c d _ H' => E c d H') → PassesOwn (model P w) X.A X.env X.xe → PDs X M (defBody st) fs ∧ PRs X M (fun c d _ H' => E c d H') (defBody st) fr) :
    FnG P w K mg base (L2.CX P w) (k + 1) f fd ps (spX ⟨K, w, P⟩ M ps.length (fBody N.length fs) (fBodyX N.length fr)) := by
  refine fnG_of F S (fun vs H Q E ⟨P', F', L, ρ, r, hb, hl, _⟩ => ?_) fun cdv A outer s H vs Q E hg hr ⟨P', F', L, ρ, r, hb, hl, hw⟩ => ?_
  · have := r.len
    rw [List.length_map] at this
    omega
  · obtain ⟨B, C⟩ := body _ cdv A outer s H E rfl hg hr (takes_of rfl rfl rfl rfl) (passes_of rfl)
    refine ⟨_, pss_or B.ps C.ps, ?_⟩
    rcases hw with hw | hw
    · refine .inl ⟨P', F', L, _, r.start hb N, B.mono _ _ _ ⟨fun ρ' q σ' L' H' e' r' => ?_, fun d ρ' q v σ' L' H' e' r' d' => ?_, fun _ (q : False) => q.elim, fun _ (q : False) => q.elim⟩ hw⟩
      · exact q .non L' H' e' (r.swap hb r' e') .non
      · exact q v L' H' e' (r.swap hb r' e') d'
    · exact .inr ⟨P', F', L, _, r.start hb N, C.mono _ _ _ (fun c fl ρ' q σ' L' H' d e' r' x => q L' H' d e' (r.swap hb r' e') x) hw⟩
end
section
variable {X : Cx} {M : Mk0} {W : WX} {k : Nat} {f : Addr} {fd : FuncData} {ps : List Str} {n : Nat} {U : FX} {x : Str} {p pos : Pos} {e : Expr} {es : List Expr} {fa : FA} {sp : Sp} {t : TA}
/-- .. called where a wish about exceptions is known at each state -/
theorem run_fnGW {pins : List (Addr × Obj)} {σ : L2.St} {H : Hp} {s : Shared} {Q : VK} {us : List Value} {vs : List V} {E : XK} (G : FnG X.prog X.w X.K X.mg X.base (L2.CX X.prog X.w) k f fd ps sp) (hgd : X.A.guards = some []) (hr : Room k X.A) (hb : Binds X.K fd ps [])
    (hx : PassesAt (L2.CX X.prog X.w) X σ E) (I : Inv X pins σ H s) (r : Vals vs us) (h : sp vs H Q E) : wpAny (model X.prog X.w) X.A (call (.ref f) us) (EP X pins σ Q) X.xe s := by
  have hl : (us ++ []).length = ps.length := by rw [List.append_nil, ← r.length]; exact G.len _ _ _ _ h
  have bi := hb s us I.kIn hl
  rw [List.append_nil] at bi
  refine wpAny_call (codeAny_mono (G.go X.A X.stack s H ⟨us, []⟩ us vs Q E hgd hr I.env0 bi r h) fun res sB hq => ?_)
  cases res with
  | error ex => exact hx pins H s ex sB I hq
  | ok fl =>
    cases fl with
    | ret u => exact I.after hq
    | next => exact hq.elim
    | brk => exact hq.elim
    | cont => exact hq.elim
def tCallW (sp : Sp) (W : WX) (t : TA) : TE := fun σ H Q => t σ H fun vs H1 => sp vs H1 Q (WE W σ)
theorem pe_callW (tk : Takes X W) (G : FnG X.prog X.w X.K X.mg X.base (L2.CX X.prog X.w) k f fd ps sp) (hgd : X.A.guards = some []) (hr : Room k X.A) (hg : Gl X x) (hm : X.mg x = some (.ref f)) (hk : PySem.W.keepIn X.K (.ref f) = true) (hb : Binds X.K fd ps [])
    (ha : PA X (e :: es) t) (hdb : (x == ("__debug__" : Str)) = false := by decide) (he : starEach (e :: es) X.env = (false, eval e X.env) :: starEach es X.env := by rfl) (hpl : (backTo pos (starEach es X.env)).any (·.1) = false := by rfl) :
    PE X (.Call (.Name x p) (e :: es) [] pos) (tCallW sp W t) := by
  constructor
  intro pins s σ H Q I hw
  refine wpAny_Call_Name_kw (ld_glob I hg hm ?_ hdb)
  exact PySem.W.callWith_K (h₀ := X.base) I.ok.mod.kin hk (thn (ha.run pos pins s σ H _ I hw) fun us sA ⟨vs, HA, IA, rA, qA⟩ => ⟨IA.kIn, run_fnGW G hgd hr hb (passAt tk σ) IA rA qA⟩) he hpl
/-- a call that raises -/
def fxCall (n : Nat) (U : FX) (fa : FA) : FX := fun ρ k => fa ρ fun ss ρ1 => ss.length = n ∧ U ⟨ss, ρ1.n⟩ fun c fl ρ2 => k c fl ⟨ρ1.sl, ρ2.n⟩
theorem px_call (tk : Takes X W) (mU : ∀ ρ k k', (∀ c fl ρ', k c fl ρ' → k' c fl ρ') → U ρ k → U ρ k') (G : FnG X.prog X.w X.K X.mg X.base (L2.CX X.prog X.w) k f fd ps (spU X.k0 M n U)) (hgd : X.A.guards = some []) (hr : Room k X.A) (hg : Gl X x) (hm : X.mg x = some (.ref f))
    (hk : PySem.W.keepIn X.K (.ref f) = true) (hb : Binds X.K fd ps []) (ha : PDA X M (e :: es) fa) (hdb : (x == ("__debug__" : Str)) = false := by decide) (he : starEach (e :: es) X.env = (false, eval e X.env) :: starEach es X.env := by rfl)
    (hpl : (backTo pos (starEach es X.env)).any (·.1) = false := by rfl) : PX X M W (.Call (.Name x p) (e :: es) [] pos) (fxCall n U fa) := by
  refine ⟨PE.wk (pe_callW tk G hgd hr hg hm hk hb ha.pa hdb he hpl) fun σ H Q ⟨P, F, L, ρ, r, q⟩ => ?_, fun ρ k k' g q => ha.mono _ _ _ (fun ss ρ1 q => ⟨q.1, mU _ _ _ (fun c fl ρ2 q => g _ _ _ q) q.2⟩) q⟩
  refine ⟨P, F, L, ρ, r, ha.mono _ _ _ (fun ss ρ1 q vs L1 H1 e1 r1 hl hs hbare => ?_) q⟩
  have r2 : R X.k0 M P (keepF ρ1 σ F H1) L1 ⟨ss, ρ1.n⟩ (vs.map some) H1 := r1.frame hbare rfl (by simpa using hl) fun i s o g1 g2 => by
    rw [List.getElem?_map] at g2
    cases ev : vs[i]? with
    | none => rw [ev] at g2; cases g2
    | some v =>
      rw [ev] at g2
      cases g2
      exact hs i s v g1 ev
  refine ⟨P, _, L1, _, r2, hbare, q.1, mU _ _ _ (fun c fl ρ2 q2 L2' H2 d e2 r3 x2 => ?_) q.2⟩
  exact q2 σ L2' H2 d (e1.trans e2) (r1.back r3 e2) x2
end
end PD
namespace PD
open PySem L2 PyProof.Rows PySem.Spec
open Evl (Ex)
def spExA (C : Addr) (nm : Str) : Sp := fun vs H Q _ => ∃ a v, vs = [.ref a, v] ∧ H a = some (exo a C none) ∧ ∀ dx, H dx = none → dx ≠ a → Q .non (upd (upd H dx (exd dx [(nm, v)])) a (exo a C (some dx)))
def spExN (C : Addr) : Sp := fun vs H Q _ => ∃ a v, vs = [.ref a, v] ∧ H a = some (exo a C none) ∧ Q .non H
/-- what the written part says of such a class and its __init__ -/
structure ExC (K : PySem.W.Frag) (C fI : Addr) : Prop where
  T : OexC K C
  iC : PySem.W.findIn K (.ref C) "__init__" = some (some (.ref fI))
  tI : PySem.W.typeIn K (.ref fI) = some (.type "function")
section
variable {X : Cx} {e : Expr} {es : List Expr} {ta : TA} {p pos : Pos}
/-- made, nothing kept: let go -/
theorem let_go {pins : List (Addr × Obj)} {σ : L2.St} {H1 H2 : Hp} {hp hp2 h2 : Heap} {g1 g2 : Array GenState} {d1 d2 : Drawn} {t1 t2 : Nat} {os1 os2 : OsState} {a C : Addr} (I1 : Inv X pins σ H1 ⟨hp, g1, d1, t1, os1⟩)
    (ha : hp.objs.size ≤ a) (k : ∀ b o, hp.get? b = some o → hp2.get? b = some o) (un : Un (frs X.stack) [] (upd H1 a (exo a C none)) H2 hp2 h2) (hok : HOk X.prog X.w H2 h2) (ho : os2 = os1) (hb : AllBare g2)
    (ea : H2 a = some (exo a C none)) :
    ∃ (t0 : Addr) (G : Heap), Inv X pins σ (L2.del H2 a) ⟨G, g2, d2, t2, os2⟩ ∧ (∀ b o, G.get? b = some o → h2.get? b = some o) ∧ G.get? a = none ∧
      h2.get? a = some ({ cls := .ref C, dict := none, data := .fields #[.ref t0, .none, .none, .none, .bool false, .none] } : Obj) := by
  obtain ⟨t0, hoe⟩ := exo_at hok ea
  have hn : H1 a = none := I1.hok.fresh ha
  obtain ⟨G, onG, offG⟩ := restrict h2 fun b => decide (b ≠ a)
  have gk : ∀ {b}, b ≠ a → G.get? b = h2.get? b := fun {b} hb => onG b (decide_eq_true hb)
  have ge : G.get? a = none := offG a (by simp)
  have away : ∀ {b : Addr} {o : Obj}, hp.get? b = some o → b ≠ a := fun {b o} z => Nat.ne_of_lt (Nat.lt_of_lt_of_le (Heap.lt_size z) ha)
  have up : ∀ {b : Addr}, b ≠ a → H1 b = none → upd H1 a (exo a C none) b = none := fun {b} hb n => (upd_ne hb).trans n
  have away2 : ∀ {b : Addr} {u : HO}, H1 b = some u → b ≠ a := fun {b u} z => ne_of_none z hn
  have U : Un (frs X.stack) [] H1 (L2.del H2 a) hp G := by
    refine ⟨fun b o z n hf hx => (gk (away z)).trans (un.keep b o (k b o z) (up (away z) n) hf hx), fun b o z n hf hx => ?_, fun b o z n hx => (del_ne (away z)).trans (un.free b o (k b o z) (up (away z) n) hx), fun b o z hx => ?_, fun b xs z => ?_, fun b o v z => ?_, fun b ps z => ?_⟩
    · rw [gk (away z)]; exact un.slot b o (k b o z) (up (away z) n) hf hx
    · rw [gk (away z)]; exact un.there b o (k b o z) hx
    · rw [del_ne (away2 z)]; exact un.tups b xs ((upd_ne (away2 z)).trans z)
    · rw [del_ne (away2 z)]; exact un.frzs b o v ((upd_ne (away2 z)).trans z)
    · rw [del_ne (away2 z)]; exact un.tbls b ps ((upd_ne (away2 z)).trans z)
  have noa : ∀ {c b : Addr}, H2 c = some (.own b) → c ≠ a := fun {c b} hc => at_ne ea hc exo_own
  have hok3 : HOk X.prog X.w (L2.del H2 a) G := fun b o z => by
    have hba : b ≠ a := fun e => by rw [e, del_same] at z; cases z
    rw [del_ne hba] at z
    refine (hok b o z).stay (fun c v hc y => ?_) (fun c hc => (del_ne (noa hc)).trans hc) (fun c xs hc => (del_ne (at_ne ea hc exo_tup)).trans hc)
    rw [gk (hc.elim (fun hc => hc ▸ hba) fun hc => noa hc)]
    exact y
  have J : Inv X pins σ (L2.del H2 a) ⟨G, g2, d2, t2, os2⟩ := I1.call' (ch := []) ho U hok3 hb (fun b z => absurd z (by simp))
  refine ⟨t0, G, J, fun b o z => ?_, ge, hoe⟩
  by_cases hba : b = a
  · rw [hba, ge] at z; cases z
  · exact (gk hba).symm.trans z
def tMkN (C : Addr) (sp : Sp) (ta : TA) : L2.St → Hp → XK → Prop := fun σ H Q => ta σ H fun vs H1 => vs.length ≤ 1000 ∧ ∀ a, H1 a = none → sp (.ref a :: vs) (upd H1 a (exo a C none))
  (fun v H2 => v = .non ∧ H2 a = some (exo a C none) ∧ Q (.ref C) none (L2.del H2 a)) (fun _ _ _ => False)
theorem pmk_bare {CX : CXT} {x : Str} {C fI : Addr} {k : Nat} {fd : FuncData} {ps : List Str} {sp : Sp} (Z : ExC X.K C fI) (F1 : FnOk X.prog X.w X.K X.mg X.base CX k fI fd ps sp) (hr : Room (k + 1) X.A) (hb : Binds X.K fd ps [])
    (hx : Passes CX X (fun _ _ _ => False)) (hg : Gl X x) (hm : X.mg x = some (.ref C)) (ha : PA X (e :: es) ta)
    (hdb : (x == ("__debug__" : Str)) = false := by decide) (he : starEach (e :: es) X.env = (false, eval e X.env) :: starEach es X.env := by rfl) (hpl : (backTo pos (starEach es X.env)).any (·.1) = false := by rfl) :
    PMk X (.Call (.Name x p) (e :: es) [] pos) (tMkN C sp ta) := by
  intro pins s σ H Q I hw
  obtain ⟨nm, q, N, bs, bm, sn, sub, ab, col, dd, k0, k1, k2, k3, k5, hC, hbm⟩ := Z.T.cls
  refine wpAny_Call_Name_kw (ld_glob I hg hm ?_ hdb)
  refine PySem.W.callWith_K (h₀ := X.base) I.ok.mod.kin Z.T.kC (thn (ha.run pos pins s σ H _ I hw) fun us sA ⟨vs, HA, IA, rA, hz, qA⟩ => ⟨IA.kIn, ?_⟩) he hpl
  show wpAny _ _ (call (.ref C) us) _ _ _
  obtain ⟨hp, g, dr, tk, os⟩ := sA
  have big : hp.objs.size ≤ hp.objs.size + 1 := Nat.le_succ _
  have fresh : HA (hp.objs.size + 1) = none := IA.hok.fresh big
  have hq := qA (hp.objs.size + 1) fresh
  have kk : ∀ b o, hp.get? b = some o → ((hp.push (PySem.W.kdv_tup us)).push (PySem.HandSPX.excO C hp.objs.size)).get? b = some o := fun b o z => Heap.get?_push_of_some _ (Heap.get?_push_of_some _ z)
  have here : ((hp.push (PySem.W.kdv_tup us)).push (PySem.HandSPX.excO C hp.objs.size)).get? (hp.objs.size + 1) = some (PySem.HandSPX.excO C hp.objs.size) := by heap_get
  have IB : Inv X pins σ (upd HA (hp.objs.size + 1) (exo (hp.objs.size + 1) C none)) ⟨(hp.push (PySem.W.kdv_tup us)).push (PySem.HandSPX.excO C hp.objs.size), g, dr, tk, os⟩ :=
    IA.laid (t' := tk) (a := hp.objs.size + 1) (o := exo (hp.objs.size + 1) C none) (h' := (hp.push (PySem.W.kdv_tup us)).push (PySem.HandSPX.excO C hp.objs.size)) kk big (exo_ok here)
  have rB : Vals (V.ref (hp.objs.size + 1) :: vs) (Value.ref (hp.objs.size + 1) :: us) := .cons rfl rA
  have hl : ((Value.ref (hp.objs.size + 1) :: us) ++ []).length = ps.length := by
    rw [List.append_nil, ← rB.length]
    exact F1.len _ _ _ _ hq
  have bi := hb _ (Value.ref (hp.objs.size + 1) :: us) IB.kIn hl
  rw [List.append_nil] at bi
  have hus : us.length ≤ sizeLine := by
    rw [← Paired.length rA, sizeLine_eq]
    omega
  refine wpAny_call (PySem.HandSPX.call_own F.excBase_ValueError (fun Y => PySem.HandSPX.refsVE_contains Y bm hbm) (IA.kIn _ _ hC) (PySem.W.looks_findIn IA.kIn Z.iC) (fun self => PySem.W.bind_fn IA.kIn self Z.tI) hus
    (codeAny_mono (F1.run _ X.stack _ _ ⟨Value.ref (hp.objs.size + 1) :: us, []⟩ (Value.ref (hp.objs.size + 1) :: us) _ _ (fun _ _ _ => False) (hr.make C us []) (IB.env0.make C us []) bi rB hq) fun r sC hq' => ?_))
  cases r with
  | error er => exact hx pins σ _ _ er sC IB hq'
  | ok fl =>
    cases fl with
    | ret u =>
      obtain ⟨v, H2, os2, bare2, un2, hok2, rv, ev, ea, q2⟩ := hq'
      subst ev
      obtain ⟨h2, g2, d2, t2, os'⟩ := sC
      obtain ⟨t0, G, J, kG, ge, hoe⟩ := let_go (d2 := d2) (t2 := t2) IA big kk un2 hok2 os2 bare2 ea
      exact ⟨rv, _, _, _, ⟨G, g2, d2, t2, os'⟩, _, .ref C, none, rfl, J, kG, ge, hoe, ⟨rfl, rfl⟩, rfl, rfl, del_same, rfl, bare2, raises_own Z.T.exC Z.T.tyC, q2⟩
    | next => exact False.elim hq'
    | brk => exact False.elim hq'
    | cont => exact False.elim hq'
end
section
variable {X : Cx} {M : Mk0} {W : WX} {e : Expr} {fa : FE} {p pos rpos : Pos} {K : Fr0} {P : Option Addr} {F : Hp} {L : List Addr} {ρ : Rho} {σ : L2.St} {H : Hp}
/-- an object that comes and goes -/
theorem R.around {a : Addr} {o : HO} {H2 : Hp} (r : R K M P F L ρ σ H) (hn : H a = none) (e : ∀ b, b ≠ a → H2 b = H b) : R K M P F L ρ σ (L2.del H2 a) ∧ Ex (hide L H) (hide L (L2.del H2 a)) := by
  have z : L2.del H2 a = H := by
    funext b
    by_cases hb : b = a
    · rw [hb, del_same, hn]
    · rw [del_ne hb, e b hb]
  rw [z]
  exact ⟨r, Ex.refl _⟩
def fxRaise (c : Value) (nm : Option Str) (fa : FE) : FX := fun ρ k => fa ρ fun d ρ1 => k c (match nm with | some n => [(.str n, d)] | none => []) ρ1
theorem pr_raise {x nm : Str} {C fI : Addr} {fd : FuncData} {ps : List Str} {k : Nat} (hc : X.calm = true) (tk : Takes X W) (Z : ExC X.K C fI) (F1 : FnOk X.prog X.w X.K X.mg X.base (L2.CX X.prog X.w) k fI fd ps (spExA C nm)) (hr : Room (k + 1) X.A)
    (hb : Binds X.K fd ps []) (hg : Gl X x) (hm : X.mg x = some (.ref C)) (ha : PD X M e fa)
    (hdb : (x == ("__debug__" : Str)) = false := by decide) (he : starEach [e] X.env = (false, eval e X.env) :: starEach [] X.env := by rfl) :
    PR X M W (.Raise (some (.Call (.Name x p) [e] [] pos)) none rpos) (fxRaise (.ref C) (some nm) fa) := by
  refine ⟨PS.wk (ps_raise hc tk (pmk_oex (dvs := []) Z.T Z.iC Z.tI F1 hr hb .nil passF hg hm (pa_cons ha.pe pa_nil he) hdb he rfl)) fun D σ H ⟨P, F, L, ρ, r, q⟩ => ?_, fun ρ k k' le q => ha.mono _ _ _ (fun d ρ1 q => le _ _ _ q) q⟩
  refine ⟨P, F, L, ρ, r, ha.mono _ _ _ (fun d ρ1 q v L1 H1 e1 r1 d1 => ?_) q⟩
  refine ⟨by simp, fun a hn => ?_⟩
  refine ⟨a, v, rfl, upd_same, fun dx hdx ne => ?_⟩
  have hdx1 : H1 dx = none := by rw [upd_ne ne] at hdx; exact hdx
  refine ⟨rfl, dx, [(nm, v)], upd_same, by rw [upd_ne ne, upd_same], hdx1, ?_⟩
  have hz : upd (L2.del (upd (upd (upd H1 a (exo a C none)) dx (exd dx [(nm, v)])) a (exo a C (some dx))) a) dx (.xd [(nm, v)]) = upd H1 dx (.xd [(nm, v)]) := by
    funext b
    by_cases hb : b = dx
    · rw [hb, upd_same, upd_same]
    · rw [upd_ne hb, upd_ne hb]
      by_cases hba : b = a
      · rw [hba, del_same, hn]
      · rw [del_ne hba, upd_ne hba, upd_ne hb, upd_ne hba]
  rw [hz]
  have ex : Ex (hide L1 H1) (hide L1 (upd H1 dx (.xd [(nm, v)]))) := hide_ex (Ex.new hdx1)
  refine q σ L1 _ (some dx) (e1.trans ex) (r1.ex (Ex.new hdx1)) (.inr ⟨dx, _, rfl, ?_, .cons (dp_ex ex _ _ d1) .nil⟩)
  exact hide_some.mpr ⟨r1.notL hdx1, upd_same⟩
theorem pr_raise0 {x : Str} {C fI : Addr} {fd : FuncData} {ps : List Str} {k : Nat} (hc : X.calm = true) (tk : Takes X W) (Z : ExC X.K C fI) (F1 : FnOk X.prog X.w X.K X.mg X.base (L2.CX X.prog X.w) k fI fd ps (spExN C)) (hr : Room (k + 1) X.A)
    (hb : Binds X.K fd ps []) (hg : Gl X x) (hm : X.mg x = some (.ref C)) (ha : PD X M e fa)
    (hdb : (x == ("__debug__" : Str)) = false := by decide) (he : starEach [e] X.env = (false, eval e X.env) :: starEach [] X.env := by rfl) :
    PR X M W (.Raise (some (.Call (.Name x p) [e] [] pos)) none rpos) (fxRaise (.ref C) none fa) := by
  refine ⟨PS.wk (ps_raise hc tk (pmk_bare Z F1 hr hb passF hg hm (pa_cons ha.pe pa_nil he) hdb he rfl)) fun D σ H ⟨P, F, L, ρ, r, q⟩ => ?_, fun ρ k k' le q => ha.mono _ _ _ (fun d ρ1 q => le _ _ _ q) q⟩
  refine ⟨P, F, L, ρ, r, ha.mono _ _ _ (fun d ρ1 q v L1 H1 e1 r1 d1 => ?_) q⟩
  refine ⟨by simp, fun a hn => ?_⟩
  refine ⟨a, v, rfl, upd_same, rfl, upd_same, ?_⟩
  obtain ⟨r2, e2⟩ := r1.around (o := exo a C none) hn (H2 := upd H1 a (exo a C none)) fun b hb => upd_ne hb
  exact q σ L1 _ none (e1.trans e2) r2 (.inl ⟨rfl, rfl⟩)
end
end PD
namespace PD
open PySem L2 PyProof.Rows PySem.Spec
open Evl (Ex)
abbrev Cl := Value × Option Nat × (Addr → Value → Option Addr → TS)
section
variable {X : Cx} {body : List Stmt} {h₀ : ExceptHandler} {hds : List ExceptHandler} {l : List Cl} {pos : Pos} {tb : WX → TS}
/-- what a suite in hand needs of the state: the exception on the ground -/
structure Ground (X : Cx) (pins : List (Addr × Obj)) (σ : L2.St) (H : Hp) (sI : Shared) (B : Heap) (a : Addr) (cls : Value) (d : Option Addr) (h0 : Heap) (s : Shared) : Prop where
  J : Inv X pins σ H sI
  nb : ∀ b o, sI.heap.get? b = some o → b ∉ frs X.stack → B.get? b = some o
  up : sI.heap.UpToSlots h0
  fl : HandSPX.FlyingZ B (X.env :: X.outer) a (Zc cls d) h0
  os : s.os = sI.os
  ag : AllBare s.gens
  na : H a = none
theorem Ground.inv {pins : List (Addr × Obj)} {σ : L2.St} {H : Hp} {sI s : Shared} {B h0 : Heap} {a : Addr} {cls : Value} {d : Option Addr} (G : Ground X pins σ H sI B a cls d h0 s) : Inv X pins σ H { s with heap := h0 } :=
  G.J.landed G.nb G.fl.1 G.up G.os G.ag
theorem Ground.suite {pins : List (Addr × Obj)} {σ : L2.St} {H : Hp} {sI s : Shared} {B h0 : Heap} {a : Addr} {cls : Value} {d : Option Addr} (hf : X.env.frame = some X.env.locals) (G : Ground X pins σ H sI B a cls d h0 s) :
    ∃ oe, h0.get? a = some oe ∧ Zc cls d oe ∧ (∃ vs, oe.data = .fields vs) ∧ Inv (X.suite a ((a, oe) :: (X.pn ++ pins))) [] σ H { s with heap := h0 } := by
  obtain ⟨oe, vs, he, hz, hd⟩ := G.fl.there
  have off : a ∉ frs (X.env :: X.outer) := fun hm => by
    obtain ⟨_, ob, eb, hnf⟩ := G.fl.2.2.1.mem hm
    rw [he] at eb
    cases eb
    exact hnf vs hd
  have nL : a ≠ X.env.locals := fun z => off (List.mem_filterMap.mpr ⟨X.env, List.mem_cons_self, by rw [hf, z]⟩)
  have nF : a ∉ X.fs := fun hm => by
    obtain ⟨env, hin, q⟩ := List.mem_filterMap.mp hm
    exact off (List.mem_filterMap.mpr ⟨env, List.mem_cons_of_mem _ hin, q⟩)
  exact ⟨oe, he, hz, ⟨vs, hd⟩, G.inv.suite he hd G.na nL nF⟩
end
end PD
namespace PD
open PySem L2 PyProof.Rows PySem.Spec
open Evl (Ex)
abbrev ClD := Value × Option Nat × (Addr → Value → Option Addr → FS)
section
variable {X : Cx} {M : Mk0} {body : List Stmt} {h₀ : ExceptHandler} {hds : List ExceptHandler} {l : List ClD} {pos : Pos} {fb : FS} {fx : FX}
/-- e.f, e the caught exception -/
def lookF (n : Str) : List (D × D) → Option D
  | [] => none
  | (.str m, d) :: r => if m = n then some d else lookF n r
  | _ :: r => lookF n r
theorem lookF_ok {K : Fr0} {H : Hp} {n : Str} {x : D} : ∀ {fs : List (Str × V)} {fl : List (D × D)}, RpF K H fs fl → lookF n fl = some x → ∃ v, fs.lookup n = some v ∧ Rp K H v x
  | _, [], h, e => by cases e
  | _, (k, d) :: r, h, e => by
    cases h with
    | @cons m v fs _ _ h1 h2 =>
      have e : (if m = n then some d else lookF n r) = some x := e
      by_cases hm : m = n
      · rw [if_pos hm] at e
        cases e
        exact ⟨v, by simp [List.lookup, hm], h1⟩
      · rw [if_neg hm] at e
        obtain ⟨v', g1, g2⟩ := lookF_ok h2 e
        refine ⟨v', ?_, g2⟩
        have : (n == m) = false := by
          rw [beq_eq_false_iff_ne]
          exact fun z => hm z.symm
        simp [List.lookup, this, g1]
end
end PD
namespace PD
open PySem L2 PyProof.Rows PySem.Spec
open Evl (Ex)
section
variable {X : Cx} {pins : List (Addr × Obj)} {σ : L2.St} {H : Hp} {s : Shared}
mutual
/-- data that can be a key is that key, at its value -/
theorem nested_is (I : Inv X pins σ H s) : ∀ (d : D) (v : V) (u : Value) (k : NestedKey), Rp X.k0 H v d → RelV v u → keyN d = some k → NestedIs s.heap k u
  | .none, _, _, _, h, r, e => by
    cases h
    cases r
    cases e
    exact .none
  | .bool b, _, _, _, h, r, e => by
    cases h
    cases r
    cases e
    exact .bool rfl
  | .int i, _, _, _, h, r, e => by
    cases h
    obtain ⟨t, rfl⟩ := r
    cases e
    exact .int _ _
  | .str x, _, _, _, h, r, e => by
    cases h
    obtain ⟨t, rfl⟩ := r
    cases e
    exact .text _ _
  | .tuple ds, _, _, _, h, r, e => by
    rw [keyN] at e
    obtain ⟨ks, e1, rfl⟩ := Option.map_eq_some_iff.mp e
    cases h with
    | tup hs ha =>
      cases r
      obtain ⟨us, rv, ⟨o, ho, hc, n, hd⟩, _⟩ := I.tuple hs
      exact .tup ho hc hd (by simpa using nested_all I ds _ us ks ha rv e1)
  | .list _, _, _, _, _, _, e => by cases e
  | .dict _, _, _, _, _, _, e => by cases e
theorem nested_all (I : Inv X pins σ H s) : ∀ (ds : List D) (vs : List V) (us : List Value) (ks : List NestedKey), RpAll X.k0 H vs ds → Vals vs us → keyNs ds = some ks → NestedAll s.heap ks us
  | [], _, _, _, h, r, e => by
    cases h
    cases r
    cases e
    exact .nil
  | d :: ds, _, _, _, h, r, e => by
    rw [keyNs] at e
    cases h with
    | cons h1 h2 =>
      cases r with
      | cons r1 r2 =>
        split at e
        · rename_i k ks e1 e2
          cases e
          exact .cons (nested_is I d _ _ k h1 r1 e1) (nested_all I ds _ _ ks h2 r2 e2)
        · cases e
end
abbrev NX := List (NestedKey × KA × V)
abbrev NY := List (NestedKey × KA × Value)
/-- the same entries, in values of the heap -/
def SameN : NX → NY → Prop := Paired fun x y => x.1 = y.1 ∧ x.2.1 = y.2.1 ∧ RelV x.2.2 y.2.2
theorem sameN_keys : ∀ {xs : NX} {ys : NY}, SameN xs ys → ys.map (·.1) = xs.map (·.1)
  | _, _, .nil => rfl
  | _, _, .cons h t => by rw [List.map_cons, List.map_cons, h.1, sameN_keys t]
theorem sameN_of : ∀ {xs : NX} {us : List Value}, Vals (xs.map fun x => x.2.2) us → SameN xs ((xs.zip us).map fun p => (p.1.1, p.1.2.1, p.2))
  | [], _, h => by
    cases h
    exact .nil
  | x :: xs, _, h => by
    cases h with
    | cons r t => exact .cons ⟨rfl, rfl, r⟩ (sameN_of t)
theorem sameN_vals : ∀ {xs : NX} {ys : NY}, SameN xs ys → Vals (xs.map fun x => x.2.2) (ys.map fun y => y.2.2) ∧ (xs.zip (ys.map fun y => y.2.2)).map (fun p => (p.1.1, p.1.2.1, p.2)) = ys
  | _, _, .nil => ⟨.nil, rfl⟩
  | _, _, .cons h t => by
    obtain ⟨h1, h2⟩ := sameN_vals t
    obtain ⟨a, b, c⟩ := h
    exact ⟨.cons c h1, by rw [List.map_cons, List.zip_cons_cons, List.map_cons, h2, a, b]⟩
theorem ndo_obj {P : Program} {w : World} {h : Heap} {a : Addr} {xs : NX} {ys : NY} {H' : Hp} (hs : (a == sysModules) = false) (r : SameN xs ys) (m : MixAt w h a ys) (hz : xs.length ≤ sizeLine) : ∃ o, ObjOk P w H' h a (NdO w a o xs) := by
  obtain ⟨o, es, ep, h1, h2, h3, h4, _, h6⟩ := m
  obtain ⟨v1, v2⟩ := sameN_vals r
  refine ⟨o, ⟨h1, hs, h2, hz, by rw [← sameN_keys r]; exact h6, es, ep, ys.map (fun y => y.2.2), h3, v1, ?_⟩, ⟨o, h1⟩, fun ha hb ⟨g1, g⟩ k => ⟨k o g1, g⟩⟩
  have v3 := congrArg (List.map (entM w)) v2
  rw [h4, ← v3, List.map_map]
  rfl
/-- a dict of ints and texts -/
theorem pairs_of {P : Program} {w : World} : ∀ {es : List DictEntry} {vs : List (Key × Value)}, Pairs (mixKind P w) es vs → Paired (fun (e : DictEntry) (kv : Key × Value) => keyIs kv.1 e.key = true ∧ e.val = kv.2) es vs
  | _, _, .nil => .nil
  | _, _, .cons h1 h2 t => .cons ⟨h1, h2⟩ (pairs_of t)
theorem of_pairs {P : Program} {w : World} : ∀ {es : List DictEntry} {vs : List (Key × Value)}, Paired (fun (e : DictEntry) (kv : Key × Value) => keyIs kv.1 e.key = true ∧ e.val = kv.2) es vs → Pairs (mixKind P w) es vs
  | _, _, .nil => .nil
  | _, _, .cons h t => .cons h.1 h.2 (of_pairs t)
theorem kdo_obj {P : Program} {w : World} {h : Heap} {a : Addr} {kvs : List (Key × V)} {vs : List (Key × Value)} {H' : Hp} (hs : (a == sysModules) = false) (r : KV kvs vs) (m : h.DictOf (mixKind P w) a vs) (hz : kvs.length ≤ sizeLine) : ∃ o, ObjOk P w H' h a (KdO w a o kvs) := by
  obtain ⟨o, es, ep, h1, h2, h3, h4, h5, h6⟩ := m
  exact ⟨o, ⟨h1, hs, h2, hz, es, ep, vs, h3, h4, pairs_of h5, h6, r⟩, ⟨o, h1⟩, fun ha hb ⟨g1, g⟩ k => ⟨k o g1, g⟩⟩
theorem kdo_get (I : Inv X pins σ H s) {a : Addr} {o : Obj} {kvs : List (Key × V)} (h : H a = some (KdO X.w a o kvs)) : (a == sysModules) = false ∧ kvs.length ≤ sizeLine ∧ ∃ vs, KV kvs vs ∧ s.heap.DictOf (mixKind X.prog X.w) a vs := by
  obtain ⟨⟨h1, hs, h2, hz, es, ep, vs, h3, h4, h5, h6, r⟩, _, _⟩ := (show ObjOk X.prog X.w H s.heap a (KdO X.w a o kvs) from I.hok a _ h)
  exact ⟨hs, hz, vs, r, o, es, ep, h1, h2, h3, h4, of_pairs h5, h6⟩
theorem ka_rel (b : KA) : RelV (kV0 b) (kvl b) := by cases b <;> rfl
theorem rpn_keys (I : Inv X pins σ H s) : ∀ {xs : NX} {ps : List (D × D)}, RpN X.k0 H xs ps → ∀ x ∈ xs, KeyAt s.heap x.1 x.2.1
  | _, [], h, x, hx => by
    cases h
    cases hx
  | _, _ :: _, h, x, hx => by
    cases h with
    | cons h0 hd h1 h2 h3 =>
      rcases List.mem_cons.mp hx with e | hx
      · subst e
        exact ⟨nested_is I _ _ _ _ h1 (ka_rel _) h0, hd⟩
      · exact rpn_keys I h3 x hx
/-- such a dict in the heap -/
theorem ndo_get (I : Inv X pins σ H s) {a : Addr} {o : Obj} {xs : NX} {ps : List (D × D)} (h : H a = some (NdO X.w a o xs)) (hp : RpN X.k0 H xs ps) :
    (a == sysModules) = false ∧ xs.length ≤ sizeLine ∧ ∃ ys, SameN xs ys ∧ MixAt X.w s.heap a ys := by
  obtain ⟨⟨h1, hs, h2, h7, h6, es, ep, us, h3, h4, h5⟩, _, _⟩ := (show ObjOk X.prog X.w H s.heap a (NdO X.w a o xs) from I.hok a _ h)
  have r := sameN_of h4
  refine ⟨hs, h7, _, r, o, es, ep, h1, h2, h3, ?_, fun y hy => ?_, by rw [sameN_keys r]; exact h6⟩
  · rw [h5, List.map_map]
    rfl
  · obtain ⟨x, hx, e1, e2⟩ : ∃ x ∈ xs, x.1 = y.1 ∧ x.2.1 = y.2.1 := by
      obtain ⟨p, hp', rfl⟩ := List.mem_map.mp hy
      exact ⟨p.1, (List.of_mem_zip (show (p.1, p.2) ∈ _ from hp')).1, rfl, rfl⟩
    rw [← e1, ← e2]
    exact rpn_keys I hp x hx
def dAt (ps : List (D × D)) (k : NestedKey) : Option D := (ps.find? fun p => decide (keyN p.1 = some k)).map (·.2)
def dPut (ps : List (D × D)) (kd : D) (k : NestedKey) (v : D) : List (D × D) := if (dAt ps k).isSome then ps.map fun p => if keyN p.1 = some k then (p.1, v) else p else ps ++ [(kd, v)]
theorem at_none : ∀ {xs : NX} {ys : NY} {ps : List (D × D)} {k : NestedKey}, SameN xs ys → RpN X.k0 H xs ps → (dAt ps k = none ↔ atM ys k = none)
  | _, _, _, _, .nil, h => by
    cases h
    exact ⟨fun _ => rfl, fun _ => rfl⟩
  | _ :: _, y :: _, _, k, .cons r t, h => by
    cases h with
    | @cons k0 b v xs d e ps h0 hd h1 h2 h3 =>
      have ih := at_none (k := k) t h3
      have ey : k0 = y.1 := r.1
      unfold dAt atM at *
      rw [List.find?_cons, List.find?_cons]
      by_cases hk : k0 = k
      · rw [show decide (keyN d = some k) = true from decide_eq_true (by rw [h0, hk]), show decide (y.1 = k) = true from decide_eq_true (by rw [← ey, hk])]
        exact ⟨fun z => (by cases z), fun z => (by cases z)⟩
      · rw [show decide (keyN d = some k) = false from decide_eq_false (by rw [h0]; exact fun z => hk (Option.some.inj z)), show decide (y.1 = k) = false from decide_eq_false (by rw [← ey]; exact hk)]
        exact ih
theorem at_some : ∀ {xs : NX} {ys : NY} {ps : List (D × D)} {k : NestedKey} {e : D}, SameN xs ys → RpN X.k0 H xs ps → dAt ps k = some e → ∃ b v u, atM ys k = some (b, u) ∧ RelV v u ∧ Rp X.k0 H v e
  | _, _, _, _, _, .nil, h, q => by
    cases h
    cases q
  | _ :: _, y :: _, _, k, e', .cons r t, h, q => by
    cases h with
    | @cons k0 b v xs d e ps h0 hd h1 h2 h3 =>
      have ey : k0 = y.1 := r.1
      unfold dAt at q
      rw [List.find?_cons] at q
      by_cases hk : k0 = k
      · rw [show decide (keyN d = some k) = true from decide_eq_true (by rw [h0, hk])] at q
        cases q
        refine ⟨y.2.1, v, y.2.2, ?_, r.2.2, h2⟩
        unfold atM
        rw [List.find?_cons, show decide (y.1 = k) = true from decide_eq_true (by rw [← ey, hk])]
        rfl
      · rw [show decide (keyN d = some k) = false from decide_eq_false (by rw [h0]; exact fun z => hk (Option.some.inj z))] at q
        obtain ⟨b', v', u', g1, g2, g3⟩ := at_some (k := k) t h3 q
        refine ⟨b', v', u', ?_, g2, g3⟩
        unfold atM at g1 ⊢
        rw [List.find?_cons, show decide (y.1 = k) = false from decide_eq_false (by rw [← ey]; exact hk)]
        exact g1
/-- stored: the same in data -/
theorem put_same {k : NestedKey} {v : V} {u : Value} (ru : RelV v u) : ∀ {xs : NX} {ys : NY}, SameN xs ys → SameN (xs.map fun x => if x.1 = k then (x.1, x.2.1, v) else x) (ys.map (putM k u))
  | _, _, .nil => .nil
  | x :: _, y :: _, .cons r t => by
    refine .cons ?_ (put_same ru t)
    unfold putM
    have ex : x.1 = y.1 := r.1
    by_cases hk : x.1 = k
    · rw [if_pos (show y.1 = k by rw [← ex, hk])]
      simp only [if_pos hk]
      exact ⟨ex, r.2.1, ru⟩
    · rw [if_neg (show ¬ y.1 = k by rw [← ex]; exact hk)]
      simp only [if_neg hk]
      exact r
theorem put_rp {K : Fr0} {k : NestedKey} {v : V} {e : D} (hv : Rp K H v e) : ∀ {xs : NX} {ps : List (D × D)}, RpN K H xs ps → RpN K H (xs.map fun x => if x.1 = k then (x.1, x.2.1, v) else x) (ps.map fun p => if keyN p.1 = some k then (p.1, e) else p)
  | _, [], h => by
    cases h
    exact .nil
  | _, _ :: _, h => by
    cases h with
    | @cons k0 b w xs d e0 ps h0 hd h1 h2 h3 =>
      have ih := put_rp (k := k) hv h3
      rw [List.map_cons, List.map_cons]
      by_cases hk : k0 = k
      · rw [if_pos hk, if_pos (show keyN d = some k by rw [h0, hk])]
        exact .cons h0 hd h1 hv ih
      · rw [if_neg hk, if_neg (show ¬ keyN d = some k by rw [h0]; exact fun z => hk (Option.some.inj z))]
        exact .cons h0 hd h1 h2 ih
theorem rpn_app {K : Fr0} : ∀ {xs zs : NX} {ps qs : List (D × D)}, RpN K H xs ps → RpN K H zs qs → RpN K H (xs ++ zs) (ps ++ qs)
  | _, _, [], _, h, g => by
    cases h
    exact g
  | _, _, _ :: _, _, h, g => by
    cases h with
    | cons h0 hd h1 h2 h3 => exact .cons h0 hd h1 h2 (rpn_app h3 g)
theorem rpn_len {K : Fr0} : ∀ {xs : NX} {ps : List (D × D)}, RpN K H xs ps → xs.length = ps.length
  | _, [], h => by
    cases h
    rfl
  | _, _ :: _, h => by
    cases h with
    | cons _ _ _ _ h3 => rw [List.length_cons, List.length_cons, rpn_len h3]
end
end PD
namespace PD
open PySem L2 PyProof.Rows PySem.Spec
open Evl (Ex)
def isTupK : D → Bool
  | .tuple _ => true
  | .none => true
  | _ => false
/-- ints and texts -/
def isFlatK : D → Bool
  | .int _ => true
  | .str _ => true
  | _ => false
/-- a key of this depth, of the kind of the dict's keys -/
def keyOk (kd : D) (ps : List (D × D)) : Option NestedKey := match keyN kd with
  | some k => if (isTupK kd && ps.all fun p => isTupK p.1) || (isFlatK kd && ps.all fun p => isFlatK p.1) then (if k.depth ≤ 8 then some k else none) else none
  | none => none
theorem keyOk_of {kd : D} {ps : List (D × D)} {k : NestedKey} (h : keyOk kd ps = some k) : keyN kd = some k ∧ k.depth ≤ 8 ∧ ((isTupK kd = true ∧ (ps.all fun p => isTupK p.1) = true) ∨ (isFlatK kd = true ∧ (ps.all fun p => isFlatK p.1) = true)) := by
  unfold keyOk at h
  split at h
  · rename_i k' e
    split at h
    · rename_i hk
      split at h
      · rename_i hd
        cases h
        refine ⟨e, hd, ?_⟩
        rcases Bool.or_eq_true_iff.mp hk with z | z
        · exact .inl (Bool.and_eq_true_iff.mp z)
        · exact .inr (Bool.and_eq_true_iff.mp z)
      · cases h
    · cases h
  · cases h
section
variable {X : Cx} {pins : List (Addr × Obj)} {σ : L2.St} {H : Hp} {s : Shared} {K : Fr0}
/-- the key of a dict of ints and texts -/
theorem flatK_of {v : V} {kd : D} {k : NestedKey} (h : Rp K H v kd) (f : isFlatK kd = true) (e : keyN kd = some k) : ∃ kk : Key, v = kV kk ∧ ∀ (kk' : Key) (d : D), Rp K H (kV kk') d → (keyN d = some k ↔ kk' = kk) := by
  cases h with
  | int i =>
    cases e
    refine ⟨.inl i, rfl, fun kk' d hd => ?_⟩
    cases kk' with
    | inl j =>
      cases hd
      exact ⟨fun z => (by cases z; rfl), fun z => (by cases z; rfl)⟩
    | inr y =>
      cases hd
      exact ⟨fun z => (by cases z), fun z => (by cases z)⟩
  | str x =>
    cases e
    refine ⟨.inr x, rfl, fun kk' d hd => ?_⟩
    cases kk' with
    | inl j =>
      cases hd
      exact ⟨fun z => (by cases z), fun z => (by cases z)⟩
    | inr y =>
      cases hd
      exact ⟨fun z => (by cases z; rfl), fun z => (by cases z; rfl)⟩
  | non => cases f
  | bl _ => cases f
  | lst _ _ => cases f
  | tup _ _ => cases f
  | dct _ _ => cases f
  | dctN _ _ => cases f
  | obj _ _ => cases f
  | clo _ _ _ _ _ => cases f
  | er0 _ _ _ _ => cases f
  | er1 _ _ _ _ _ _ => cases f
theorem valV_at {k : NestedKey} {kk : Key} (hk : ∀ (kk' : Key) (d : D), Rp K H (kV kk') d → (keyN d = some k ↔ kk' = kk)) : ∀ {kvs : List (Key × V)} {ps : List (D × D)}, RpKv K H kvs ps →
    (dAt ps k = none ∧ valV kvs kk = none) ∨ ∃ v e, dAt ps k = some e ∧ valV kvs kk = some v ∧ Rp K H v e
  | _, [], h => by
    cases h
    exact .inl ⟨rfl, rfl⟩
  | _, _ :: _, h => by
    cases h with
    | @cons k0 v kvs d e ps h1 h2 h3 =>
      have ih := valV_at hk h3
      unfold dAt valV at *
      rw [List.find?_cons, List.find?_cons]
      by_cases q : k0 = kk
      · rw [show decide (keyN d = some k) = true from decide_eq_true ((hk _ _ h1).mpr q), show decide (k0 = kk) = true from decide_eq_true q]
        exact .inr ⟨v, e, rfl, rfl, h2⟩
      · rw [show decide (keyN d = some k) = false from decide_eq_false fun z => q ((hk _ _ h1).mp z), show decide (k0 = kk) = false from decide_eq_false q]
        exact ih
theorem kd_nil (I : Inv X pins σ H s) {a : Addr} {o : Obj} (h : H a = some (KdO X.w a o [])) : (a == sysModules) = false ∧ MixAt X.w s.heap a [] := by
  obtain ⟨hs, _, vs, rel, o, es, ep, h1, h2, h3, h4, h5, _⟩ := kdo_get I h
  cases rel
  refine ⟨hs, o, es, ep, h1, h2, h3, ?_, fun x hx => absurd hx List.not_mem_nil, List.nodup_nil⟩
  cases q : es.toList with
  | nil => rfl
  | cons e r => rw [q] at h5; cases h5
theorem nd_nil (I : Inv X pins σ H s) {a : Addr} {o : Obj} (h : H a = some (NdO X.w a o [])) : (a == sysModules) = false ∧ s.heap.MapOf (mixKind X.prog X.w) a (fun _ => none) := by
  obtain ⟨⟨h1, hs, h2, _, _, es, ep, us, h3, h4, h5⟩, _, _⟩ := (show ObjOk X.prog X.w H s.heap a (NdO X.w a o []) from I.hok a _ h)
  have e0 : es = #[] := Array.toList_inj.mp (by rw [h5]; rfl)
  subst e0
  refine ⟨hs, o, #[], ep, h1, h2, h3, fun e he => absurd he (by simp), fun k => ?_⟩
  unfold findBy
  simp
/-- the look-ups of a dict of ints and texts -/
theorem kd_in (I : Inv X pins σ H s) {a : Addr} {o : Obj} {kvs : List (Key × V)} {kk : Key} {u : Value} {neg : Bool} (h : H a = some (KdO X.w a o kvs)) (ry : RelV (kV kk) u) {Q : Value → Shared → Prop} {E : Value → Shared → Prop}
    (q : ∀ s', Inv X pins σ H s' → Q (.bool (if neg = true then !(valV kvs kk).isSome else (valV kvs kk).isSome)) s') : wpAny (model X.prog X.w) X.A (compareOp (if neg = true then .NotIn else .In) u (.ref a)) Q E s := by
  obtain ⟨hs, _, vs, rel, dd⟩ := kdo_get I h
  cases neg with
  | false =>
    refine wpAny_in_of (kV_is ry) hs dd.mapOf ?_
    rw [← (rel.val kk).isSome_eq]
    exact q _ (I.tok _)
  | true =>
    refine wpAny_notIn_of (kV_is ry) hs dd.mapOf ?_
    rw [← (rel.val kk).isSome_eq]
    exact q _ (I.tok _)
theorem kd_at (I : Inv X pins σ H s) {a : Addr} {o : Obj} {kvs : List (Key × V)} {kk : Key} {u : Value} {v : V} (h : H a = some (KdO X.w a o kvs)) (ry : RelV (kV kk) u) (hv : valV kvs kk = some v) {Q : Value → Shared → Prop} {E : Value → Shared → Prop}
    (q : ∀ r s', Inv X pins σ H s' → RelV v r → Q r s') : wpAny (model X.prog X.w) X.A (getItem (.ref a) u) Q E s := by
  obtain ⟨hs, _, vs, rel, dd⟩ := kdo_get I h
  obtain ⟨r, hr, rr⟩ := RelO.some_of (v := v) (o := valueAt vs kk) (by rw [← hv]; exact rel.val kk)
  exact wpAny_getItem_of (kV_is ry) dd.mapOf hr (q r _ (I.tok _) rr)
/-- a key that is a tuple, or None -/
theorem ka_of (I : Inv X pins σ H s) {v : V} {u : Value} {kd : D} {k : NestedKey} (hy : Rp X.k0 H v kd) (ry : RelV v u) (ht : isTupK kd = true) (e1 : keyN kd = some k) (e2 : k.depth ≤ 8) : ∃ b : KA, v = kV0 b ∧ u = kvl b ∧ KeyAt s.heap k b := by
  cases kd with
  | tuple ds =>
    have hy' := hy
    cases hy' with
    | @tup b xs _ g1 g2 =>
      cases ry
      exact ⟨some b, rfl, rfl, nested_is I _ _ _ k hy rfl e1, e2⟩
  | none =>
    cases hy
    cases ry
    cases e1
    exact ⟨none, rfl, rfl, .none, e2⟩
  | _ => cases ht
/-- y in d -/
theorem in_dict (hu : X.A.units + 64 < cLine) (neg : Bool) (I : Inv X pins σ H s) {a : Addr} {y : V} {u : Value} {kd : D} {ps : List (D × D)} {k : NestedKey} (hd : Rp X.k0 H (.ref a) (.dict ps)) (hy : Rp X.k0 H y kd) (ry : RelV y u) (hk : keyOk kd ps = some k)
    {Q : Value → Shared → Prop} {E : Value → Shared → Prop} (q : ∀ s', Inv X pins σ H s' → Q (.bool (if neg = true then !(dAt ps k).isSome else (dAt ps k).isSome)) s') :
    wpAny (model X.prog X.w) X.A (compareOp (if neg = true then .NotIn else .In) u (.ref a)) Q E s := by
  obtain ⟨e1, e2, hkind⟩ := keyOk_of hk
  have room : X.A.in1.units + 8 < cLine := by
    show X.A.units + 1 + 8 < cLine
    omega
  -- the look-up with a tuple
  have byTup : ∀ {ys : NY} {r : Bool}, (a == sysModules) = false → MixAt X.w s.heap a ys → isTupK kd = true → (atM ys k).isSome = (dAt ps k).isSome → wpAny (model X.prog X.w) X.A (compareOp (if neg = true then .NotIn else .In) u (.ref a)) Q E s := by
    intro ys r hs hm ht hr
    obtain ⟨b, _, rfl, hkey⟩ := ka_of I hy ry ht e1 e2
    refine inM neg room hkey hs hm ?_
    rw [hr]
    have := q _ (I.tok (s.toks + k.draws))
    cases neg <;> simpa using this
  cases hd with
  | @dct _ _ kvs _ h1 h2 =>
    rcases hkind with ⟨ht, hall⟩ | ⟨hf, hall⟩
    · -- no int, no text is a tuple: the dict is empty
      have e0 : ps = [] ∧ kvs = [] := by
        cases h2 with
        | nil => exact ⟨rfl, rfl⟩
        | @cons k0 v kvs d e ps g1 g2 g3 =>
          rw [List.all_cons, Bool.and_eq_true] at hall
          cases k0 <;> (cases g1; cases hall.1)
      obtain ⟨rfl, rfl⟩ := e0
      obtain ⟨hs, hm⟩ := kd_nil I h1
      exact byTup (r := false) hs hm ht rfl
    · obtain ⟨kk, ey, hkk⟩ := flatK_of hy hf e1
      subst ey
      have same : (valV kvs kk).isSome = (dAt ps k).isSome := by
        rcases valV_at hkk h2 with ⟨z1, z2⟩ | ⟨v, e, z1, z2, _⟩
        · rw [z1, z2]
          rfl
        · rw [z1, z2]
          rfl
      exact kd_in I h1 ry fun s' I' => by rw [same]; exact q s' I'
  | @dctN _ _ xs _ h1 h2 =>
    rcases hkind with ⟨ht, hall⟩ | ⟨hf, hall⟩
    · obtain ⟨hs, hz, ys, r, hm⟩ := ndo_get I h1 h2
      refine byTup (r := false) hs hm ht ?_
      have n := at_none (k := k) r h2
      cases z : dAt ps k with
      | none =>
        rw [n.mp z]
        rfl
      | some e =>
        cases z2 : atM ys k with
        | none =>
          have := n.mpr z2
          rw [z] at this
          cases this
        | some _ => rfl
    · have e0 : ps = [] ∧ xs = [] := by
        cases h2 with
        | nil => exact ⟨rfl, rfl⟩
        | @cons k0 b v xs d e ps g0 gd g1 g2 g3 =>
          rw [List.all_cons, Bool.and_eq_true] at hall
          cases b <;> cases g1 <;> cases hall.1
      obtain ⟨rfl, rfl⟩ := e0
      obtain ⟨hs, hm⟩ := nd_nil I h1
      obtain ⟨kk, ey, _⟩ := flatK_of hy hf e1
      subst ey
      cases neg with
      | false =>
        refine wpAny_in_of (kV_is ry) hs hm ?_
        exact q _ (I.tok _)
      | true =>
        refine wpAny_notIn_of (kV_is ry) hs hm ?_
        exact q _ (I.tok _)
  | obj h1 h2 =>
    -- no object
    rcases hkind with ⟨_, hall⟩ | ⟨_, hall⟩
    · rw [List.all_cons, Bool.and_eq_true] at hall
      cases hall.1
    · rw [List.all_cons, Bool.and_eq_true] at hall
      cases hall.1
  | clo h1 h2 =>
    rcases hkind with ⟨_, hall⟩ | ⟨_, hall⟩
    · rw [List.all_cons, Bool.and_eq_true] at hall
      cases hall.1
    · rw [List.all_cons, Bool.and_eq_true] at hall
      cases hall.1
  | er0 _ _ _ _ =>
    rcases hkind with ⟨_, hall⟩ | ⟨_, hall⟩
    · rw [List.all_cons, Bool.and_eq_true] at hall
      cases hall.1
    · rw [List.all_cons, Bool.and_eq_true] at hall
      cases hall.1
  | er1 _ _ _ _ _ _ =>
    rcases hkind with ⟨_, hall⟩ | ⟨_, hall⟩
    · rw [List.all_cons, Bool.and_eq_true] at hall
      cases hall.1
    · rw [List.all_cons, Bool.and_eq_true] at hall
      cases hall.1
end
end PD
namespace PD
open PySem L2 PyProof.Rows PySem.Spec
open Evl (Ex)
section
variable {X : Cx} {pins : List (Addr × Obj)} {σ : L2.St} {H : Hp} {s : Shared} {K : Fr0}
theorem dct_typeIs (I : Inv X pins σ H s) {a : Addr} {ps : List (D × D)} (hd : Rp X.k0 H (.ref a) (.dict ps)) (hk : (ps.all fun p => isTupK p.1) = true ∨ (ps.all fun p => isFlatK p.1) = true) : s.TypeIs (.ref a) "dict" := by
  cases hd with
  | dct h1 h2 =>
    obtain ⟨_, _, vs, _, o, _, _, e, c, _⟩ := kdo_get I h1
    exact ⟨o, e, c.1⟩
  | dctN h1 h2 =>
    obtain ⟨⟨e, _, c, _⟩, _, _⟩ := (show ObjOk X.prog X.w H s.heap a (NdO X.w a _ _) from I.hok a _ h1)
    exact ⟨_, e, c.1⟩
  | obj h1 h2 =>
    rcases hk with z | z
    · rw [List.all_cons, Bool.and_eq_true] at z
      cases z.1
    · rw [List.all_cons, Bool.and_eq_true] at z
      cases z.1
  | clo _ _ _ _ _ =>
    rcases hk with z | z
    · rw [List.all_cons, Bool.and_eq_true] at z
      cases z.1
    · rw [List.all_cons, Bool.and_eq_true] at z
      cases z.1
  | er0 _ _ _ _ =>
    rcases hk with z | z
    · rw [List.all_cons, Bool.and_eq_true] at z
      cases z.1
    · rw [List.all_cons, Bool.and_eq_true] at z
      cases z.1
  | er1 _ _ _ _ _ _ =>
    rcases hk with z | z
    · rw [List.all_cons, Bool.and_eq_true] at z
      cases z.1
    · rw [List.all_cons, Bool.and_eq_true] at z
      cases z.1
/-- d[y], y in it -/
theorem get_dict (hu : X.A.units + 64 < cLine) (I : Inv X pins σ H s) (L : List Addr) {a : Addr} {y : V} {u : Value} {kd e : D} {ps : List (D × D)} {k : NestedKey} (hd : Rp X.k0 (hide L H) (.ref a) (.dict ps)) (hy : Rp X.k0 H y kd) (ry : RelV y u) (hk : keyOk kd ps = some k)
    (he : dAt ps k = some e) {Q : Value → Shared → Prop} {E : Value → Shared → Prop} (q : ∀ v r s', Inv X pins σ H s' → RelV v r → Rp X.k0 (hide L H) v e → Q r s') : wpAny (model X.prog X.w) X.A (getItem (.ref a) u) Q E s := by
  obtain ⟨e1, e2, hkind⟩ := keyOk_of hk
  have room : X.A.in1.units + 8 < cLine := by
    show X.A.units + 1 + 8 < cLine
    omega
  have full : ps ≠ [] := fun z => by rw [z] at he; cases he
  cases hd with
  | @dct _ _ kvs _ h1 h2 =>
    rcases hkind with ⟨ht, hall⟩ | ⟨hf, hall⟩
    · cases h2 with
      | nil => exact absurd rfl full
      | @cons k0 v kvs d e ps g1 g2 g3 =>
        rw [List.all_cons, Bool.and_eq_true] at hall
        cases k0 <;> (cases g1; cases hall.1)
    · obtain ⟨kk, ey, hkk⟩ := flatK_of hy hf e1
      have hkk' : ∀ (kk' : Key) (d : D), Rp X.k0 (hide L H) (kV kk') d → (keyN d = some k ↔ kk' = kk) := fun kk' d z => hkk kk' d (rp_up (hide_le L H) z)
      rcases valV_at hkk' h2 with ⟨z1, _⟩ | ⟨v, e', z1, z2, z3⟩
      · rw [he] at z1
        cases z1
      · rw [he] at z1
        cases z1
        subst ey
        exact kd_at I (hide_le L H _ _ h1) ry z2 fun r s' I' rr => q v r s' I' rr z3
  | @dctN _ _ xs _ h1 h2 =>
    rcases hkind with ⟨ht, hall⟩ | ⟨hf, hall⟩
    · obtain ⟨hs, hz, ys, r, hm⟩ := ndo_get I (hide_le L H _ _ h1) (rpn_up (hide_le L H) h2)
      obtain ⟨b', v, w', g1, g2, g3⟩ := at_some (k := k) r h2 he
      obtain ⟨b, _, rfl, hkey⟩ := ka_of I hy ry ht e1 e2
      exact itemM room hkey hm g1 (q v w' _ (I.tok _) g2 g3)
    · cases h2 with
      | nil => exact absurd rfl full
      | @cons k0 b v xs d e ps g0 gd g1 g2 g3 =>
        rw [List.all_cons, Bool.and_eq_true] at hall
        cases b <;> cases g1 <;> cases hall.1
  | obj h1 h2 =>
    rcases hkind with ⟨_, hall⟩ | ⟨_, hall⟩
    · rw [List.all_cons, Bool.and_eq_true] at hall
      cases hall.1
    · rw [List.all_cons, Bool.and_eq_true] at hall
      cases hall.1
  | clo _ _ _ _ _ =>
    rcases hkind with ⟨_, hall⟩ | ⟨_, hall⟩
    · rw [List.all_cons, Bool.and_eq_true] at hall
      cases hall.1
    · rw [List.all_cons, Bool.and_eq_true] at hall
      cases hall.1
  | er0 _ _ _ _ =>
    rcases hkind with ⟨_, hall⟩ | ⟨_, hall⟩
    · rw [List.all_cons, Bool.and_eq_true] at hall
      cases hall.1
    · rw [List.all_cons, Bool.and_eq_true] at hall
      cases hall.1
  | er1 _ _ _ _ _ _ =>
    rcases hkind with ⟨_, hall⟩ | ⟨_, hall⟩
    · rw [List.all_cons, Bool.and_eq_true] at hall
      cases hall.1
    · rw [List.all_cons, Bool.and_eq_true] at hall
      cases hall.1
def rInD (K : Fr0) (neg : Bool) : R2 := fun y x H Q => ∃ a kd ps k, x = .ref a ∧ Rp K H (.ref a) (.dict ps) ∧ Rp K H y kd ∧ keyOk kd ps = some k ∧ Q (.bl (if neg = true then !(dAt ps k).isSome else (dAt ps k).isSome)) H
theorem op_inD (hu : X.A.units + 64 < cLine) : OpR X (compareOp .In) (rInD X.k0 false) := by
  intro pins s σ H y x u r Q I ry rx ⟨a, kd, ps, k, e, h1, h2, h3, q⟩
  subst e
  cases rx
  exact in_dict hu false I h1 h2 ry h3 fun s' I' => ⟨.bl _, H, I', rfl, q⟩
def rIxD (K : Fr0) : R2 := fun x y H Q => ∃ L a kd ps k e, x = .ref a ∧ Rp K (hide L H) (.ref a) (.dict ps) ∧ Rp K H y kd ∧ keyOk kd ps = some k ∧ dAt ps k = some e ∧ ∀ v, Rp K (hide L H) v e → Q v H
theorem keyOk_all {kd : D} {ps : List (D × D)} {k : NestedKey} (h : keyOk kd ps = some k) : (ps.all fun p => isTupK p.1) = true ∨ (ps.all fun p => isFlatK p.1) = true := (keyOk_of h).2.2.elim (fun z => .inl z.2) fun z => .inr z.2
theorem ix_dict (hu : X.A.units + 64 < cLine) : IxR X (rIxD X.k0) := by
  intro value slice pins s σ H x y v u Q I rx ry ⟨L, a, kd, ps, k, e, ex, h1, h2, h3, h4, q⟩ hs
  subst ex
  cases rx
  exact tail_any (dct_typeIs I (rp_up (hide_le L H) h1) (keyOk_all h3)) slot_dict_getitem.lookup (get_dict hu I L h1 h2 ry h3 h4 fun v r s' I' rr hv => ⟨v, H, I', rr, q v hv⟩) hs
end
def gInD (neg : Bool) : D → D → Option D
  | kd, .dict ps => (keyOk kd ps).map fun k => .bool (if neg = true then !(dAt ps k).isSome else (dAt ps k).isSome)
  | _, _ => none
def gInX (x y : D) : Option D := match y with
  | .dict _ => gInD false x y
  | _ => gIn x y
def gNotInX (x y : D) : Option D := match y with
  | .dict _ => gInD true x y
  | _ => gNotIn x y
def gIxX (x y : D) : Option D := match x with
  | .dict ps => (keyOk y ps).bind (dAt ps)
  | _ => gIx x y
section
variable {K : Fr0} {X : Cx}
theorem dict_ref {H : Hp} {v : V} {ps : List (D × D)} (h : Rp K H v (.dict ps)) : ∃ a, v = .ref a := by
  cases h <;> exact ⟨_, rfl⟩
theorem rd_inD {neg : Bool} : R2D K (rInD K neg) (gInD neg) := by
  intro L H x y dx dy d Q tr hx hy hg k
  unfold gInD at hg
  split at hg
  · rename_i ps
    obtain ⟨kk, h1, h2⟩ := Option.map_eq_some_iff.mp hg
    subst h2
    have hy' := rp_up (hide_le L H) hy
    obtain ⟨a, rfl⟩ := dict_ref hy
    exact ⟨a, _, ps, kk, rfl, hy', rp_up (hide_le L H) hx, h1, k _ _ (Ex.refl _) (.bl _)⟩
  · cases hg
theorem rd_inX : R2D K (opOr (rIn K.f false) (rInD K false)) gInX := by
  intro L H x y dx dy d Q tr hx hy hg k
  unfold gInX at hg
  split at hg
  · exact .inr (rd_inD L H x y dx _ d Q tr hx hy hg k)
  · exact .inl (rd_in L H x y dx _ d Q tr hx hy hg k)
theorem op_inX (hu : X.A.units + 64 < cLine) : OpR X (compareOp .In) (opOr (rIn X.K false) (rInD X.k0 false)) := or_op op_in_seq (op_inD hu)
theorem rd_ixX : R2D K (opOr (rIxA K.f) (rIxD K)) gIxX := by
  intro L H x y dx dy d Q tr hx hy hg k
  unfold gIxX at hg
  split at hg
  · rename_i ps
    obtain ⟨kk, h1, h2⟩ := Option.bind_eq_some_iff.mp hg
    obtain ⟨a, rfl⟩ := dict_ref hx
    exact .inr ⟨L, a, dy, ps, kk, d, rfl, hx, rp_up (hide_le L H) hy, h1, h2, fun v hv => k _ _ (Ex.refl _) hv⟩
  · exact .inl (rd_ix L H x y dx dy d Q tr hx hy hg k)
theorem ix_X (hu : X.A.units + 64 < cLine) : IxR X (opOr (rIxA X.K) (rIxD X.k0)) := IxR.or ix_any (ix_dict hu)
end
end PD
namespace PD
open PySem L2 PyProof.Rows PySem.Spec
open Evl (Ex)
def putN (xs : NX) (k : NestedKey) (b : KA) (v : V) : NX := if (xs.any fun x => decide (x.1 = k)) = true then xs.map (fun x => if x.1 = k then (x.1, x.2.1, v) else x) else xs ++ [(k, b, v)]
section
variable {X : Cx} {pins : List (Addr × Obj)} {σ : L2.St} {H : Hp} {s : Shared} {K : Fr0}
theorem any_at : ∀ {xs : NX} {ys : NY} {k : NestedKey}, SameN xs ys → (xs.any fun x => decide (x.1 = k)) = (atM ys k).isSome
  | _, _, _, .nil => rfl
  | x :: _, y :: _, k, .cons r t => by
    have ih := any_at (k := k) t
    have ex : x.1 = y.1 := r.1
    unfold atM at *
    rw [List.any_cons, List.find?_cons, ih]
    by_cases hk : x.1 = k
    · rw [decide_eq_true hk, show decide (y.1 = k) = true from decide_eq_true (by rw [← ex, hk])]
      rfl
    · rw [decide_eq_false hk, show decide (y.1 = k) = false from decide_eq_false (by rw [← ex]; exact hk)]
      rfl
theorem any_dat : ∀ {xs : NX} {ps : List (D × D)} {k : NestedKey}, RpN K H xs ps → (xs.any fun x => decide (x.1 = k)) = (dAt ps k).isSome
  | _, [], _, h => by
    cases h
    rfl
  | _, _ :: _, k, h => by
    cases h with
    | @cons k0 b v xs d e ps h0 hd h1 h2 h3 =>
      have ih := any_dat (k := k) h3
      unfold dAt at *
      rw [List.any_cons, List.find?_cons, ih]
      by_cases hk : k0 = k
      · rw [decide_eq_true hk, show decide (keyN d = some k) = true from decide_eq_true (by rw [h0, hk])]
        rfl
      · rw [decide_eq_false hk, show decide (keyN d = some k) = false from decide_eq_false (by rw [h0]; exact fun z => hk (Option.some.inj z))]
        rfl
theorem putN_len (xs : NX) (k : NestedKey) (b : KA) (v : V) : (putN xs k b v).length ≤ xs.length + 1 := by
  unfold putN
  split
  · rw [List.length_map]; omega
  · rw [List.length_append]; exact Nat.le_refl _
theorem same_app {xs : NX} {ys : NY} (r : SameN xs ys) {x : NestedKey × KA × V} {y : NestedKey × KA × Value} (h : x.1 = y.1 ∧ x.2.1 = y.2.1 ∧ RelV x.2.2 y.2.2) : SameN (xs ++ [x]) (ys ++ [y]) := by
  induction r with
  | nil => exact .cons h .nil
  | cons r t ih => exact .cons r ih
theorem same_put {xs : NX} {ys : NY} (r : SameN xs ys) (k : NestedKey) (b : KA) {v : V} {u : Value} (ru : RelV v u) : SameN (putN xs k b v) (storM ys k b u) := by
  unfold putN storM
  rw [any_at r]
  split
  · exact put_same ru r
  · exact same_app r ⟨rfl, rfl, ru⟩
theorem rp_put {xs : NX} {ps : List (D × D)} {k : NestedKey} {b : KA} {v : V} {kd e : D} (h : RpN K H xs ps) (hk : keyN kd = some k) (hd : k.depth ≤ 8) (hb : Rp K H (kV0 b) kd) (hv : Rp K H v e) : RpN K H (putN xs k b v) (dPut ps kd k e) := by
  unfold putN dPut
  rw [any_dat h]
  split
  · exact put_rp hv h
  · exact rpn_app h (.cons hk hd hb hv .nil)
theorem kv_put {kvs : List (Key × V)} {ps : List (D × D)} {kk : Key} {k : NestedKey} {kd e : D} {v : V} (hk : ∀ (kk' : Key) (d : D), Rp K H (kV kk') d → (keyN d = some k ↔ kk' = kk)) (hb : Rp K H (kV kk) kd) (hv : Rp K H v e) (h : RpKv K H kvs ps) :
    RpKv K H (putK kvs kk v) (dPut ps kd k e) := by
  have an : ∀ {kvs : List (Key × V)} {ps : List (D × D)}, RpKv K H kvs ps → (kvs.any fun kv => decide (kv.1 = kk)) = (dAt ps k).isSome := by
    intro kvs ps h
    rcases valV_at hk h with ⟨z1, z2⟩ | ⟨v, e, z1, z2, _⟩
    · rw [z1]
      unfold valV at z2
      cases q : kvs.any fun kv => decide (kv.1 = kk) with
      | false => rfl
      | true =>
        have : (kvs.find? fun kv => decide (kv.1 = kk)).isSome = true := by rw [List.find?_isSome]; simpa using q
        cases z : kvs.find? fun kv => decide (kv.1 = kk) with
        | none => rw [z] at this; cases this
        | some _ => rw [z] at z2; cases z2
    · rw [z1]
      unfold valV at z2
      obtain ⟨p, hp, _⟩ := Option.map_eq_some_iff.mp z2
      have : (kvs.find? fun kv => decide (kv.1 = kk)).isSome = true := by rw [hp]; rfl
      rw [List.find?_isSome] at this
      simpa using this
  have mp : ∀ {kvs : List (Key × V)} {ps : List (D × D)}, RpKv K H kvs ps → RpKv K H (kvs.map fun kv => if kv.1 = kk then (kv.1, v) else kv) (ps.map fun p => if keyN p.1 = some k then (p.1, e) else p) := by
    intro kvs ps h
    induction kvs generalizing ps with
    | nil =>
      cases h
      exact .nil
    | cons x kvs ih =>
      cases h with
      | @cons k0 w _ d e0 ps h1 h2 h3 =>
        rw [List.map_cons, List.map_cons]
        by_cases q : k0 = kk
        · rw [if_pos q, if_pos ((hk _ _ h1).mpr q)]
          exact .cons h1 hv (ih h3)
        · rw [if_neg q, if_neg fun z => q ((hk _ _ h1).mp z)]
          exact .cons h1 h2 (ih h3)
  have ap : ∀ {kvs : List (Key × V)} {ps : List (D × D)}, RpKv K H kvs ps → RpKv K H (kvs ++ [(kk, v)]) (ps ++ [(kd, e)]) := by
    intro kvs ps h
    induction kvs generalizing ps with
    | nil =>
      cases h
      exact .cons hb hv .nil
    | cons x kvs ih =>
      cases h with
      | cons h1 h2 h3 => exact .cons h1 h2 (ih h3)
  unfold putK dPut
  rw [an h]
  split
  · exact mp h
  · exact ap h
end
end PD
namespace PD
open PySem L2 PyProof.Rows PySem.Spec
open Evl (Ex)
section
variable {X : Cx} {M : Mk0} {e i o value : Expr} {fa fb : FE} {pos pos' : Pos}
/-- {}, of keys to be -/
def tDNewA (w : World) (kd : Bool) : TE := fun _ H Q => ∀ p o, H p = none → Q (.ref p) (upd H p (if kd = true then NdO w p o [] else KdO w p o []))
theorem pe_dnewA (kd : Bool) : PE X (.Dict [] [] pos) (tDNewA X.w kd) := by
  refine ⟨fun pins s σ H Q I h => ?_⟩
  have fresh : (s.heap.objs.size == sysModules) = false := beq_eq_false_iff_ne.mpr (Nat.ne_of_gt I.big)
  have none_ := I.hok.fresh (Nat.le_refl _)
  cases kd with
  | true =>
    obtain ⟨o, ok⟩ := ndo_obj (P := X.prog) (w := X.w) (xs := []) (ys := []) (H' := H) fresh .nil (MixAt.fresh X.w s.heap) (by simp)
    exact wpAny_Dict_empty ⟨.ref s.heap.objs.size, _, I.laid (a := s.heap.objs.size) (o := NdO X.w s.heap.objs.size o []) (t' := s.toks) (fun _ _ q => Heap.get?_push_of_some _ q) (Nat.le_refl _) ⟨ok.1, ok.2⟩, rfl, h _ o none_⟩
  | false =>
    have em : (s.heap.push { cls := .type "dict", data := .dict #[] }).DictOf (mixKind X.prog X.w) s.heap.objs.size [] := by
      obtain ⟨_, _, vs, r, dd⟩ := dk_empty (P := X.prog) (w := X.w) (H := H) s.heap I.big
      cases r
      exact dd
    obtain ⟨o, ok⟩ := kdo_obj (P := X.prog) (w := X.w) (kvs := []) (vs := []) (H' := H) fresh .nil em (by simp)
    exact wpAny_Dict_empty ⟨.ref s.heap.objs.size, _, I.laid (a := s.heap.objs.size) (o := KdO X.w s.heap.objs.size o []) (t' := s.toks) (fun _ _ q => Heap.get?_push_of_some _ q) (Nat.le_refl _) ⟨ok.1, ok.2⟩, rfl, h _ o none_⟩
/-- x = {} -/
def fsOwnD (i : Nat) (kd : Bool) : FS := fun ρ P => P.nx (ρ.set i (.own (.d kd [])))
/-- x[k] = v, of values -/
def rPutD (K : Fr0) : TSet := fun o y v H Q => ∃ (L : List Addr) (a : Addr) (kd : Bool) (ps : List (D × D)) (dk dv : D) (k : NestedKey) (u : HO), o = .ref a ∧ a ∈ L ∧ H a = some u ∧ OwAt K (hide L H) a u (.d kd ps) ∧ Rp K (hide L H) y dk ∧ Rp K (hide L H) v dv ∧
  keyN dk = some k ∧ k.depth ≤ 8 ∧ (if kd = true then isTupK dk else isFlatK dk) = true ∧ ps.length < 1000000 ∧ ∀ u', OwAt K (hide L H) a u' (.d kd (dPut ps dk k dv)) → Q (upd H a u')
theorem rpk_len {K : Fr0} {H : Hp} : ∀ {xs : List (Key × V)} {ps : List (D × D)}, RpKv K H xs ps → xs.length = ps.length
  | _, [], h => by
    cases h
    rfl
  | _, _ :: _, h => by
    cases h with
    | cons _ _ h3 => rw [List.length_cons, List.length_cons, rpk_len h3]
def fsPut (i : Nat) (fk fv : FE) : FS := fun ρ P => fv ρ fun dv ρ1 => (∃ c, ρ1.sl[i]? = some (.own c)) ∧ fk ρ1 fun dk ρ2 => ∃ kd ps k, ρ2.sl[i]? = some (.own (.d kd ps)) ∧ keyN dk = some k ∧ k.depth ≤ 8 ∧ (if kd = true then isTupK dk else isFlatK dk) = true ∧ ps.length < 1000000 ∧
  P.nx (ρ2.set i (.own (.d kd (dPut ps dk k dv))))
/-- x[k], x a dict of the def's own -/
def fOwnIx (i : Nat) (fk : FE) : FE := fun ρ q => (∃ c, ρ.sl[i]? = some (.own c)) ∧ fk ρ fun dk ρ1 => ∃ kd ps k d, ρ1.sl[i]? = some (.own (.d kd ps)) ∧ keyOk dk ps = some k ∧ dAt ps k = some d ∧ q d ρ1
end
end PD
namespace PD
open PySem L2 PyProof.Rows PySem.Spec
open Evl (Ex)
/-- what stands at d is a dict, by the object o: its keys, its values, in their order -/
structure DEnt (d : Addr) (o : Obj) (u : HO) (es : Array DictEntry) (ep : Nat) (ks vs : List V) : Prop where
  sys : (d == sysModules) = false
  ex : o.ExactDict
  dat : o.data = .dict es ep
  lk : es.size = ks.length
  lv : es.size = vs.length
  key : ∀ (i : Nat) (hi : i < es.size) (x : V), ks[i]? = some x → RelV x es[i].key
  val : ∀ (i : Nat) (hi : i < es.size) (x : V), vs[i]? = some x → RelV x es[i].val
  at_ : ∀ (P : Program) (w : World) (H : Hp) (h : Heap), ObjOk P w H h d u → h.get? d = some o
theorem DEnt.raw {P : Program} {w : World} {H : Hp} {h : Heap} {d : Addr} {o : Obj} {u : HO} {es : Array DictEntry} {ep : Nat} {ks vs : List V} (E : DEnt d o u es ep ks vs) (ok : HOk P w H h) (e : H d = some u) : h.DictRaw d es ep := ⟨o, E.at_ P w H h (ok d u e), E.ex, E.dat⟩
theorem nd_ent {w : World} {d : Addr} {o : Obj} {xs : NX} (h : NdF w d o xs) : ∃ es ep, DEnt d o (NdO w d o xs) es ep (xs.map fun x => kV0 x.2.1) (xs.map fun x => x.2.2) := by
  obtain ⟨hs, h2, h7, h6, es, ep, us, h3, h4, h5⟩ := h
  have hl : us.length = xs.length := by rw [← h4.length, List.length_map]
  have hz : es.size = xs.length := by
    rw [← Array.length_toList, h5, List.length_map, List.length_zip, hl, Nat.min_self]
  have en : ∀ (i : Nat) (hi : i < es.size) (x : NestedKey × KA × V), xs[i]? = some x → ∃ u, us[i]? = some u ∧ es[i].key = kvl x.2.1 ∧ es[i].val = u := by
    intro i hi x hx
    have hu : i < us.length := by omega
    refine ⟨us[i], List.getElem?_eq_getElem hu, ?_⟩
    have q : es.toList[i]? = some ⟨x.1.hash w, kvl x.2.1, us[i]⟩ := by
      rw [h5, List.getElem?_map, show (xs.zip us)[i]? = some (x, us[i]) from List.getElem?_zip_eq_some.mpr ⟨hx, List.getElem?_eq_getElem hu⟩]
      rfl
    rw [Array.getElem?_toList, Array.getElem?_eq_getElem hi] at q
    rw [Option.some.inj q]
    exact ⟨rfl, rfl⟩
  refine ⟨es, ep, hs, h2, h3, by rw [hz, List.length_map], by rw [hz, List.length_map], fun i hi x hx => ?_, fun i hi x hx => ?_, fun P w H h ok => ok.1.1⟩
  · rw [List.getElem?_map] at hx
    obtain ⟨y, hy, e⟩ := Option.map_eq_some_iff.mp hx
    obtain ⟨u, _, g1, _⟩ := en i hi y hy
    subst e
    rw [g1]
    exact ka_rel _
  · rw [List.getElem?_map] at hx
    obtain ⟨y, hy, e⟩ := Option.map_eq_some_iff.mp hx
    obtain ⟨u, g0, _, g2⟩ := en i hi y hy
    obtain ⟨u', g3, g4⟩ := h4.get (i := i) (x := x) (by rw [List.getElem?_map, hy, ← e]; rfl)
    rw [g0] at g3
    cases g3
    rw [g2]
    exact g4
theorem kd_ent {w : World} {d : Addr} {o : Obj} {kvs : List (Key × V)} (h : KdF w d o kvs) : ∃ es ep, DEnt d o (KdO w d o kvs) es ep (kvs.map fun x => kV x.1) (kvs.map fun x => x.2) := by
  obtain ⟨hs, h2, h7, es, ep, vs, h3, h4, h5, h6, r⟩ := h
  have hz : es.size = kvs.length := by
    rw [← Array.length_toList, Paired.length h5, ← Paired.length r]
  have en : ∀ (i : Nat) (hi : i < es.size) (x : Key × V), kvs[i]? = some x → RelV (kV x.1) es[i].key ∧ RelV x.2 es[i].val := by
    intro i hi x hx
    obtain ⟨y, hy, e1, e2⟩ := paired_get r hx
    obtain ⟨y', hy', e3, e4⟩ := paired_get h5 (i := i) (a := es[i]) (by rw [Array.getElem?_toList, Array.getElem?_eq_getElem hi])
    rw [hy] at hy'
    cases hy'
    exact ⟨relV_key (by rw [e1]; exact e3), by rw [e4]; exact e2⟩
  refine ⟨es, ep, hs, h2, h3, by rw [hz, List.length_map], by rw [hz, List.length_map], fun i hi x hx => ?_, fun i hi x hx => ?_, fun P w H h ok => ok.1.1⟩
  · rw [List.getElem?_map] at hx
    obtain ⟨y, hy, e⟩ := Option.map_eq_some_iff.mp hx
    subst e
    exact (en i hi y hy).1
  · rw [List.getElem?_map] at hx
    obtain ⟨y, hy, e⟩ := Option.map_eq_some_iff.mp hx
    subst e
    exact (en i hi y hy).2
/-- one by one, as they stand -/
def ItX (d : Addr) (u : HO) (xs : List V) : It := ⟨fun i H => H d = some u ∧ i < xs.length, fun i H x H' => H' = H ∧ xs[i]? = some x, fun i H => H d = some u ∧ xs.length ≤ i⟩
section
variable {P : Program} {w : World} {K : PySem.W.Frag} {tg : Expr} {d : Addr} {o : Obj} {u : HO} {es : Array DictEntry} {ep : Nat} {ks vs : List V}
theorem turn_k (it : Addr) (E : DEnt d o u es ep ks vs) : Turn P w K tg (ItX d u ks) [it] it (fun i h => h.IsKeyIter it d i es.size ep) where
  mem := List.mem_cons_self
  obj := fun i h st b hb => by
    obtain rfl : b = it := by simpa using hb
    obtain ⟨oi, e, c, dd⟩ := st
    exact ⟨oi, e, fun v z => by rw [dd] at z; cases z⟩
  keep := fun i h h' st kp => st.at fun oi e => kp it List.mem_cons_self oi e
  item := by
    intro X hP hw hK hc i pins s σ H F I hf st ⟨hd, hi⟩
    subst hP hw hK
    obtain ⟨f0, f1, f2, f3, f4, f5⟩ := hf it List.mem_cons_self
    have hi' : i < es.size := by rw [E.lk]; exact hi
    refine wpAny_pyNext_keys_item_raw st (E.raw I.hok hd) hi' fun h' st' sb => ?_
    have J : Inv X pins σ H { s with heap := h' } := I.turned (t' := s.toks) (fun b ob hb e => (sb.2 b hb).trans e) f0 f1 f3 f4 f5
    obtain ⟨oi, e, c, dd⟩ := id st'
    exact ⟨_, rfl, go_of (s := { s with heap := h' }) e c dd (by decide) ⟨ks[i], H, J, E.key i hi' _ (List.getElem?_eq_getElem hi), ⟨rfl, List.getElem?_eq_getElem hi⟩, st', fun b hb => (hf b hb).1⟩⟩
  done := by
    intro X hP hw hK hc i pins s σ H F I hf st ⟨hd, hi⟩
    subst hP hw hK
    obtain ⟨f0, f1, f2, f3, f4, f5⟩ := hf it List.mem_cons_self
    exact wpAny_pyNext_keys_end_raw (I.ok.hd hc) st (E.raw I.hok hd) (by rw [E.lk]; exact hi) fun h' eb => ⟨rfl, I.turned (t' := s.toks) (fun b ob hb e => eb b ob hb e) f0 f1 f3 f4 f5⟩
  self := fun A i s Q F st h => wpAny_pyIter_keyiter st h
end
end PD
namespace PD
open PySem L2 PyProof.Rows PySem.Spec
open Evl (Ex)
def nk (xs : NX) : List V := xs.map fun x => kV0 x.2.1
def nv (xs : NX) : List V := xs.map fun x => x.2.2
def kk (kvs : List (Key × V)) : List V := kvs.map fun x => kV x.1
def kv (kvs : List (Key × V)) : List V := kvs.map fun x => x.2
section
variable {X : Cx} {tg e : Expr} {td : TE} {apos cpos : Pos}
theorem over_ent {pins : List (Addr × Obj)} {σ : L2.St} {H1 : Hp} {s1 : Shared} {J : Addr → HO → List V → List V → It} {R : It → Hp → Prop} {d : Addr} (I1 : Inv X pins σ H1 s1)
    (q : (∃ o xs, H1 d = some (NdO X.w d o xs) ∧ R (J d (NdO X.w d o xs) (nk xs) (nv xs)) H1) ∨ ∃ o kvs, H1 d = some (KdO X.w d o kvs) ∧ R (J d (KdO X.w d o kvs) (kk kvs) (kv kvs)) H1) :
    ∃ o u es ep ks vs, H1 d = some u ∧ DEnt d o u es ep ks vs ∧ R (J d u ks vs) H1 := by
  rcases q with ⟨o, xs, hd, q⟩ | ⟨o, kvs, hd, q⟩
  · obtain ⟨es, ep, E⟩ := nd_ent (show ObjOk X.prog X.w H1 s1.heap d (NdO X.w d o xs) from I1.hok d _ hd).1.2
    exact ⟨o, _, es, ep, _, _, hd, E, q⟩
  · obtain ⟨es, ep, E⟩ := kd_ent (show ObjOk X.prog X.w H1 s1.heap d (KdO X.w d o kvs) from I1.hok d _ hd).1.2
    exact ⟨o, _, es, ep, _, _, hd, E, q⟩
end
section
variable {K : Fr0} {L : List Addr} {H : Hp} {d : Addr} {u : HO}
theorem walks_x {xs : List V} {ds : List D} (h : hide L H d = some u) (hd : RpAll K (hide L H) xs ds) : Walks K (ItX d u xs) L H ds := by
  intro L2 H2 e tr i
  have g := (hide_some.mp (e _ _ h)).2
  have dd := dpa_ex e _ _ hd
  refine ⟨fun x hi => ?_, fun hl => ⟨g, by rw [dpa_len hd]; exact hl⟩⟩
  obtain ⟨v, hv, dv⟩ := dpa_get' dd hi
  refine ⟨⟨g, (List.getElem?_eq_some_iff.mp hv).1⟩, fun y H3 ⟨e3, hy⟩ => ?_⟩
  subst e3
  rw [hv] at hy
  cases hy
  exact ⟨Ex.refl _, dv⟩
theorem rpn_all {H : Hp} : ∀ {xs : NX} {ps : List (D × D)}, RpN K H xs ps → RpAll K H (nk xs) (ps.map (·.1)) ∧ RpAll K H (nv xs) (ps.map (·.2))
  | _, [], h => by
    cases h
    exact ⟨.nil, .nil⟩
  | _, _ :: _, h => by
    cases h with
    | cons h0 hd h1 h2 h3 =>
      obtain ⟨a, b⟩ := rpn_all h3
      exact ⟨.cons h1 a, .cons h2 b⟩
theorem rpk_all {H : Hp} : ∀ {xs : List (Key × V)} {ps : List (D × D)}, RpKv K H xs ps → RpAll K H (kk xs) (ps.map (·.1)) ∧ RpAll K H (kv xs) (ps.map (·.2))
  | _, [], h => by
    cases h
    exact ⟨.nil, .nil⟩
  | _, _ :: _, h => by
    cases h with
    | cons h1 h2 h3 =>
      obtain ⟨a, b⟩ := rpk_all h3
      exact ⟨.cons h1 a, .cons h2 b⟩
/-- keys of one kind -/
def keysOk (ps : List (D × D)) : Bool := (ps.all fun p => isTupK p.1) || ps.all fun p => isFlatK p.1
end
def fiOver (g : List (D × D) → List D) (fa : FE) : FI := fun ρ k => fa ρ fun d ρ1 => ∃ ps, d = .dict ps ∧ keysOk ps = true ∧ k (g ps) ρ1
section
variable {X : Cx} {M : Mk0} {tg e : Expr} {fa : FE} {apos cpos : Pos}
def dKeys (ps : List (D × D)) : List D := ps.map (·.1)
def dVals (ps : List (D × D)) : List D := ps.map (·.2)
def dPairs (ps : List (D × D)) : List D := ps.map fun p => .tuple [p.1, p.2]
end
end PD
namespace PD
open PySem L2 PyProof.Rows PySem.Spec
open Evl (Ex)
end PD
namespace PD
open PySem L2 PyProof.Rows PySem.Spec
open Evl (Ex)
section
variable {X : Cx} {M : Mk0} {e : Expr} {fa : FE} {fn : FN} {pos : Pos} {K : Fr0} {P : Option Addr} {F : Hp} {L : List Addr} {ρ : Rho} {σ : L2.St} {H : Hp}
/-- x.pop(), x a list of the def's own -/
def fPop (i : Nat) : FE := fun ρ k => ∃ (xs : List D) (y : D), ρ.sl[i]? = some (.own (.l (xs ++ [y]))) ∧ k y (ρ.set i (.own (.l xs)))
/-- x.extend(a new list) -/
def fsExt (i : Nat) (fn : FN) : FS := fun ρ P => (∃ xs : List D, ρ.sl[i]? = some (.own xs)) ∧ fn ρ fun ds ρ1 => ∃ xs : List D, ρ1.sl[i]? = some (.own xs) ∧ xs.length + ds.length < 1000000 ∧ P.nx (ρ1.set i (.own (.l (xs ++ ds))))
/-- x += e, of ints -/
def fsAugI (i : Nat) (fa : FE) : FS := fun ρ P => (∃ a : Int, ρ.sl[i]? = some (.d (.int a)) ∧ fa ρ fun d ρ1 => ∃ b : Int, d = .int b ∧ P.nx (ρ1.set i (.d (.int (a + b)))))
end
end PD
namespace PD
open PySem L2 PyProof.Rows PySem.Spec
open Evl (Ex)
/-- an instance of the class at C, as data -/
@[reducible] def oD (C : Addr) (ps : List (D × D)) : D := .dict ((.list [], .int (C : Nat)) :: ps)
def lookD (f : Str) : List (D × D) → Option D
  | [] => none
  | (.str g, x) :: r => if f = g then some x else lookD f r
  | _ :: r => lookD f r
def putD (f : Str) (d : D) : List (D × D) → List (D × D)
  | [] => [(.str f, d)]
  | (.str g, x) :: r => if g = f then (.str g, d) :: r else (.str g, x) :: putD f d r
  | e :: r => e :: putD f d r
section
variable {X : Cx} {M : Mk0} {e o : Expr} {es : List Expr} {fa fo : FE} {fA : FA} {pos p apos : Pos} {C : Addr} {f m : Str}
/-- e.f, e an instance of the class at C -/
def fFld (C : Addr) (f : Str) (fa : FE) : FE := fun ρ k => fa ρ fun d ρ1 => ∃ ps x, d = oD C ps ∧ lookD f ps = some x ∧ k x ρ1
/-- x.f = e, x an instance of the def's own -/
def fsFld (i : Nat) (C : Addr) (f : Str) (fa : FE) : FS := fun ρ P => fa ρ fun d ρ1 => ∃ p ps, ρ1.sl[i]? = some (.own (.o p C ps)) ∧ ps.length < 1000 ∧ P.nx (ρ1.set i (.own (.o p C (putD f d ps))))
end
section
variable {X : Cx} {M : Mk0} {k : Nat} {C f : Addr} {fd : FuncData} {ps : List Str} {n : Nat} {W : FE} {m : Str} {apos pos : Pos} {o e : Expr} {es : List Expr} {fo : FE} {fa : FA} {pl : Sem Bool}
/-- a call of the method m of an instance (data) of the class at C -/
def fMeth (C : Addr) (m : Str) (n : Nat) (W : FE) (fo : FE) (fa : FA) : FE := fun ρ k => fo ρ fun d ρ1 => ∃ ps, d = oD C ps ∧ lookD m ps = none ∧
  fa ρ1 fun ss ρ2 => ss.length + 1 = n ∧ W ⟨.d d :: ss, ρ2.n⟩ fun y ρ3 => k y ⟨ρ2.sl, ρ3.n⟩
def faNil : FA := fun ρ k => k [] ρ
end
end PD
namespace PD
open PySem L2 PyProof.Rows PySem.Spec
open Evl (Ex)
def tagD (C : Nat) : D → D → Bool
  | .list [], .int i => decide (i = (C : Int))
  | _, _ => false
mutual
def noO (C : Nat) : D → Bool
  | .list ds => noOs C ds
  | .tuple ds => noOs C ds
  | .dict ps => noOk C ps
  | .none | .bool _ | .int _ | .str _ => true
def noOs (C : Nat) : List D → Bool
  | [] => true
  | d :: ds => noO C d && noOs C ds
def noOk (C : Nat) : List (D × D) → Bool
  | [] => true
  | (k, v) :: ps => noO C k && noO C v && !tagD C k v && noOk C ps
end
section
variable {X : Cx} {M : Mk0} {e : Expr} {fa : FE} {C : Addr}
def fLendO (i : Nat) (C : Addr) (fa : FE) : FE := fun ρ k => (∃ p ps, ρ.sl[i]? = some (.own (.o p C ps))) ∧ fa (lendR i ρ) fun d ρ' => noO C d = true ∧ k d ⟨ρ.sl, ρ'.n⟩
end
abbrev VI := List Sl → Nat → (List (D × D) → Nat → Prop) → Prop
section
variable {X : Cx} {M : Mk0} {k : Nat} {C f : Addr} {fd : FuncData} {ps : List Str} {n : Nat} {V : VI} {x : Str} {p pos : Pos} {e : Expr} {es : List Expr} {fa : FA}
/-- C(..), the instance as data -/
def fMake (C : Addr) (n : Nat) (V : VI) (fa : FA) : FE := fun ρ k => fa ρ fun ss ρ1 => ss.length + 1 = n ∧ V ss ρ1.n fun ps m => k (oD C ps) ⟨ρ1.sl, m⟩
end
end PD
namespace PD
open PySem L2 PyProof.Rows PySem.Spec
open Evl (Ex)
/-- a dict with nothing in it -/
def newO (w : World) (kd : Bool) (p : Addr) (o : Obj) : HO := if kd = true then NdO w p o [] else KdO w p o []
theorem newO_ok {P : Program} {w : World} {H : Hp} (kd : Bool) (h : Heap) (big : sysModules < h.objs.size) : ∃ o, ObjOk P w H (h.push { cls := .type "dict", data := .dict #[] }) h.objs.size (newO w kd h.objs.size o) := by
  have ne : (h.objs.size == sysModules) = false := beq_eq_false_iff_ne.mpr (Nat.ne_of_gt big)
  cases kd with
  | true => exact ndo_obj (P := P) (w := w) (xs := []) (ys := []) (H' := H) ne .nil (MixAt.fresh w h) (by simp)
  | false =>
    obtain ⟨_, _, vs, r, dd⟩ := dk_empty (P := P) (w := w) (H := H) h big
    cases r
    exact kdo_obj (P := P) (w := w) (kvs := []) (vs := []) (H' := H) ne .nil dd (by simp)
theorem newO_at {K : Kw} {H : Hp} {p : Addr} {o : Obj} (kd : Bool) : OwAt K H p (newO K.w kd p o) (.d kd []) := by
  cases kd with
  | true => exact ⟨o, [], rfl, .nil⟩
  | false => exact ⟨o, [], rfl, .nil⟩
/-- what a pair that is put asks -/
def rKeep (K : Fr0) (D : Addr) : V → V → Hp → (Hp → Prop) → Prop := fun y v H Q => rPutD K (.ref D) y v H Q
theorem dset_D {X : Cx} (hu : X.A.units + 64 < cLine) {pins : List (Addr × Obj)} {s : Shared} {σ : L2.St} {H : Hp} {D : Addr} {y v : V} {yv rv : Value} {Q : Hp → Prop} {E : Value → Shared → Prop} (I : Inv X pins σ H s) (ry : RelV y yv) (rr : RelV v rv)
    (h : rKeep X.k0 D y v H Q) : wpAny (model X.prog X.w) X.A (dictSet D yv rv) (fun _ s' => ∃ H', Inv X pins σ H' s' ∧ Q H') E s := by
  obtain ⟨L, a, kd, ps, dk, dv, k, u, e, haL, ha, hw, hy, hv, hk, hd, hkind, hz, q⟩ := h
  cases e
  have up := hide_le L H
  cases kd with
  | true =>
    obtain ⟨ob, xs, e, hp⟩ := hw
    subst e
    have hl := rpn_len hp
    obtain ⟨hs, _, ys, rel, hm⟩ := ndo_get I ha (rpn_up up hp)
    have room : X.A.units + 8 < cLine := by omega
    have hl2 : ys.length ≤ sizeLine := by rw [← Paired.length rel, sizeLine_eq]; omega
    obtain ⟨b, rfl, rfl, hkey⟩ := ka_of I (rp_up up hy) ry hkind hk hd
    refine setM room hkey hm (fun h' dd' hsb => ?_) hl2
    have he : ∃ o, h'.get? D = some o := let ⟨o, _, _, ho, _⟩ := dd'; ⟨o, ho⟩
    have hn := putN_len xs k b v
    obtain ⟨o', ok⟩ := ndo_obj (P := X.prog) (H' := upd H D (NdO X.w D ob xs)) hs (same_put rel k b rr) dd' (by rw [sizeLine_eq]; omega)
    exact ⟨upd H D (NdO X.w D o' (putN xs k b v)), d_write I (by rw [ha]; exact True.intro) hsb he ⟨ok.1, ok.2⟩, q _ ⟨o', _, rfl, rp_put hp hk hd hy hv⟩⟩
  | false =>
    obtain ⟨ob, kvs, e, hp⟩ := hw
    subst e
    have hl := rpk_len hp
    obtain ⟨kk, ey, hkk⟩ := flatK_of hy hkind hk
    subst ey
    obtain ⟨hs, _, vs, rel, dd⟩ := kdo_get I ha
    have hl2 : vs.length ≤ sizeLine := by rw [← rel.length, sizeLine_eq]; omega
    refine wpAny_dictSet_pairs (hsz := hl2) (kV_is ry) dd fun h' dd' hsb => ?_
    have he : ∃ o, h'.get? D = some o := let ⟨o, _, _, ho, _⟩ := dd'; ⟨o, ho⟩
    have hn := length_putK kvs kk v
    obtain ⟨o', ok⟩ := kdo_obj (H' := upd H D (KdO X.w D ob kvs)) hs (rel.put kk rr) dd' (by rw [sizeLine_eq]; omega)
    exact ⟨upd H D (KdO X.w D o' (putK kvs kk v)), d_write I (by rw [ha]; exact True.intro) hsb he ⟨ok.1, ok.2⟩, q _ ⟨o', _, rfl, kv_put hkk hy hv hp⟩⟩
end PD
namespace PD
open PySem L2 PyProof.Rows PySem.Spec
open Evl (Ex)
/-- a dict comprehension: what is put so far, one by one -/
def compK (kd : Bool) (g : FG) (ft : FT) (fk fv : FE) (vs : List Nat) : List D → List (D × D) → Rho → (List (D × D) → Rho → Prop) → Prop
  | [], acc, ρ, k => k acc ρ
  | x :: xs, acc, ρ, k => g x (wipeR vs ρ) fun ρ1 => ft ρ1 fun b ρ2 => if b = true then fk ρ2 fun y ρ3 => fv ρ3 fun z ρ4 => ∃ kk, keyN y = some kk ∧ kk.depth ≤ 8 ∧ (if kd = true then isTupK y else isFlatK y) = true ∧ compK kd g ft fk fv vs xs (dPut acc y kk z) ⟨ρ.sl, ρ4.n⟩ k
      else compK kd g ft fk fv vs xs acc ⟨ρ.sl, ρ2.n⟩ k
theorem dPut_len (ps : List (D × D)) (kd : D) (k : NestedKey) (e : D) : (dPut ps kd k e).length ≤ ps.length + 1 := by
  unfold dPut
  split
  · rw [List.length_map]; omega
  · rw [List.length_append]; exact Nat.le_refl _
section
variable {X : Cx} {M : Mk0} {tg iter kx vx : Expr} {ifs : List Expr} {fi : FI} {g : FG} {ft : FT} {fk fv : FE} {kd : Bool} {pos : Pos}
def fDc (kd : Bool) (fi : FI) (g : FG) (ft : FT) (fk fv : FE) (vs : List Nat) : FE := fun ρ k => fi ρ fun ds ρ1 => ds.length ≤ 1000000 ∧ compK kd g ft fk fv vs ds [] ⟨ρ1.sl.map dropOwn, ρ1.n⟩ fun out ρ2 => k (.dict out) ⟨ρ1.sl, ρ2.n⟩
end
end PD
namespace PD
open PySem L2 PyProof.Rows PySem.Spec
open Evl (Ex)
abbrev FP := Rho → (List (D × D) → Rho → Prop) → Prop
inductive RpP (K : Fr0) (H : Hp) : List (V × V) → List (D × D) → Prop
  | nil : RpP K H [] []
  | cons {x y : V} {ws : List (V × V)} {d e : D} {ps : List (D × D)} : Rp K H x d → Rp K H y e → RpP K H ws ps → RpP K H ((x, y) :: ws) ((d, e) :: ps)
def DP (K : Fr0) (M : Mk0) (f : FP) (σ : L2.St) (H : Hp) (Q : List (V × V) → Hp → Prop) : Prop := ∃ P F L ρ, R K M P F L ρ σ H ∧ f ρ fun ps ρ' => ∀ ws L' H', Ex (hide L H) (hide L' H') → R K M P F L' ρ' σ H' → RpP K (hide L' H') ws ps → Q ws H'
structure PDP (X : Cx) (M : Mk0) (pos : Pos) (keys : List (Option Expr)) (values : List Expr) (f : FP) : Prop where
  run : ∀ (pins : List (Addr × Obj)) (s : Shared) (σ : L2.St) (H : Hp) (Q : List (V × V) → Hp → Prop), Inv X pins σ H s → DP X.k0 M f σ H Q → wpAny (model X.prog X.w) X.A (evalPairs (pairTrees keys values X.env pos)) (fun vs s' => ∃ ws H', Inv X pins σ H' s' ∧ VV ws vs ∧ Q ws H') X.xe s
  mono : ∀ ρ k k', (∀ d ρ', k d ρ' → k' d ρ') → f ρ k → f ρ k'
/-- the pairs, one by one into what is there -/
def putAll (kd : Bool) : List (D × D) → List (D × D) → Option (List (D × D))
  | acc, [] => some acc
  | acc, (y, z) :: r => match keyN y with
    | some kk => if kk.depth ≤ 8 ∧ (if kd = true then isTupK y else isFlatK y) = true then putAll kd (dPut acc y kk z) r else none
    | none => none
section
variable {X : Cx} {M : Mk0} {pos : Pos} {ke ve : Expr} {ks : List (Option Expr)} {vs : List Expr} {fk fv : FE} {fp : FP}
def fpNil : FP := fun ρ k => k [] ρ
def fpCons (fk fv : FE) (fp : FP) : FP := fun ρ k => fk ρ fun y ρ1 => fv ρ1 fun z ρ2 => fp ρ2 fun ps ρ3 => k ((y, z) :: ps) ρ3
theorem pdp_nil : PDP X M pos [] [] fpNil := ⟨fun pins s σ H Q I ⟨P, F, L, ρ, r, q⟩ => pairTrees_nil_walk ⟨[], H, I, .nil, q [] L H (Ex.refl _) r .nil⟩, fun ρ k k' h q => h _ _ q⟩
theorem pdp_cons (hk : PD X M ke fk) (hv : PD X M ve fv) (hp : PDP X M pos ks vs fp) : PDP X M pos (some ke :: ks) (ve :: vs) (fpCons fk fv fp) := by
  refine ⟨fun pins s σ H Q I ⟨P, F, L, ρ, r, q⟩ => ?_, fun ρ k k' h q => hk.mono _ _ _ (fun y ρ1 q => hv.mono _ _ _ (fun z ρ2 q => hp.mono _ _ _ (fun ps ρ3 q => h _ _ q) q) q) q⟩
  refine pairTrees_cons_walk (thn (hk.pe.run pins s σ H (fun x H1 => ∃ L1 ρ1 y, Ex (hide L H) (hide L1 H1) ∧ R X.k0 M P F L1 ρ1 σ H1 ∧ Rp X.k0 (hide L1 H1) x y ∧ fv ρ1 fun z ρ2 => fp ρ2 fun ps ρ3 => ∀ ws L' H', Ex (hide L H) (hide L' H') → R X.k0 M P F L' ρ3 σ H' → RpP X.k0 (hide L' H') ws ((y, z) :: ps) → Q ws H') I
    ⟨P, F, L, ρ, r, hk.mono _ _ _ (fun y ρ1 q v L1 H1 e1 r1 d1 => ⟨L1, ρ1, y, e1, r1, d1, q⟩) q⟩) fun u s1 ⟨x, H1, I1, rx, L1, ρ1, y, e1, r1, d1, q1⟩ => ?_)
  refine thn (hv.pe.run pins s1 σ H1 (fun x2 H2 => ∃ L2 ρ2 z, Ex (hide L1 H1) (hide L2 H2) ∧ R X.k0 M P F L2 ρ2 σ H2 ∧ Rp X.k0 (hide L2 H2) x2 z ∧ fp ρ2 fun ps ρ3 => ∀ ws L' H', Ex (hide L H) (hide L' H') → R X.k0 M P F L' ρ3 σ H' → RpP X.k0 (hide L' H') ws ((y, z) :: ps) → Q ws H') I1
    ⟨P, F, L1, ρ1, r1, hv.mono _ _ _ (fun z ρ2 q v L2 H2 e2 r2 d2 => ⟨L2, ρ2, z, e2, r2, d2, q⟩) q1⟩) fun w s2 ⟨x2, H2, I2, rx2, L2, ρ2, z, e2, r2, d2, q2⟩ => ?_
  refine thn (hp.run pins s2 σ H2 (fun ws H3 => Q ((x, x2) :: ws) H3) I2 ⟨P, F, L2, ρ2, r2, hp.mono _ _ _ (fun ps ρ3 q ws L3 H3 e3 r3 d3 => ?_) q2⟩) fun us s3 ⟨ws, H3, I3, rel, q3⟩ => ⟨(x, x2) :: ws, H3, I3, .cons ⟨rx, rx2⟩ rel, q3⟩
  exact q _ L3 H3 ((e1.trans e2).trans e3) r3 (.cons (rp_up (e2.trans e3) d1) (rp_up e3 d2) d3)
theorem store_all (hu : X.A.units + 64 < cLine) {pins : List (Addr × Obj)} {σ : L2.St} {kd : Bool} {L : List Addr} {D0 : Addr} (hL : D0 ∈ L) {E : Value → Shared → Prop} {Q : Unit → Shared → Prop} :
    ∀ {vs : List (Value × Value)} {ws : List (V × V)} {ps acc out : List (D × D)} {u : HO} {H : Hp} {s : Shared}, Inv X pins σ H s → H D0 = some u → OwAt X.k0 (hide L H) D0 u (.d kd acc) → VV ws vs → RpP X.k0 (hide L H) ws ps → putAll kd acc ps = some out →
      acc.length + ps.length ≤ 1000000 → (∀ u' s', Inv X pins σ (upd H D0 u') s' → OwAt X.k0 (hide L H) D0 u' (.d kd out) → Q () s') → wpAny (model X.prog X.w) X.A (storeAll D0 vs) Q E s
  | _, _, [], acc, out, u, H, s, I, hD, hw, rv, hp, ho, hz, q => by
    cases hp
    cases rv
    cases ho
    have id : upd H D0 u = H := by
      funext a
      by_cases ha : a = D0
      · rw [ha, upd_same, hD]
      · rw [upd_ne ha]
    exact wpAny_pure (q u s (by rw [id]; exact I) hw)
  | _, _, (y, z) :: ps, acc, out, u, H, s, I, hD, hw, rv, hp, ho, hz, q => by
    cases hp with
    | @cons x1 x2 ws _ _ _ h1 h2 h3 =>
      cases rv with
      | @cons _ b _ bs hb t =>
        unfold putAll at ho
        cases hk : keyN y with
        | none => rw [hk] at ho; cases ho
        | some kk =>
          rw [hk] at ho
          simp only at ho
          by_cases hc : kk.depth ≤ 8 ∧ (if kd = true then isTupK y else isFlatK y) = true
          · rw [if_pos hc] at ho
            rw [List.length_cons] at hz
            have hl := dPut_len acc y kk z
            have cut : ∀ {E : Value → Shared → Prop} {Q : Unit → Shared → Prop} {s : Shared}, wpAny (model X.prog X.w) X.A (dictSet D0 b.1 b.2) (fun _ s1 => wpAny (model X.prog X.w) X.A (storeAll D0 bs) Q E s1) E s → wpAny (model X.prog X.w) X.A (storeAll D0 (b :: bs)) Q E s := fun {E Q s} h => by
              unfold storeAll
              rw [List.forIn_cons]
              exact wpAny_bind (wpAny_bind (wpAny_mono h (fun _ s1 h1 => wpAny_pure h1) fun _ _ z => z))
            refine cut (thn (dset_D (Q := fun H' => ∃ u', H' = upd H D0 u' ∧ OwAt X.k0 (hide L H) D0 u' (.d kd (dPut acc y kk z))) hu I hb.1 hb.2
              ⟨L, D0, kd, acc, y, z, kk, u, rfl, hL, hD, hw, h1, h2, hk, hc.1, hc.2, by omega, fun u' hw' => ⟨u', rfl, hw'⟩⟩) fun _ s1 ⟨H1, I1, u1, e1, hw1⟩ => ?_)
            subst e1
            have hh := hide_repin (H := H) (o' := u1) hL
            refine store_all hu hL I1 upd_same (by rw [hh]; exact hw1) t (by rw [hh]; exact h3) ho (by omega) fun u' s' I' hw' => q u' s' ?_ (by rw [hh] at hw'; exact hw')
            have id : upd (upd H D0 u1) D0 u' = upd H D0 u' := by
              funext a
              by_cases ha : a = D0
              · rw [ha, upd_same, upd_same]
              · rw [upd_ne ha, upd_ne ha, upd_ne ha]
            rw [id] at I'
            exact I'
          · rw [if_neg hc] at ho
            cases ho
end
section
variable {X : Cx} {M : Mk0} {pos : Pos} {keys : List (Option Expr)} {values : List Expr} {fp : FP}
def fDisp (kd : Bool) (fp : FP) : FE := fun ρ k => fp ρ fun ps ρ1 => ∃ out, putAll kd [] ps = some out ∧ ps.length ≤ 1000000 ∧ k (.dict out) ρ1
theorem pd_disp (kd : Bool) (hu : X.A.units + 64 < cLine) (h : PDP X M pos keys values fp) (hall : keys.all (·.isSome) = true) (hl : keys.length = values.length) (h0 : keys ≠ []) (h15 : keys.length ≤ 15) : PD X M (.Dict keys values pos) (fDisp kd fp) := by
  refine ⟨⟨fun pins s σ H Q I ⟨P, F, L, ρ, r, q⟩ => ?_⟩, fun ρ k k' g q => h.mono _ _ _ (fun ps ρ1 ⟨out, h1, h2, q⟩ => ⟨out, h1, h2, g _ _ q⟩) q⟩
  obtain ⟨o, oOk⟩ := newO_ok (P := X.prog) (w := X.w) (H := H) kd s.heap I.big
  have oOk2 : ∀ {H : Hp}, ObjOk X.prog X.w H (s.heap.push { cls := .type "dict", data := .dict #[] }) s.heap.objs.size (newO X.w kd s.heap.objs.size o) := fun {H} => by
    cases kd <;> exact ⟨oOk.1, oOk.2⟩
  have fresh := I.hok.fresh (Nat.le_refl s.heap.objs.size)
  have I1 := I.laid (a := s.heap.objs.size) (o := newO X.w kd s.heap.objs.size o) (h' := s.heap.push { cls := .type "dict", data := .dict #[] }) (t' := s.toks) (fun _ _ q => Heap.get?_push_of_some _ q) (Nat.le_refl _) oOk2
  refine wpAny_Dict_any hall hl h0 h15 ?_
  generalize s.heap.objs.size = A at *
  have hF : F A = none := by
    cases z : F A with
    | none => rfl
    | some u => have := (r.fr A u z).1; rw [fresh] at this; cases this
  have rp := r.pinNew (o := newO X.w kd A o) fresh
  have e0 : Ex (hide L H) (hide (A :: L) (upd H A (newO X.w kd A o))) := hide_newex fresh
  refine thn (h.run pins _ σ _ (fun ws H1 => ∃ L1 ρ1 ps out, Ex (hide (A :: L) (upd H A (newO X.w kd A o))) (hide L1 H1) ∧ R X.k0 M P (upd F A (newO X.w kd A o)) L1 ρ1 σ H1 ∧ RpP X.k0 (hide L1 H1) ws ps ∧ putAll kd [] ps = some out ∧ ps.length ≤ 1000000 ∧ KV' X.k0 M P F L σ H Q (.dict out) ρ1) I1
    ⟨P, _, A :: L, ρ, rp, h.mono _ _ _ (fun ps ρ1 ⟨out, h1, h2, q⟩ ws L1 H1 e1 r1 d1 => ⟨L1, ρ1, ps, out, e1, r1, d1, h1, h2, q⟩) q⟩) fun vs s1 ⟨ws, H1, I2, rel, L1, ρ1, ps, out, e1, r1, d1, h1, h2, q⟩ => ?_
  have pin := r1.pinned
  refine store_all hu pin.2 I2 pin.1 (newO_at kd) rel d1 h1 (by simpa using h2) fun u' s' I' hw => ?_
  have hh := hide_repin (H := H1) (o' := u') pin.2
  obtain ⟨L3, e3, r3, d3, _⟩ := reveal_own (c := .d kd out) (L := L) (H := H) (by rw [hh]; exact e0.trans e1) hF r1.repin (by rw [hh]; exact hw) trivial
  exact ⟨.ref A, _, I', rfl, q (.ref A) L3 _ e3 r3 d3⟩
/-- {}, as data -/
def fDict0 : FE := fun ρ k => k (.dict []) ρ
theorem pd_dict0 : PD X M (.Dict [] [] pos) fDict0 := by
  refine ⟨PE.wk (pe_dnewA true) fun σ H Q ⟨P, F, L, ρ, r, q⟩ p o hp => ?_, fun ρ k k' g q => g _ _ q⟩
  have hF : F p = none := by
    cases z : F p with
    | none => rfl
    | some u => have := (r.fr p u z).1; rw [hp] at this; cases this
  obtain ⟨L3, e3, r3, d3, _⟩ := reveal_own (c := .d true []) (L := L) (H := H) (hide_newex hp) hF (r.pinNew hp) ⟨o, [], rfl, .nil⟩ trivial
  exact q (.ref p) L3 _ e3 r3 d3
end
end PD
namespace PD
open PySem L2 PyProof.Rows PySem.Spec
open Evl (Ex)
section
variable {X : Cx} {M : Mk0} {o e f : Expr} {fo fk fx : FE} {apos cpos : Pos}
/-- d.get(k, x), d a dict that is not empty -/
def fGet (fo fk fx : FE) : FE := fun ρ q => fo ρ fun d ρ1 => ∃ ps, d = .dict ps ∧ ps ≠ [] ∧ ((ps.all fun p => isTupK p.1) = true ∨ (ps.all fun p => isFlatK p.1) = true) ∧ fk ρ1 fun dk ρ2 => ∃ k, keyOk dk ps = some k ∧ fx ρ2 fun dx ρ3 => q ((dAt ps k).getD dx) ρ3
end
end PD
namespace PD
open PySem L2 PyProof.Rows PySem.Spec
open Evl (Ex)
theorem dict_ents {K : Fr0} {H : Hp} {v : V} {ps : List (D × D)} (h : Rp K H v (.dict ps)) (hk : keysOk ps = true) :
    ∃ d, v = .ref d ∧ ((∃ o zs, H d = some (NdO K.w d o zs) ∧ RpAll K H (nk zs) (dKeys ps)) ∨ ∃ o kvs, H d = some (KdO K.w d o kvs) ∧ RpAll K H (kk kvs) (dKeys ps)) := by
  cases h with
  | dct h1 h2 => exact ⟨_, rfl, .inr ⟨_, _, h1, (rpk_all h2).1⟩⟩
  | dctN h1 h2 => exact ⟨_, rfl, .inl ⟨_, _, h1, (rpn_all h2).1⟩⟩
  | obj h1 h2 => simp [keysOk, isTupK, isFlatK] at hk
  | clo _ _ _ _ _ => simp [keysOk, isTupK, isFlatK] at hk
  | er0 _ _ _ _ => simp [keysOk, isTupK, isFlatK] at hk
  | er1 _ _ _ _ _ _ => simp [keysOk, isTupK, isFlatK] at hk
section
variable {X : Cx} {M : Mk0} {a : Expr} {fa : FE} {pos : Pos}
/-- over a list, a tuple, or the keys of a dict -/
def walkD : D → Option (List D)
  | .list xs => some xs
  | .tuple xs => some xs
  | .dict ps => if keysOk ps = true then some (dKeys ps) else none
  | _ => none
def fiAny (fa : FE) : FI := fun ρ k => fa ρ fun d ρ1 => ∃ ds, walkD d = some ds ∧ k ds ρ1
def iBoth (K : Fr0) (l : TE) : TI := fun σ H R => l σ H fun x H1 => ∃ a, x = V.ref a ∧ ((((∃ xs, SqL K.f H1 a xs) ∧ R (Itl K.f a) H1) ∨ ((∃ xs, SqT K.f H1 a xs) ∧ R (Itt K.f a) H1)) ∨
  ((∃ o xs, H1 a = some (NdO K.w a o xs) ∧ R (ItX a (NdO K.w a o xs) (nk xs)) H1) ∨ ∃ o kvs, H1 a = some (KdO K.w a o kvs) ∧ R (ItX a (KdO K.w a o kvs) (kk kvs)) H1))
variable {tg e : Expr} {td : TE}
theorem pi_both (he : PE X e td) : PI X tg e (iBoth X.k0 td) := by
  refine ⟨fun pins s σ H R I h => thn (he.run pins s σ H _ I h) fun v s1 ⟨x, H1, I1, rx, d, ex, q⟩ => ?_⟩
  subst ex
  obtain rfl : v = Value.ref d := rx
  rcases q with (⟨⟨xs, hq⟩, q⟩ | ⟨⟨xs, hq⟩, q⟩) | q
  · exact pi_seq.pi_list_tail I1 rfl hq q
  · exact pi_seq.pi_tup_tail I1 rfl hq q
  · obtain ⟨o, u, es, ep, ks, vs, hd, E, q⟩ := over_ent (J := fun d u ks _ => ItX d u ks) (R := R) I1 q
    exact wpAny_pyIter_dict_raw E.sys (E.raw I1.hok hd) (pi_one (tk := s1.toks) I1 _ (turn_k _ E) ⟨_, Heap.get?_push_size _ rfl, rfl, rfl⟩ q)
theorem fiAny_mono (ma : ∀ ρ k k', (∀ d ρ', k d ρ' → k' d ρ') → fa ρ k → fa ρ k') (ρ : Rho) (k k' : List D → Rho → Prop) (h : ∀ d ρ', k d ρ' → k' d ρ') (q : fiAny fa ρ k) : fiAny fa ρ k' :=
  ma _ _ _ (fun d ρ1 ⟨ds, h1, h2⟩ => ⟨ds, h1, h _ _ h2⟩) q
theorem pdi_any (h : PD X M e fa) : PDI X M tg e (fiAny fa) := by
  refine ⟨PI.wk (pi_both h.pe) fun σ H Q ⟨P, F, L, ρ, r, k⟩ => ?_, fiAny_mono h.mono⟩
  refine ⟨P, F, L, ρ, r, h.mono _ _ _ (fun d ρ1 ⟨ds, h1, q⟩ v L1 H1 e1 r1 d1 => ?_) k⟩
  cases d with
  | list xs =>
    cases h1
    cases d1 with
    | lst g1 g2 => exact ⟨_, rfl, .inl (.inl ⟨⟨_, sql_le g1⟩, q _ L1 H1 e1 r1 (walks_l g1 g2)⟩)⟩
  | tuple xs =>
    cases h1
    cases d1 with
    | tup g1 g2 => exact ⟨_, rfl, .inl (.inr ⟨⟨_, sqt_le g1⟩, q _ L1 H1 e1 r1 (walks_t g1 g2)⟩)⟩
  | dict ps =>
    have h1 : (if keysOk ps = true then some (dKeys ps) else none) = some ds := h1
    split at h1
    · cases h1
      rename_i hk
      obtain ⟨b, rfl, z⟩ := dict_ents d1 hk
      refine ⟨b, rfl, .inr ?_⟩
      rcases z with ⟨o, zs, z1, z2⟩ | ⟨o, zs, z1, z2⟩
      · exact .inl ⟨o, zs, (hide_some.mp z1).2, q _ L1 H1 e1 r1 (walks_x z1 z2)⟩
      · exact .inr ⟨o, zs, (hide_some.mp z1).2, q _ L1 H1 e1 r1 (walks_x z1 z2)⟩
    · cases h1
  | none => cases h1
  | bool _ => cases h1
  | int _ => cases h1
  | str _ => cases h1
end
end PD
namespace PD
open PySem L2 PyProof.Rows PySem.Spec
open Evl (Ex)
/-- no instance of a class -/
def noInst : D → Bool
  | .dict ((.list _, _) :: _) => false
  | _ => true
section
variable {X : Cx} {M : Mk0} {a : Expr} {fa : FE} {pos : Pos}
def gIsTX (T : String) (d : D) : Option D := if noInst d = true then some (.bool (isT T d)) else none
end
end PD
namespace PD
open PySem L2 PyProof.Rows PySem.Spec TL
open Evl (Ex)
theorem noInst_n : noInst .none = true := rfl
theorem noInst_b (b : Bool) : noInst (.bool b) = true := rfl
theorem noInst_i (b : Int) : noInst (.int b) = true := rfl
theorem noInst_s (b : Str) : noInst (.str b) = true := rfl
theorem noInst_l (b : List D) : noInst (.list b) = true := rfl
theorem noInst_t (b : List D) : noInst (.tuple b) = true := rfl
end PD
namespace PD
open PySem PySem.W PyProof.Rows PySem.SeqAt
section
variable {prog : Program} {w : World} {A : Around} {s : Shared}
theorem call_tuple_lt {E : Value → Shared → Prop} {Q : Value → Shared → Prop} {l b : Addr} {items items2 : Array Value} {e r : Nat → Bool} (hl : IsTup s.heap l items) (hb : IsTup s.heap b items2)
    (he : ∀ j (h1 : j < items.size) (h2 : j < items2.size), EqAt A.in1 s items[j] items2[j] (e j)) (hr : ∀ j (h1 : j < items.size) (h2 : j < items2.size), e j = false → RcLt A.in1 s items[j] items2[j] (r j))
    (h : Q (.bool (firstLt e r (decide (items.size < items2.size)) (List.range (min items.size items2.size)))) s) : wpAny (model prog w) A (call (.builtin "tuple.__lt__") [.ref l, .ref b]) Q E s := by
  obtain ⟨⟨cls, dd, data, sl⟩, ho, hc, n, hd⟩ := id hl
  obtain ⟨⟨cls2, dd2, data2, sl2⟩, ho2, hc2, n2, hd2⟩ := id hb
  simp only at hc hd hc2 hd2
  subst hc hd hc2 hd2
  exact call_meets F.slot_tuple_lt ⟨_, ho, rfl⟩ F.entry_tuple_lt (F.args_tuple_lt_2 _ _) (tuple_ltAt l b items items2 n n2 dd dd2 sl sl2 e r) ⟨ho, ho2, he, hr, h⟩
/-- one tuple against another, as sorting asks -/
theorem oneLt_tup {E : Value → Shared → Prop} {f : Bool} {xs ys : List PyData} {a b : Value} {as bs : List Addr} {Q : Bool → Shared → Prop} (ra : Reads s.heap a (.tuple xs) as) (rb : Reads s.heap b (.tuple ys) bs) (h : alike (.tuple xs) (.tuple ys) = true)
    (hu : A.units + min (PyData.tuple xs).depth (PyData.tuple ys).depth < cLine) (hq : Q (dataLt (.tuple xs) (.tuple ys)) s) : wpAny (model prog w) A (oneLt' f a b) Q E s := by
  cases f with
  | false => exact oneLt_alike (fun z => nomatch z) ra rb h (fun z => nomatch z) hu hq
  | true =>
    have hal : alikeAll xs ys = true := by simpa [alike] using h
    cases ra with
    | @tuple l o vs n _ as₁ h1 h2 h3 h4 =>
      cases rb with
      | @tuple l' o' vs' n' _ bs₁ k1 k2 k3 k4 =>
        have n1 : vs.size = xs.length := by simpa using ReadsAll.length _ _ _ h4
        have n2 : vs'.size = ys.length := by simpa using ReadsAll.length _ _ _ k4
        rw [dataLt_tuple, ← firstLt_toks xs ys hal, ← n1, ← n2] at hq
        rw [oneLt'_eq]
        simp only [if_true]
        refine wpAny_bind (wpAny_cRoomFor (room_here hu) ?_)
        refine wpAny_bind (wpAny_callSpecialIfBound?_slot (T := "tuple") ⟨_, h1, h2⟩ F.slot_tuple_lt (call_tuple_lt (e := pairEq xs ys) (r := fun j => dataLt (xs.getD j .none) (ys.getD j .none)) ⟨_, h1, h2, _, h3⟩ ⟨_, k1, k2, _, k3⟩ (fun j j1 j2 => ?_) (fun j j1 j2 hj => ?_) ?_))
        · have := eqAt_alikeAll xs ys A.in1 s vs.toList vs'.toList _ _ h4 k4 hal (room_in hu) j (by simpa using j1) (by simpa using j2)
          simpa using this
        · have := rcLt_alikeAll xs ys A.in1 s vs.toList vs'.toList _ _ h4 k4 hal (room_in hu) j (by simpa using j1) (by simpa using j2) hj
          simpa using this
        · exact wpAny_truthy_bool hq
/-- which of them are () -/
theorem firsts_of {M : Model} {E : Value → Shared → Prop} : ∀ {vs : List Value} {ds : List PyData}, EachIs (fun v d => ∃ as, Reads s.heap v d as) vs ds → (∀ d ∈ ds, ∃ xs, d = .tuple xs) →
    ∃ os : List (Option Value), os.map (·.isSome) = ds.map (fun d => match d with | .tuple (_ :: _) => true | _ => false) ∧ ∀ {Q : List (Option Value) → Shared → Prop}, Q os s → wpAny M A (vs.mapM firstOfTuple') Q E s
  | _, _, .nil, _ => ⟨[], rfl, fun h => by rw [List.mapM_nil]; exact wpAny_pure h⟩
  | v :: vs, d :: ds, .cons ⟨as, r⟩ t, ht => by
    obtain ⟨os, h1, h2⟩ := firsts_of (M := M) (E := E) t fun d hd => ht d (List.mem_cons_of_mem _ hd)
    obtain ⟨xs, rfl⟩ := ht d List.mem_cons_self
    cases r with
    | @tuple a o vs' n _ as₁ ho hc hd hr =>
      refine ⟨vs'[0]? :: os, ?_, fun {Q} h => ?_⟩
      · rw [List.map_cons, List.map_cons, h1]
        congr 1
        have e0 : vs'[0]? = vs'.toList[0]? := by rw [Array.getElem?_toList]
        rw [e0]
        cases q : vs'.toList with
        | nil =>
          rw [q] at hr
          cases hr
          rfl
        | cons f fr =>
          rw [q] at hr
          cases hr
          rfl
      · rw [List.mapM_cons]
        refine wpAny_bind ?_
        rw [kas_first_eq]
        refine wpAny_bind (Looks.here (show Looks M s.heap (typeOf (.ref a)) o.cls from (Looks.ld ho).andThen .now) ?_)
        rw [hc, if_neg (by first | decide | simp)]
        refine wpAny_bind (listItems_at ho hd (wpAny_pure ?_))
        exact wpAny_bind (h2 (Q := fun bs s' => wpAny M A (pure (vs'[0]? :: bs)) Q E s') (wpAny_pure h))
/-- tuples that are alike can be sorted -/
theorem sortsAt_tups {vs : List Value} {ds : List PyData} (e : EachIs (fun v d => ∃ as, Reads s.heap v d as) vs ds) (hal : AllAlike ds) (ht : ∀ d ∈ ds, ∃ xs, d = .tuple xs) (hu : ∀ d, d ∈ ds → A.units + d.depth < cLine) : SortsAt prog w A s (dataKind s.heap ds) vs := by
  by_cases hne : ∀ d ∈ ds, ∃ x r, d = .tuple (x :: r)
  · exact SortsAt.data e hal (.inl hne) hu
  · have room : ∀ {d d' : PyData}, d ∈ ds → A.units + min d.depth d'.depth < cLine := fun {d d'} hd => Nat.lt_of_le_of_lt (Nat.add_le_add_left (Nat.min_le_left _ _) _) (hu d hd)
    have lt : ∀ f : Bool, ∀ (E : Value → Shared → Prop) (x y : Value) (a b : (dataKind s.heap ds).α) {Q : Bool → Shared → Prop}, (dataKind s.heap ds).keyOf x = some a → (dataKind s.heap ds).keyOf y = some b → Q ((dataKind s.heap ds).blt a b) s → wpAny (model prog w) A (oneLt' f x y) Q E s := by
      intro f E x y a b Q ha hb hq
      obtain ⟨d, as, hd, ra, rfl⟩ := dataKind_inv ha
      obtain ⟨d', as', hd', rb, rfl⟩ := dataKind_inv hb
      obtain ⟨xs, rfl⟩ := ht d hd
      obtain ⟨ys, rfl⟩ := ht d' hd'
      exact oneLt_tup ra rb (hal _ hd _ hd') (room hd) hq
    refine ⟨fun v hv => ?_, ?_⟩
    · obtain ⟨d, hd, as, r⟩ := e.left v hv
      exact ⟨_, dataKind_some hal hd r⟩
    · have nall : (ds.all fun d => match d with | .tuple (_ :: _) => true | _ => false) = false := by
        cases q : ds.all fun d => match d with | .tuple (_ :: _) => true | _ => false with
        | false => rfl
        | true =>
          refine absurd (fun d hd => ?_) hne
          have := List.all_eq_true.mp q d hd
          obtain ⟨xs, rfl⟩ := ht d hd
          cases xs with
          | nil => cases this
          | cons x r => exact ⟨x, r, rfl⟩
      cases ds with
      | nil => cases nall
      | cons d₀ ds₀ =>
        obtain ⟨xs₀, rfl⟩ := ht d₀ List.mem_cons_self
        have T1 : ∀ v ∈ vs, Looks (model prog w) s.heap (typeOf v) (.type "tuple") := fun v hv => by
          obtain ⟨d, hd, as, r⟩ := e.left v hv
          obtain ⟨xs, rfl⟩ := ht d hd
          exact looks_reads r
        cases xs₀ with
        | cons x r =>
          refine ⟨general', fun E x y a b Q ha hb hq => lt false E x y a b ha hb hq, fun h2 E Q hq => ?_⟩
          obtain ⟨os, o1, o2⟩ := firsts_of (M := model prog w) (E := E) e ht
          rw [keyKind'_eq, List.mapM_toArray, map_eq_pure_bind]
          refine wpAny_bind (wpAny_bind (o2 (wpAny_pure ?_)))
          have ha : (os.toArray.all fun x => x.isSome) = false := by
            rw [List.all_toArray]
            have : (os.map (·.isSome)).all id = false := by rw [o1, List.all_map]; exact nall
            rw [List.all_map] at this
            exact this
          rw [if_neg (by rw [ha]; exact Bool.false_ne_true)]
          have h0 : (os.toArray[0]?.bind id).isSome = true := by
            cases os with
            | nil => cases o1
            | cons o os =>
              rw [List.map_cons, List.map_cons] at o1
              have := (List.cons.inj o1).1
              simpa using this
          rw [if_pos h0]
          exact wpAny_pure hq
        | nil =>
          refine ⟨oneType', fun E x y a b Q ha hb hq => by rw [keyLt'_oneType]; exact lt true E x y a b ha hb hq, fun h2 E Q hq => ?_⟩
          obtain ⟨os, o1, o2⟩ := firsts_of (M := model prog w) (E := E) e ht
          rw [keyKind'_eq, List.mapM_toArray, map_eq_pure_bind]
          refine wpAny_bind (wpAny_bind (o2 (wpAny_pure ?_)))
          have ha : (os.toArray.all fun x => x.isSome) = false := by
            rw [List.all_toArray]
            have : (os.map (·.isSome)).all id = false := by rw [o1, List.all_map]; exact nall
            rw [List.all_map] at this
            exact this
          rw [if_neg (by rw [ha]; exact Bool.false_ne_true)]
          have h0 : (os.toArray[0]?.bind id).isSome = false := by
            cases os with
            | nil => cases o1
            | cons o os =>
              rw [List.map_cons, List.map_cons] at o1
              have := (List.cons.inj o1).1
              simpa using this
          rw [if_neg (by rw [h0]; exact Bool.false_ne_true)]
          rw [oneTypeOnly'_eq, List.mapM_toArray, map_eq_pure_bind]
          refine wpAny_bind (wpAny_bind (wpAny_bind (kas_mapM (r := Value.type "tuple") _ (fun v hv Q' hq => (T1 v hv).here hq) (wpAny_pure ?_))))
          have hall : ((vs.map fun _ => Value.type "tuple").toArray.all fun x => x == Value.type "tuple") = true := by
            simp only [List.all_toArray, List.all_map, List.all_eq_true]
            intro _ _
            exact beq_self_eq_true _
          have h00 : (vs.map fun _ => Value.type "tuple").toArray[0]? = some (Value.type "tuple") := by
            cases vs with
            | nil => simp at h2
            | cons v vs => simp
          rw [h00]
          simp only [hall, if_true]
          exact wpAny_pure (wpAny_pure hq)
end
end PD
namespace PD
open PySem PySem.W PySem.Calls PyProof.Rows PySem.SeqAt L2
end PD
namespace PD
open PySem L2 PyProof.Rows PySem.Spec
open Evl (Ex)
end PD
namespace PD
open PySem L2 PyProof.Rows PySem.Spec
open Evl (Ex)
end PD
namespace PD
open PySem L2 PyProof.Rows PySem.Spec
open Evl (Ex)
def delS (S : List (Addr × HO)) (H : Hp) : Hp := fun b => if b ∈ S.map (·.1) then none else H b
section
variable {S : List (Addr × HO)} {H H' : Hp} {b : Addr} {u : HO}
theorem delS_out (h : b ∉ S.map (·.1)) : delS S H b = H b := if_neg h
end
end PD
namespace PD
open PySem L2 PyProof.Rows PySem.Spec
open Evl (Ex)
structure LamG (P : Program) (w : World) (K : PySem.W.Frag) (mg : Str → Option Value) (base : Heap) (k : Nat) (path : List Nat) (nP : Nat) (sp : Sp) : Prop where
  go : ∀ (A : Around) (outer : List Env) (s : Shared) (H : Hp) (f : Addr) (C : CloF) (us : List Value) (vs cvs : List V) (Q : VK) (E : XK), A.guards = some [] → Room k A → Env0 P w K mg base A outer s H → s.heap.get? f = some C.obj → (∀ q ∈ C.dfl, s.heap.get? q.1 = some q.2) → s.heap.CodeRec (.ref C.c) C.q → CloOk P path C cvs →
    (∀ (i : Nat) (x : Str × Addr) (o : Obj), C.cl[i]? = some x → C.os[i]? = some o → s.heap.get? x.2 = some o ∧ H x.2 = none) → Vals vs us → vs.length = nP → sp (vs ++ cvs) H Q E →
    codeAny (model P w) A (.call (.ref f) ⟨us, []⟩) (CR (L2.CX P w) outer P w H s Q E) s
section
variable {P : Program} {w : World} {K : PySem.W.Frag} {mg : Str → Option Value} {base : Heap} {k j : Nat} {path : List Nat} {nP : Nat} {sp sp' : Sp}
theorem LamG.mono (G : LamG P w K mg base j path nP sp) (h : j ≤ k) : LamG P w K mg base k path nP sp :=
  ⟨fun A outer s H f C us vs cvs Q E hg hr => G.go A outer s H f C us vs cvs Q E hg (hr.mono h)⟩
theorem LamG.imp (G : LamG P w K mg base k path nP sp) (h : ∀ vs H Q E, sp' vs H Q E → sp vs H Q E) : LamG P w K mg base k path nP sp' :=
  ⟨fun A outer s H f C us vs cvs Q E hg hr he ho hdf hc hC hz hv hl hs => G.go A outer s H f C us vs cvs Q E hg hr he ho hdf hc hC hz hv hl (h _ _ _ _ hs)⟩
/-- its words, as a made function's -/
@[reducible] def CloF.nf (C : CloF) : NdefX.NF := ⟨"<lambda>", C.q, C.params, [], C.scope, C.cl, C.c⟩
end
end PD
namespace PD
open PySem L2 PyProof.Rows PySem.Spec
open Evl (Ex)
def tagC (κ : Nat) : D → D → Bool
  | .list [], .tuple (.int i :: _) => decide (i = (κ : Int))
  | .list [], .tuple [] => decide (κ = 0)
  | _, _ => false
mutual
def noC (κ : Nat) : D → Bool
  | .list ds => noCs κ ds
  | .tuple ds => noCs κ ds
  | .dict ps => noCk κ ps
  | .none | .bool _ | .int _ | .str _ => true
def noCs (κ : Nat) : List D → Bool
  | [] => true
  | d :: ds => noC κ d && noCs κ ds
def noCk (κ : Nat) : List (D × D) → Bool
  | [] => true
  | (k, v) :: ps => noC κ k && noC κ v && !tagC κ k v && noCk κ ps
end
section
variable {K : Fr0} {G G' : Hp} {κ : Nat}
/-- all but cells of the mark is seen there too -/
def ButC (κ : Nat) (G G' : Hp) : Prop := ∀ a u, G a = some u → (∀ o x, o.data = .cell x → u ≠ CeO κ o) → G' a = some u
theorem butc_l {a : Addr} {xs : List V} (b : ButC κ G G') (h : SqL K.f G a xs) : SqL K.f G' a xs := by
  rcases h with (h | ⟨o, h⟩) | h
  · exact .inl (.inl (b _ _ h fun o x _ z => by unfold CeO at z; cases z))
  · exact .inl (.inr ⟨o, b _ _ h fun o x _ z => by unfold CeO at z; cases z⟩)
  · exact .inr h
theorem butc_t {a : Addr} {xs : List V} (b : ButC κ G G') (h : SqT K.f G a xs) : SqT K.f G' a xs := by
  rcases h with (h | ⟨o, h⟩) | h
  · exact .inl (.inl (b _ _ h fun o x _ z => by unfold CeO at z; cases z))
  · exact .inl (.inr ⟨o, b _ _ h fun o x _ z => by unfold CeO at z; cases z⟩)
  · exact .inr h
theorem cells_mem {C : CloF} {k : Nat} {q : Addr × HO} (h : q ∈ C.cells k) : ∃ (i : Nat) (x : Str × Addr) (o : Obj), C.cl[i]? = some x ∧ C.os[i]? = some o ∧ q = (x.2, CeO k o) := by
  unfold CloF.cells at h
  obtain ⟨i, hi⟩ := List.mem_iff_getElem?.mp h
  rw [List.getElem?_zipWith] at hi
  cases e1 : C.cl[i]? with
  | none => rw [e1] at hi; cases hi
  | some x =>
    cases e2 : C.os[i]? with
    | none => rw [e1, e2] at hi; cases hi
    | some o =>
      rw [e1, e2] at hi
      cases hi
      exact ⟨i, x, o, e1, e2, rfl⟩
theorem tag_head {path : List Nat} (h : tagC κ (.list []) (.tuple (path.map fun n => .int (n : Nat))) = false) : path.headD 0 ≠ κ := by
  cases path with
  | nil =>
    have h : decide (κ = 0) = false := h
    intro e
    have e : (0 : Nat) = κ := e
    rw [← e] at h
    cases h
  | cons n r =>
    have h : decide (((n : Nat) : Int) = (κ : Int)) = false := h
    intro e
    have e : n = κ := e
    rw [e] at h
    simp at h
mutual
theorem rp_butc (b : ButC κ G G') : ∀ {v : V} {d : D}, noC κ d = true → Rp K G v d → Rp K G' v d
  | _, _, _, .non => .non
  | _, _, _, .bl b => .bl b
  | _, _, _, .int i => .int i
  | _, _, _, .str x => .str x
  | _, _, c, .lst hs ha => .lst (butc_l b hs) (rpa_butc b (by simpa [noC] using c) ha)
  | _, _, c, .tup hs ha => .tup (butc_t b hs) (rpa_butc b (by simpa [noC] using c) ha)
  | _, _, c, .dct hs ha => .dct (b _ _ hs fun o x _ z => by unfold CeO KdO at z; cases z) (rpk_butc b (by simpa [noC] using c) ha)
  | _, _, c, .dctN hs ha => .dctN (b _ _ hs fun o x _ z => by unfold CeO NdO at z; cases z) (rpn_butc b (by simpa [noC] using c) ha)
  | _, _, c, .obj hs ha => .obj (b _ _ hs fun o x _ z => by unfold CeO at z; cases z) (rpf_butc b (by
      simp only [noC, noCk, Bool.and_eq_true] at c
      exact c.2) ha)
  | _, _, c, .er0 hs h1 h2 h3 => .er0 (b _ _ hs fun o x hx z => by
      unfold CeO ErO at z
      cases z
      obtain ⟨vs, e⟩ := h3
      rw [e] at hx
      cases hx) h1 h2 h3
  | _, _, c, .er1 hs h1 h2 h3 hd ha => .er1 (b _ _ hs fun o x hx z => by
      unfold CeO ErO at z
      cases z
      obtain ⟨vs, e⟩ := h3
      rw [e] at hx
      cases hx) h1 h2 h3 (b _ _ hd fun o x _ z => by unfold CeO at z; cases z) (rpf_butc b (by
      simp only [noC, noCk, Bool.and_eq_true] at c
      exact c.2) ha)
  | _, _, c, .clo h0 hs hc hq ha => by
      simp only [noC, noCk, Bool.and_eq_true, Bool.not_eq_true'] at c
      refine .clo h0 (b _ _ hs fun o x _ z => by unfold CeO ExO at z; cases z) (b _ _ hc fun o x hx z => ?_) (fun q hm => b _ _ (hq q hm) fun o x _ z => ?_) (rpa_butc b c.2.1.1.2 ha)
      · obtain ⟨vs, t, e, _⟩ := h0.code
        unfold CeO at z
        cases z
        rw [e] at hx
        cases hx
      · rcases List.mem_append.mp hm with hm | hm
        · obtain ⟨i, y, o', _, _, e⟩ := cells_mem hm
          rw [e] at z
          unfold CeO at z
          simp only [HO.frz.injEq, HO.own.injEq] at z
          exact tag_head c.1.2 z.2
        · obtain ⟨y, _, rfl⟩ := List.mem_map.mp hm
          unfold CeO ExO at z
          cases z
theorem rpa_butc (b : ButC κ G G') : ∀ {vs : List V} {ds : List D}, noCs κ ds = true → RpAll K G vs ds → RpAll K G' vs ds
  | _, _, _, .nil => .nil
  | _, _, c, .cons h1 h2 => by
    simp only [noCs, Bool.and_eq_true] at c
    exact .cons (rp_butc b c.1 h1) (rpa_butc b c.2 h2)
theorem rpk_butc (b : ButC κ G G') : ∀ {vs : List (Key × V)} {ds : List (D × D)}, noCk κ ds = true → RpKv K G vs ds → RpKv K G' vs ds
  | _, _, _, .nil => .nil
  | _, _, c, .cons h1 h2 h3 => by
    simp only [noCk, Bool.and_eq_true] at c
    exact .cons (rp_butc b c.1.1.1 h1) (rp_butc b c.1.1.2 h2) (rpk_butc b c.2 h3)
theorem rpn_butc (b : ButC κ G G') : ∀ {vs : List (NestedKey × KA × V)} {ds : List (D × D)}, noCk κ ds = true → RpN K G vs ds → RpN K G' vs ds
  | _, _, _, .nil => .nil
  | _, _, c, .cons h0 hd h1 h2 h3 => by
    simp only [noCk, Bool.and_eq_true] at c
    exact .cons h0 hd (rp_butc b c.1.1.1 h1) (rp_butc b c.1.1.2 h2) (rpn_butc b c.2 h3)
theorem rpf_butc (b : ButC κ G G') : ∀ {vs : List (Str × V)} {ds : List (D × D)}, noCk κ ds = true → RpF K G vs ds → RpF K G' vs ds
  | _, _, _, .nil => .nil
  | _, _, c, .cons h1 h2 => by
    simp only [noCk, Bool.and_eq_true] at c
    exact .cons (rp_butc b c.1.1.2 h1) (rpf_butc b c.2 h2)
end
end
/-- cells with a mark -/
def CeM (κ : Nat) (S : List (Addr × HO)) : Prop := ∀ q ∈ S, ∃ (o : Obj) (x : Option Value), q.2 = CeO κ o ∧ o.data = .cell x
def okC (κ : Nat) : Sl → Bool
  | .d x => noC κ x
  | .no | .st | .raw _ => true
  | .own _ | .exc _ _ _ | .err _ _ => false
section
variable {K : Fr0} {M : Mk0} {P : Option Addr} {F : Hp} {L L2' : List Addr} {ρ : Rho} {σ : L2.St} {H H2 : Hp} {S : List (Addr × HO)} {κ n : Nat}
theorem butc_del (hS : CeM κ S) (hH : ∀ q ∈ S, H q.1 = some q.2) : ButC κ (hide L H) (hide L (delS S H)) := fun a u h nc => by
  obtain ⟨h1, h2⟩ := hide_some.mp h
  refine hide_some.mpr ⟨h1, ?_⟩
  rw [delS_out fun z => ?_]
  · exact h2
  · obtain ⟨q, hq, rfl⟩ := List.mem_map.mp z
    obtain ⟨o, x, e, ed⟩ := hS q hq
    rw [hH q hq, e] at h2
    exact nc o x ed (Option.some.inj h2).symm
/-- seen cells go -/
theorem R.del (r : R K M P F L ρ σ H) (hS : CeM κ S) (hH : ∀ q ∈ S, H q.1 = some q.2 ∧ q.1 ∉ L) (hc : ρ.sl.all (okC κ) = true) : R K M P F L ρ σ (delS S H) := by
  have inL : ∀ {a : Addr}, a ∈ L → a ∉ S.map (·.1) := fun {a} ha z => by
    obtain ⟨q, hq, rfl⟩ := List.mem_map.mp z
    exact (hH q hq).2 ha
  have bc := butc_del (L := L) hS fun q hq => (hH q hq).1
  have ok : ∀ {i : Nat} {s : Sl}, ρ.sl[i]? = some s → okC κ s = true := fun {i s} h => List.all_eq_true.mp hc s (List.mem_of_getElem? h)
  have noOwn : ∀ {i : Nat} {xs : Ow}, ρ.sl[i]? ≠ some (.own xs) := fun {i xs} h => by cases ok h
  refine ⟨r.len, fun i s o h1 h2 => ?_, fun a o h => ?_, fun a h => ?_, fun i j xs ys l _ h => absurd h noOwn, fun i xs l h => absurd h noOwn, fun p hp => ?_, fun t ht => ?_, fun i _ _ _ _ h => absurd h noOwn⟩
  · have q := r.sl i s o h1 h2
    have c := ok h1
    cases s with
    | no => trivial
    | d x =>
      obtain ⟨v, h3, h4⟩ := q
      exact ⟨v, h3, rp_butc bc c h4⟩
    | own xs => cases c
    | st => exact q
    | raw v => exact q
    | exc a d fl => cases c
    | err C fl => cases c
  · obtain ⟨f1, f2⟩ := r.fr a o h
    exact ⟨by rw [delS_out (inL f2)]; exact f1, f2⟩
  · obtain ⟨o, q⟩ := r.tr a h
    exact ⟨o, by rw [delS_out (inL h)]; exact q⟩
  · obtain ⟨A, a1, a2, a3⟩ := r.m p hp
    exact ⟨A, M.loc (fun a ha o q => by rw [delS_out (inL (a2 a ha).1)]; exact q) a1, a2, fun i xs l h => absurd h noOwn⟩
  · obtain ⟨t1, t2, ps, t3, t4, t5⟩ := r.tb t ht
    refine ⟨t1, t2, ps, by rw [delS_out (inL t2)]; exact t3, t4, fun pos cv hcv => ?_⟩
    obtain ⟨c, oc, vs, tk, e1, e2, e3, e4⟩ := t5 pos cv hcv
    refine ⟨c, oc, vs, tk, e1, bc _ _ e2 fun o x hx z => ?_, e3, e4⟩
    unfold CeO at z
    cases z
    rw [e3] at hx
    cases hx
end
end PD
namespace PD
open PySem L2 PyProof.Rows PySem.Spec
open Evl (Ex)
/-- what the callers of lambdas know of one: where it stands, how many arguments, with what it captured; its value, what it raises -/
structure LReg where
  path : List Nat
  nP : Nat
  n : Nat
  V : FE
  U : FX
structure LReg.Mono (r : LReg) : Prop where
  v : ∀ ρ k k', (∀ d ρ', k d ρ' → k' d ρ') → r.V ρ k → r.V ρ k'
  u : ∀ ρ k k', (∀ c fl ρ', k c fl ρ' → k' c fl ρ') → r.U ρ k → r.U ρ k'
def LamsG (P : Program) (w : World) (K : PySem.W.Frag) (mg : Str → Option Value) (base : Heap) (k : Nat) (M : Mk0) (Reg : List LReg) : Prop := ∀ r ∈ Reg, r.Mono ∧ LamG P w K mg base k r.path r.nP (spX ⟨K, w, P⟩ M r.n r.V r.U)
theorem LamsG.mono {P : Program} {w : World} {K : PySem.W.Frag} {mg : Str → Option Value} {base : Heap} {j k : Nat} {M : Mk0} {Reg : List LReg} (G : LamsG P w K mg base j M Reg) (h : j ≤ k) : LamsG P w K mg base k M Reg := fun r hr => ⟨(G r hr).1, (G r hr).2.mono h⟩
end PD
namespace PD
open PySem L2 PyProof.Rows PySem.Spec
open Evl (Ex)
section
variable {X : Cx} {pins : List (Addr × Obj)} {σ : L2.St} {H : Hp} {s : Shared} {M : Mk0} {P : Option Addr} {F : Hp} {L : List Addr} {ρ : Rho}
theorem exo_ok {a : Addr} {o : Obj} {H : Hp} {h : Heap} (e : h.get? a = some o) : ObjOk X.prog X.w H h a (ExO a o) := ⟨e, ⟨o, e⟩, fun h1 h2 z st => st _ z⟩
end
end PD
namespace PD
open PySem L2 PyProof.Rows PySem.Spec
open Evl (Ex)
structure Hot (X : Cx) (path : List Nat) (scope : Scope) (G : Hp) (fa : Addr) (C : CloF) : Prop where
  here : ∃ lpos, lamAt X.prog path = some (.Lambda C.params C.body C.scope lpos)
  sc : C.scope = scope
  cl : C.cl = cloFrom X.env.cells C.scope.names []
  obj : G fa = some (ExO fa C.obj)
  cod : G C.c = some (CeO 0 C.oc)
  code : ∃ (vs : Array Value) (t : Tok), C.oc.data = .fields vs ∧ vs[1]? = some (.str C.q t)
  dfs : ∀ q ∈ C.dfs, G q.1 = some q.2
  dflt : (C.params.defaults = [] ∧ C.dfl = [] ∧ C.doc = .none) ∨ (C.params.defaults ≠ [] ∧ ∃ t u, C.dfl = [(t, PySem.W.kdv_tup [u])] ∧ RelV (.int 0) u)
theorem Hot.ex {X : Cx} {path : List Nat} {scope : Scope} {G G' : Hp} {fa : Addr} {C : CloF} (h : Hot X path scope G fa C) (e : Ex G G') : Hot X path scope G' fa C := ⟨h.here, h.sc, h.cl, e _ _ h.obj, e _ _ h.cod, h.code, fun q hq => e _ _ (h.dfs q hq), h.dflt⟩
end PD
namespace PD
open PySem L2 PyProof.Rows PySem.Spec
open Evl (Ex)
end PD
namespace PD
open PySem L2 PyProof.Rows PySem.Spec
open Evl (Ex)
structure LamI where
  path : List Nat
  scope : Scope
  js : List Nat
/-- the lambdas made so far, in a list that is held -/
def HotS (X : Cx) (G : Hp) : List LamI → List V → Prop
  | [], vs => vs = []
  | l :: ls, vs => ∃ f C r, vs = .ref f :: r ∧ Hot X l.path l.scope G f C ∧ HotS X G ls r
theorem HotS.ex {X : Cx} {G G' : Hp} (e : Ex G G') : ∀ {ls : List LamI} {vs : List V}, HotS X G ls vs → HotS X G' ls vs
  | [], _, h => h
  | _ :: _, _, ⟨f, C, r, h1, h2, h3⟩ => ⟨f, C, r, h1, h2.ex e, HotS.ex e h3⟩
theorem HotS.len {X : Cx} {G : Hp} : ∀ {ls : List LamI} {vs : List V}, HotS X G ls vs → vs.length = ls.length
  | [], _, h => by cases h; rfl
  | _ :: _, _, ⟨f, C, r, h1, _, h3⟩ => by subst h1; simp [HotS.len h3]
/-- what is known of each of the lambdas by the text -/
structure LamI.Ok (l : LamI) (κ : Nat) (N : List Str) (sc : Scope) : Prop where
  head : l.path.headD 0 = κ
  free : ∀ y ∈ l.scope.names, y.2 = .free → sc.names.lookup y.1 = some .cell ∨ sc.names.lookup y.1 = some .free
  js : l.js.map (fun j => N[j]?) = (frees l.scope).map some
  nd : (frees l.scope).Nodup
end PD
namespace PD
open PySem L2 PyProof.Rows PySem.Spec
open Evl (Ex)
end PD
namespace PD
open PySem L2 PyProof.Rows PySem.Spec
open Evl (Ex)
theorem tuple_mul1 (l : Addr) (items : Array Value) (n : Nat) (dd : Option Addr) (sl : Array (Option Value)) (u : Tok) :
    Meets (Builtin.«tuple.__mul__» ⟨[.ref l, .int 1 u], []⟩) (fun _ R s => s.heap.get? l = some { cls := .type "tuple", dict := dd, data := .seq items n, slots := sl } ∧ R (.ok (.ret (Value.ref l))) s) :=
  .of_wp fun prog w A R s h => by
    obtain ⟨hp, g, d, tk, os⟩ := s
    obtain ⟨hl, h⟩ := h
    have f1 := AutoSeq1.idx_int
    have c0 : (decide ((1 : Int) < -(2 ^ 63)) || decide ((1 : Int) ≥ 2 ^ 63)) = false := by decide
    have c1 : (items.isEmpty || (1 : Int) == 1) = true := by simp
    wp_walk using wpAny_loadPart' hl
    repeat (first
      | (refine wpAny_ite_false (decide_eq_false (by rw [c0]; exact Bool.false_ne_true)) ?_; wp_walk using wpAny_loadPart' hl)
      | (refine wpAny_ite_true (decide_eq_true c1) ?_; wp_walk using wpAny_loadPart' hl))
    exact ⟨_, rfl, h⟩
def rRep1 (K : PySem.W.Frag) : R2 := fun x y H Q => ∃ l xs, x = .ref l ∧ y = .int 1 ∧ SqT K H l xs ∧ Q (.ref l) H
def rRepLA (K : PySem.W.Frag) : R2 := fun x y H Q => ∃ l k xs, x = .ref l ∧ y = .int k ∧ SqL K H l xs ∧ -(2 ^ 63) ≤ k ∧ k < 2 ^ 63 ∧ xs.length * k.toNat ≤ sizeLine ∧ ∀ p, H p = none → Q (.ref p) (upd H p (.lst (List.replicate k.toNat xs).flatten))
section
variable {K : Fr0} {X : Cx}
theorem op_rep1 : OpR X (binaryOp .Mult) (rRep1 X.K) := by
  intro pins s σ H x y v u Q I rx ry h
  obtain ⟨l, xs, rfl, rfl, hT, q⟩ := h
  cases rx
  obtain ⟨t, rfl⟩ := ry
  obtain ⟨its, r, ⟨⟨cls, dd, data, sl⟩, ho, hc, n, hd⟩, hs⟩ := I.tuple hT
  simp only at hc hd
  subst hc hd
  refine wpAny_binaryOp_repeat_ref (T := "tuple") (U := "int") (by decide) ⟨_, ho, rfl⟩ (fun s' => typeIs_int s' 1 t) noFill_tuple_mul F.fills_int_mul F.slot_int_rmul repeat_tuple F.slot_int_index.lookup
    (call_meets F.slot_int_rmul (typeIs_int s 1 t) F.entry_int_rmul (F.args_int_rmul_2 _ _) (int_rmul_tuple 1 t l its.toArray n dd sl)
      ⟨ho, rfl, ⟨_, ho, rfl⟩, call_meets F.slot_tuple_mul ⟨_, ho, rfl⟩ F.entry_tuple_mul (F.args_tuple_mul_2 _ _) (tuple_mul1 l its.toArray n dd sl t) ⟨ho, ?_⟩⟩)
  exact ⟨.ref l, H, I, rfl, q⟩
theorem op_repLA : OpR X (binaryOp .Mult) (rRepLA X.K) := by
  intro pins s σ H x y v u Q I rx ry h
  obtain ⟨l, k, xs, rfl, rfl, hL, h1, h2, hz, q⟩ := h
  cases rx
  obtain ⟨t, rfl⟩ := ry
  obtain ⟨its, r, ⟨⟨c1, d1, w1, s1⟩, n, ho, e1, e2, e3⟩, _⟩ := I.list hL
  simp only at e1 e2 e3
  subst e1 e2 e3
  have hl : its.length = xs.length := r.length.symm
  have hlen : its.toArray.size * k.toNat ≤ sizeLine := by rw [List.size_toArray, hl]; exact hz
  have hcap : ¬ its.toArray.size * k.toNat > (2 ^ 63 - 1) / 8 := by
    have : (sizeLine : Nat) ≤ (2 ^ 63 - 1) / 8 := by decide
    omega
  have hfit : ¬ (!Builtin.List.listFitsIndex k) = true := by
    rw [fitsIndex_both h1 h2]
    exact Bool.false_ne_true
  have hlong : ¬ Builtin.List.listTooLong (its.toArray.size * k.toNat) = true := by
    rw [notLongL hlen]
    exact Bool.false_ne_true
  have hnew : List.foldl (fun x1 x2 => x1 ++ x2) #[] (List.replicate (if its.toArray.isEmpty = true then 0 else k.toNat) its.toArray) = (List.replicate k.toNat its).flatten.toArray := by
    rw [size_rep]
    cases its with
    | nil => simp
    | cons a r' => rw [if_neg (by simp)]
  refine wpAny_binaryOp_repeat_ref (T := "list") (U := "int") (by decide) ⟨_, ho, rfl⟩ (fun s' => typeIs_int s' k t) noFill_list_mul F.fills_int_mul F.slot_int_rmul repeat_list F.slot_int_index.lookup
    (call_meets F.slot_int_rmul (typeIs_int s k t) F.entry_int_rmul (F.args_int_rmul_2 _ _) (lm_int_rmul_list_any k t l its.toArray n none s1)
      ⟨ho, rfl, ⟨_, ho, rfl⟩, call_meets F.slot_list_mul ⟨_, ho, rfl⟩ F.entry_list_mul (F.args_list_mul_2 _ _) (lm_list_mul_any l its.toArray n none s1 k t hfit hcap hlong) ⟨ho, ?_⟩⟩)
  rw [hnew]
  exact ⟨.ref _, _, I.lnew (t' := s.toks) (r.rep k.toNat) (by rw [PyProof.Rows.lm_len_rep_flat, Nat.mul_comm]; exact hz), rfl, q _ I.fresh⟩
def gMulX : D → D → Option D
  | .tuple xs, .int k => if k = 1 then some (.tuple xs) else gMul (.tuple xs) (.int k)
  | .list xs, .int k => if 0 ≤ k ∧ k ≤ 1000 ∧ xs.length ≤ 1000 then some (.list (List.replicate k.toNat xs).flatten) else none
  | x, y => gMul x y
def rMulX (K : PySem.W.Frag) : R2 := opOr (rMulA K) (opOr (rRep1 K) (rRepLA K))
theorem op_mulX : OpR X (binaryOp .Mult) (rMulX X.K) := or_op op_mulA (or_op op_rep1 op_repLA)
theorem rd_mulX : R2D K (rMulX K.f) gMulX := by
  intro L H x y dx dy d Q tr hx hy hg k
  unfold gMulX at hg
  split at hg
  · split at hg
    · cases hg
      rename_i xs kk hz
      obtain ⟨a, vs, rfl, h1, h2⟩ := rp_tuple hx
      refine .inr (.inl ⟨a, vs, rfl, by rw [rp_int hy, hz], h1, k _ _ (Ex.refl _) hx⟩)
    · exact .inl (rd_mul L H x y _ _ d Q tr hx hy hg k)
  · split at hg
    · cases hg
      rename_i xs kk hz
      obtain ⟨a, vs, rfl, h1, h2⟩ := rp_list hx
      have e1 := dpa_len h2
      refine .inr (.inr ⟨a, kk, vs, rfl, rp_int hy, h1, by omega, by omega, ?_, fun p hp => k _ _ (Ex.new hp) (new_lst tr hp (rp_rep h2 _))⟩)
      rw [sizeLine_eq]
      have a1 : vs.length * kk.toNat ≤ 1000 * 1000 := Nat.mul_le_mul (by omega) (by omega)
      omega
    · cases hg
  · exact .inl (rd_mul L H x y _ _ d Q tr hx hy hg k)
end
end PD
namespace PD
open PySem L2 PyProof.Rows PySem.Spec TL
open Evl (Ex)
structure Pg (L : Nat) (x : Str) : Prop where
  low : ∀ c ∈ tl x, c < 128
  len : x.length ≤ L
theorem Pg.mono {L L' : Nat} {x : Str} (h : Pg L x) (hl : L ≤ L') : Pg L' x := ⟨h.low, Nat.le_trans h.len hl⟩
theorem Pg.mem {L : Nat} {x y : Str} (h : Pg L x) (hy : y.length ≤ L) (hc : ∀ c ∈ tl y, c ∈ tl x) : Pg L y := ⟨fun c z => h.low c (hc c z), hy⟩
end PD
namespace PD
open PySem L2 PyProof.Rows PySem.Spec TL
open Evl (Ex)
end PD
namespace PD
open PySem L2 PyProof.Rows PySem.Spec
open Evl (Ex)
end PD
namespace PD
open PySem L2 PyProof.Rows PySem.Spec
open Evl (Ex)
end PD
namespace PySem
end PySem
namespace PD
open PySem L2 PyProof.Rows PySem.Spec
open Evl (Ex)
end PD
namespace PD
open PySem L2 PyProof.Rows PySem.Spec
open Evl (Ex)
section
variable {X : Cx} {M : Mk0} {pos dp : Pos} {keys : List (Option Expr)} {values : List Expr} {fp : FP}
def fsDispO (i : Nat) (kd : Bool) (fp : FP) : FS := fun ρ P => fp ρ fun ps ρ1 => ∃ out, putAll kd [] ps = some out ∧ ps.length ≤ 1000000 ∧ P.nx (ρ1.set i (.own (.d kd out)))
end
end PD
namespace PD
open PySem L2 PyProof.Rows PySem.Spec
end PD
namespace PD
open PySem L2 PyProof.Rows PySem.Spec
end PD
namespace PD
open PySem L2 PyProof.Rows PySem.Spec
open Evl (Ex)
end PD
namespace PD
open PySem L2 PyProof.Rows PySem.Spec
open Evl (Ex)
section
variable {P : Program} {w : World} {K : PySem.W.Frag} {mg : Str → Option Value} {base : Heap} {k : Nat} {path : List Nat} {sp : Sp} {M : Mk0}
theorem bare_zero {ρ : Rho} (hb : Bare ρ) : Bare ⟨.d (.int 0) :: ρ.sl, ρ.n⟩ := fun i xs h => by
  cases i with
  | zero => cases h
  | succ i => exact hb i xs h
theorem R.zero {K : Fr0} {P : Option Addr} {F : Hp} {L : List Addr} {ρ : Rho} {H : Hp} {vs : List V} (r : R K M P F L ρ (vs.map some) H) (hb : Bare ρ) : R K M P F L ⟨.d (.int 0) :: ρ.sl, ρ.n⟩ ((V.int 0 :: vs).map some) H := by
  have bare := bare_zero hb
  refine ⟨?_, fun i s o h1 h2 => ?_, r.fr, r.tr, fun a b xs ys l _ h => absurd h (bare a xs), fun i xs l h => absurd h (bare i xs), fun p hp => ?_, r.tb, fun i _ _ _ _ h => absurd h (bare i _)⟩
  · have := r.len
    rw [List.length_map] at this
    simp [this]
  · cases i with
    | zero =>
      cases h1
      cases h2
      exact ⟨.int 0, rfl, .int 0⟩
    | succ i => exact r.sl i s o h1 (by simpa using h2)
  · obtain ⟨A, a1, a2, _⟩ := r.m p hp
    exact ⟨A, a1, a2, fun i xs l h => absurd h (bare i xs)⟩
end
end PD
namespace PD
open PySem L2 PyProof.Rows PySem.Spec
open Evl (Ex)
mutual
def emDict : D → Bool
  | .none | .bool _ | .int _ | .str _ => true
  | .list ds | .tuple ds => emDicts ds
  | .dict ps => ps.isEmpty
def emDicts : List D → Bool
  | [] => true
  | d :: ds => emDict d && emDicts ds
end
section
variable {X : Cx} {pins : List (Addr × Obj)} {σ : L2.St} {H : Hp} {s : Shared}
/-- the object of an empty dict -/
theorem rp_dict0 (I : Inv X pins σ H s) {v : V} {u : Value} (h : Rp X.k0 H v (.dict [])) (r : RelV v u) : ∃ a o es n, u = .ref a ∧ (a == sysModules) = false ∧ s.heap.get? a = some o ∧ o.cls = .type "dict" ∧ o.data = .dict es n ∧ es.toList = [] := by
  cases h with
  | dct h1 h2 =>
    cases h2
    cases r
    have g : _ ∧ KdF X.w _ _ [] := (I.hok _ _ h1).1
    obtain ⟨g1, g2, g3, g4, es, ep, vs, g5, g6, g7, g8, g9⟩ := g
    cases g9
    exact ⟨_, _, es, ep, rfl, g2, g1, g3.1, g5, List.length_eq_zero_iff.mp g7.length⟩
  | dctN h1 h2 =>
    cases h2
    cases r
    have g : _ ∧ NdF X.w _ _ [] := (I.hok _ _ h1).1
    obtain ⟨g1, g2, g3, g4, g5, es, ep, us, g6, g7, g8⟩ := g
    exact ⟨_, _, es, ep, rfl, g2, g1, g3.1, g6, g8⟩
end
def fitsE (d : D) : Bool := d.showable && emDict d && decide (d.shown.length ≤ sizeLine) && decide (d.depth ≤ 60)
def gReprE (d : D) : Option D := if fitsE d = true then some (.str d.shown) else none
end PD
namespace PD
open PySem L2 PyProof.Rows PySem.Spec
open Evl (Ex)
end PD
namespace GM
open PD PySem
abbrev tupI (ns : List Int) : D := .tuple (ns.map .int)
abbrev tupT (T : List (List Int)) : D := .tuple (T.map tupI)
abbrev wishD (q : Int) (T : List (List Int)) (G : List Int) : D := .tuple [.int q, tupT T, tupI G]
abbrev kindD (h a : Int) (lo : List Int) : D := .tuple [.int h, .int a, tupI lo]
structure WOK (q : Int) (T : List (List Int)) (G : List Int) : Prop where
  q1 : 1 ≤ q
  q4 : q ≤ 4
  t1 : 1 ≤ T.length
  t6 : T.length ≤ 6
  row : ∀ r ∈ T, (r.length : Int) = q ∧ ∀ x ∈ r, 0 ≤ x ∧ x ≤ (T.length : Int) - 1
  gs : G.Pairwise (· < ·)
  gr : ∀ x ∈ G, 0 ≤ x ∧ x ≤ (T.length : Int) - 1
  g0 : 0 ∈ G
structure KOK (q h a : Int) (lo : List Int) : Prop where
  h0 : 0 ≤ h
  h3 : h ≤ 3
  a0 : 0 ≤ a
  a2 : a ≤ 2
  ls : lo.Pairwise (· < ·)
  lr : ∀ x ∈ lo, 0 ≤ x ∧ x ≤ q - 1
theorem asc_len : ∀ {G : List Int} {lo hi : Int}, G.Pairwise (· < ·) → (∀ x ∈ G, lo ≤ x ∧ x ≤ hi) → (G.length : Int) ≤ max 0 (hi - lo + 1)
  | [], _, _, _, _ => by simp; omega
  | x :: xs, lo, hi, h, hr => by
    have h' := List.pairwise_cons.mp h
    have hx := hr x List.mem_cons_self
    have := asc_len (lo := x + 1) (hi := hi) h'.2 fun y hy => ⟨by have := h'.1 y hy; omega, (hr y (List.mem_cons_of_mem _ hy)).2⟩
    rw [List.length_cons]
    omega
/-- a step, a way -/
def stp (T : List (List Int)) (s d : Int) : Int := (T.getD s.toNat []).getD d.toNat 0
def walkT (T : List (List Int)) (s : Int) (r : List Int) : Int := r.foldl (stp T) s
theorem walk_cons (T : List (List Int)) (s d : Int) (r : List Int) : walkT T s (d :: r) = walkT T (stp T s d) r := rfl
abbrev St (T : List (List Int)) (s : Int) : Prop := 0 ≤ s ∧ s ≤ (T.length : Int) - 1
abbrev Dd (q : Int) (d : Int) : Prop := 0 ≤ d ∧ d ≤ q - 1
theorem WOK.at {q : Int} {T : List (List Int)} {G : List Int} (h : WOK q T G) {s : Int} (hs : St T s) : ∃ (i : Nat) (hi : i < T.length), s = i ∧ T.getD s.toNat [] = T[i] ∧ (T[i].length : Int) = q ∧ ∀ x ∈ T[i], St T x := by
  obtain ⟨i, rfl⟩ := Int.eq_ofNat_of_zero_le hs.1
  have hi : i < T.length := by have := hs.2; omega
  have hr := h.row T[i] (List.getElem_mem hi)
  exact ⟨i, hi, rfl, by simp [List.getD, hi], hr.1, hr.2⟩
theorem WOK.stp {q : Int} {T : List (List Int)} {G : List Int} (h : WOK q T G) {s d : Int} (hs : St T s) (hd : Dd q d) : St T (stp T s d) := by
  obtain ⟨i, hi, _, e, hl, hx⟩ := h.at hs
  obtain ⟨j, rfl⟩ := Int.eq_ofNat_of_zero_le hd.1
  have hj : j < T[i].length := by have := hd.2; omega
  unfold GM.stp
  rw [e]
  simp [List.getD, hj]
  exact hx _ (List.getElem_mem hj)
theorem WOK.walk {q : Int} {T : List (List Int)} {G : List Int} (h : WOK q T G) : ∀ (r : List Int) {s : Int}, St T s → (∀ d ∈ r, Dd q d) → St T (walkT T s r)
  | [], _, hs, _ => hs
  | d :: r, s, hs, hd => h.walk r (h.stp hs (hd d List.mem_cons_self)) fun x hx => hd x (List.mem_cons_of_mem _ hx)
structure IsLive (T : List (List Int)) (G S : List Int) : Prop where
  asc : S.Pairwise (· < ·)
  rng : ∀ x ∈ S, 0 ≤ x ∧ x ≤ (T.length : Int) - 1
  sup : ∀ x ∈ G, x ∈ S
  clo : ∀ (i : Nat) (h : i < T.length), (∃ b ∈ T[i], b ∈ S) → (i : Int) ∈ S
  min : ∀ A : Int → Prop, (∀ x ∈ G, A x) → (∀ (i : Nat) (h : i < T.length), (∃ b ∈ T[i], A b) → A i) → ∀ x ∈ S, A x
structure Ru where
  q : Int
  T : List (List Int)
  G : List Int
  L : List Int
  h : Int
  a : Int
  lo : List Int
structure RuOK (r : Ru) : Prop where
  w : WOK r.q r.T r.G
  l : IsLive r.T r.G r.L
  k : KOK r.q r.h r.a r.lo
inductive Po where
  | even (s : Int)
  | behind (s : Int) (x : List Int)
  | ahead (s : Int) (t : List Int)
  | off (s : Int)
  deriving DecidableEq
def Po.d : Po → D
  | .even s => .tuple [.str "even", .int s]
  | .behind s x => .tuple [.str "behind", .int s, tupI x]
  | .ahead s t => .tuple [.str "ahead", .int s, tupI t]
  | .off s => .tuple [.str "off", .int s]
/-- all lots of at most so many deeds, with the state to which each leads -/
def tailsFrom (T : List (List Int)) : Nat → Int → List (List Int × Int)
  | 0, s => [([], s)]
  | n + 1, s => ([], s) :: (T.getD s.toNat []).zipIdx.flatMap fun p => (tailsFrom T n p.1).map fun t => ((p.2 : Int) :: t.1, t.2)
def goodTails (T : List (List Int)) (G : List Int) (n : Nat) (s : Int) : List (List Int × Int) := (tailsFrom T n s).filter fun p => decide (p.2 ∈ G)
/-- the order of rows -/
abbrev Lx (x y : List Int) : Prop := x < y
theorem mem_tailsFrom {q : Int} {T : List (List Int)} {G : List Int} (w : WOK q T G) : ∀ (n : Nat) {s : Int} (_ : St T s) {t : List Int} {e : Int}, (t, e) ∈ tailsFrom T n s ↔ t.length ≤ n ∧ (∀ d ∈ t, Dd q d) ∧ e = walkT T s t
  | 0, s, _, t, e => by
    show (t, e) ∈ [([], s)] ↔ _
    rw [List.mem_singleton]
    constructor
    · rintro ⟨⟩
      exact ⟨Nat.le_refl _, fun _ h => (List.not_mem_nil h).elim, rfl⟩
    · rintro ⟨h1, _, h3⟩
      have : t = [] := List.eq_nil_of_length_eq_zero (by omega)
      subst this
      rw [h3]; rfl
  | n + 1, s, hs, t, e => by
    obtain ⟨i, hi, _, eT, hl, hx⟩ := w.at hs
    show (t, e) ∈ ([], s) :: (T.getD s.toNat []).zipIdx.flatMap (fun p => (tailsFrom T n p.1).map fun t => ((p.2 : Int) :: t.1, t.2)) ↔ _
    rw [eT, List.mem_cons, List.mem_flatMap]
    constructor
    · rintro (h | ⟨⟨b, j⟩, hj, h⟩)
      · cases h
        exact ⟨Nat.zero_le _, fun _ h => (List.not_mem_nil h).elim, rfl⟩
      · obtain ⟨⟨u, e'⟩, hu, z⟩ := List.mem_map.mp h
        cases z
        obtain ⟨hjl, ej⟩ := List.mem_zipIdx' hj
        have hb : b = GM.stp T s j := by
          unfold GM.stp
          rw [eT]
          simp [List.getD, hjl]
          exact ej
        have hd : Dd q (j : Int) := ⟨by omega, by omega⟩
        have hsb : St T b := by rw [hb]; exact w.stp hs hd
        obtain ⟨g1, g2, g3⟩ := (mem_tailsFrom w n hsb).mp hu
        refine ⟨by simp; omega, fun d hd' => ?_, by rw [g3, hb]; rfl⟩
        rcases List.mem_cons.mp hd' with z | z
        · rw [z]; exact hd
        · exact g2 d z
    · rintro ⟨h1, h2, h3⟩
      cases t with
      | nil => exact .inl (by rw [h3]; rfl)
      | cons d u =>
        have hd := h2 d List.mem_cons_self
        obtain ⟨j, rfl⟩ := Int.eq_ofNat_of_zero_le hd.1
        have hj : j < T[i].length := by have := hd.2; omega
        have hb : GM.stp T s j = T[i][j] := by
          unfold GM.stp
          rw [eT]
          simp [List.getD, hj]
        refine .inr ⟨(T[i][j], j), List.mem_zipIdx_iff_getElem?.mpr (by simp [hj]), List.mem_map.mpr ⟨(u, e), ?_, rfl⟩⟩
        refine (mem_tailsFrom w n (hx _ (List.getElem_mem hj))).mpr ⟨by simpa using h1, fun d hd => h2 d (List.mem_cons_of_mem _ hd), ?_⟩
        rw [h3, walk_cons, hb]
theorem mem_goodTails {q : Int} {T : List (List Int)} {G : List Int} (w : WOK q T G) {n : Nat} {s : Int} (hs : St T s) {t : List Int} {e : Int} : (t, e) ∈ goodTails T G n s ↔ t.length ≤ n ∧ (∀ d ∈ t, Dd q d) ∧ e = walkT T s t ∧ e ∈ G := by
  unfold goodTails
  rw [List.mem_filter, mem_tailsFrom w n hs]
  simp only [decide_eq_true_eq, and_assoc]
def Ru.tails (r : Ru) (s : Int) : List (List Int × Int) := goodTails r.T r.G r.a.toNat s
def movesOff (r : Ru) (s d : Int) : List (List Int × Po) :=
  if d ∉ r.lo then [([], .off s)] else (r.tails (stp r.T s d)).map fun p => (d :: p.1, .off p.2)
def movesAhead (r : Ru) (s : Int) (sh : List Int) (d : Int) : List (List Int × Po) :=
  if stp r.T s d ∉ r.L then movesOff r (walkT r.T s sh) d else if sh.headD 0 ≠ d then [] else
  let begun := if d ∈ r.lo then sh.tail ++ [d] else sh.tail
  if stp r.T s d ∈ r.G then (if begun ≠ [] then [] else [([], .even (stp r.T s d))]) else
  ((r.tails (stp r.T s d)).filter fun p => decide (p.1.take begun.length = begun)).map fun p => (p.1.drop sh.tail.length, .ahead (stp r.T s d) p.1)
def movesNot (r : Ru) (s : Int) (x : List Int) (d : Int) : List (List Int × Po) :=
  if walkT r.T s (x ++ [d]) ∉ r.L then movesOff r s d else if x ≠ [] ∧ d ∈ r.lo then [] else
  if walkT r.T s (x ++ [d]) ∈ r.G then [(x ++ [d], .even (walkT r.T s (x ++ [d])))] else
  (if d ∉ r.lo ∧ ((x ++ [d]).length : Int) ≤ r.h then [([], .behind s (x ++ [d]))] else []) ++ (r.tails (walkT r.T s (x ++ [d]))).map fun p => (x ++ [d] ++ p.1, .ahead (walkT r.T s (x ++ [d])) p.1)
def movesM (r : Ru) : Po → Int → List (List Int × Po)
  | .off s, d => movesOff r s d
  | .ahead s t, d => movesAhead r s t d
  | .even s, d => movesNot r s [] d
  | .behind s x, d => movesNot r s x d
/-- a position by its form -/
def POK (r : Ru) : Po → Prop
  | .even s => s ∈ r.G
  | .off s => s ∈ r.G
  | .behind s x => s ∈ r.G ∧ 1 ≤ x.length ∧ (x.length : Int) ≤ r.h ∧ (∀ d ∈ x, Dd r.q d ∧ d ∉ r.lo) ∧ (∀ n, 1 ≤ n → n ≤ x.length → walkT r.T s (x.take n) ∉ r.G) ∧ walkT r.T s x ∈ r.L
  | .ahead s t => St r.T s ∧ s ∉ r.G ∧ (t.length : Int) ≤ r.a ∧ (∀ d ∈ t, Dd r.q d) ∧ walkT r.T s t ∈ r.G
end GM
namespace GM
open PD PySem
section
variable {r : Ru}
theorem RuOK.st_g (K : RuOK r) {s : Int} (h : s ∈ r.G) : St r.T s := K.w.gr s h
theorem mem_tails (K : RuOK r) {s : Int} (hs : St r.T s) {t : List Int} {e : Int} : (t, e) ∈ r.tails s ↔ (t.length : Int) ≤ r.a ∧ (∀ d ∈ t, Dd r.q d) ∧ e = walkT r.T s t ∧ e ∈ r.G := by
  unfold Ru.tails
  rw [mem_goodTails K.w hs]
  have := K.k.a0
  constructor
  · rintro ⟨h1, h2⟩; exact ⟨by omega, h2⟩
  · rintro ⟨h1, h2⟩; exact ⟨by omega, h2⟩
theorem POK.st (K : RuOK r) : ∀ {p : Po}, POK r p → St r.T (match p with | .even s => s | .behind s _ => s | .ahead s _ => s | .off s => s)
  | .even _, h => K.st_g h
  | .off _, h => K.st_g h
  | .behind _ _, h => K.st_g h.1
  | .ahead _ _, h => h.1
end
end GM
namespace GM
open PD PySem
section
variable {r : Ru}
/-- how long, and of which deeds, what is shown is -/
def RowOK (r : Ru) (row : List Int) : Prop := (∀ y ∈ row, Dd r.q y) ∧ (row.length : Int) ≤ r.h + r.a + 1
theorem off_row (K : RuOK r) {s d : Int} (hs : s ∈ r.G) (hd : Dd r.q d) {m : List Int × Po} (h : m ∈ movesOff r s d) : RowOK r m.1 ∧ POK r m.2 := by
  have h0 := K.k.h0
  have a0 := K.k.a0
  unfold movesOff at h
  split at h
  · cases List.mem_singleton.mp h
    exact ⟨⟨fun y hy => (List.not_mem_nil hy).elim, by simp; omega⟩, hs⟩
  · obtain ⟨⟨t, e⟩, hm, rfl⟩ := List.mem_map.mp h
    obtain ⟨h1, h2, h3, h4⟩ := (mem_tails K (K.w.stp (K.st_g hs) hd)).mp hm
    refine ⟨⟨fun y hy => ?_, by simp; omega⟩, h4⟩
    rcases List.mem_cons.mp hy with z | z
    · rw [z]; exact hd
    · exact h2 y z
theorem moves_row (K : RuOK r) {p : Po} (hp : POK r p) {d : Int} (hd : Dd r.q d) {m : List Int × Po} (h : m ∈ movesM r p d) : RowOK r m.1 ∧ POK r m.2 := by
  have h0 := K.k.h0
  have a0 := K.k.a0
  have not_ : ∀ {s : Int} {x : List Int}, s ∈ r.G → (x.length : Int) ≤ r.h → (∀ y ∈ x, Dd r.q y ∧ y ∉ r.lo) → (∀ n, 1 ≤ n → n ≤ x.length → walkT r.T s (x.take n) ∉ r.G) → m ∈ movesNot r s x d → RowOK r m.1 ∧ POK r m.2 := by
    intro s x hs hl hx hx2 h
    have hw : ∀ y ∈ x ++ [d], Dd r.q y := fun y hy => by
      rcases List.mem_append.mp hy with z | z
      · exact (hx y z).1
      · rw [List.mem_singleton.mp z]; exact hd
    have hst : St r.T (walkT r.T s (x ++ [d])) := K.w.walk _ (K.st_g hs) hw
    unfold movesNot at h
    split at h
    · exact off_row K hs hd h
    · rename_i hL
      have hL := Classical.not_not.mp hL
      split at h
      · exact absurd h List.not_mem_nil
      · split at h
        · rename_i hG
          cases List.mem_singleton.mp h
          exact ⟨⟨hw, by simp; omega⟩, hG⟩
        · rename_i hG
          rcases List.mem_append.mp h with h | h
          · split at h
            · rename_i hc
              cases List.mem_singleton.mp h
              refine ⟨⟨fun y hy => (List.not_mem_nil hy).elim, by simp; omega⟩, hs, by simp, hc.2, fun y hy => ?_, fun n n1 n2 => ?_, hL⟩
              · rcases List.mem_append.mp hy with z | z
                · exact hx y z
                · rw [List.mem_singleton.mp z]; exact ⟨hd, hc.1⟩
              · by_cases hn : n ≤ x.length
                · rw [List.take_append_of_le_length hn]
                  exact hx2 n n1 hn
                · have : n = (x ++ [d]).length := by rw [List.length_append] at n2 ⊢; simp at n2 ⊢; omega
                  rw [this, List.take_length]
                  exact hG
            · exact absurd h List.not_mem_nil
          · obtain ⟨⟨t, e⟩, hm, rfl⟩ := List.mem_map.mp h
            obtain ⟨h1, h2, h3, h4⟩ := (mem_tails K hst).mp hm
            refine ⟨⟨fun y hy => ?_, by simp; omega⟩, hst, hG, h1, h2, by rw [← h3]; exact h4⟩
            rcases List.mem_append.mp hy with z | z
            · exact hw y z
            · exact h2 y z
  cases p with
  | off s => exact off_row K hp hd h
  | even s => exact not_ hp (by simp; omega) (fun y hy => (List.not_mem_nil hy).elim) (fun n n1 n2 => by simp at n2; omega) h
  | behind s x => exact not_ hp.1 hp.2.2.1 hp.2.2.2.1 hp.2.2.2.2.1 h
  | ahead s t =>
    obtain ⟨p1, p2, p3, p4, p5⟩ := hp
    have h : m ∈ movesAhead r s t d := h
    unfold movesAhead at h
    split at h
    · exact off_row K p5 hd h
    · split at h
      · exact absurd h List.not_mem_nil
      · have hst := K.w.stp p1 hd
        dsimp only at h
        split at h
        · rename_i hG
          generalize (if d ∈ r.lo then t.tail ++ [d] else t.tail) = bg at h
          split at h
          · exact absurd h List.not_mem_nil
          · cases List.mem_singleton.mp h
            exact ⟨⟨fun y hy => (List.not_mem_nil hy).elim, by simp; omega⟩, hG⟩
        · rename_i hG
          obtain ⟨⟨u, e⟩, hm, rfl⟩ := List.mem_map.mp h
          obtain ⟨h1, h2, h3, h4⟩ := (mem_tails K hst).mp (List.mem_filter.mp hm).1
          refine ⟨⟨fun y hy => h2 y (List.mem_of_mem_drop hy), ?_⟩, hst, hG, h1, h2, by rw [← h3]; exact h4⟩
          show ((u.drop _).length : Int) ≤ _
          rw [List.length_drop]
          omega
end
end GM
namespace GM
open PD PySem L2
def dictOf {α β : Type} (e : α → D) (f : β → D) (l : List (α × β)) : List (D × D) := l.map fun p => (e p.1, f p.2)
section
variable {kd : Bool} {α β : Type} [DecidableEq α] {e : α → D} {f : β → D} {l : List (α × β)} {x : α} {b : β}
def hasK (l : List (α × β)) (x : α) : Bool := decide (x ∈ l.map (·.1))
theorem hasK_iff : hasK l x = true ↔ x ∈ l.map (·.1) := by unfold hasK; exact decide_eq_true_iff
theorem hasK_no : hasK l x = false ↔ x ∉ l.map (·.1) := by unfold hasK; exact decide_eq_false_iff_not
end
end GM
namespace GP
open PySem L2 PyProof.Rows PySem.Spec PD GM
open Evl (Ex)
def intB (d : D) (a b : Int) : Bool := match d with
  | .int x => decide (0 ≤ x ∧ a ≤ x ∧ x ≤ b)
  | _ => false
def numsB (d : D) (m : Int) : Bool := match d with
  | .tuple xs => xs.all fun x => intB x 0 (m - 1)
  | _ => false
/-- the ints of a tuple -/
def intsOfD : D → List Int
  | .tuple xs => xs.map fun x => match x with | .int i => i | _ => 0
  | _ => []
end GP
namespace PD
open PySem L2 PyProof.Rows PySem.Spec
open Evl (Ex)
mutual
def fair (j : Nat) : D → Bool
  | .none | .bool _ => true
  | .int i => decide (i.natAbs ≤ 10 ^ 30 + j)
  | .str x => x.cps.toList.all fun c => decide (c < 16 ^ 8)
  | .list ds | .tuple ds => fairs j ds
  | .dict ps => ps.isEmpty
def fairs (j : Nat) : List D → Bool
  | [] => true
  | d :: ds => fair j d && fairs j ds
end
theorem fairs_iff {j : Nat} : ∀ {ds : List D}, fairs j ds = true ↔ ∀ d ∈ ds, fair j d = true
  | [] => ⟨fun _ d h => absurd h List.not_mem_nil, fun _ => rfl⟩
  | x :: ds => by
    unfold fairs
    rw [Bool.and_eq_true, fairs_iff, List.forall_mem_cons]
mutual
theorem fair_mono {j j' : Nat} (h : j ≤ j') : ∀ d : D, fair j d = true → fair j' d = true
  | .none, _ => rfl
  | .bool _, _ => rfl
  | .int i, z => by
    have z : i.natAbs ≤ 10 ^ 30 + j := of_decide_eq_true z
    exact decide_eq_true (by omega)
  | .str x, z => z
  | .list ds, z => fairs_mono h ds z
  | .tuple ds, z => fairs_mono h ds z
  | .dict _, z => z
theorem fairs_mono {j j' : Nat} (h : j ≤ j') : ∀ ds : List D, fairs j ds = true → fairs j' ds = true
  | [], _ => rfl
  | d :: ds, z => by
    have z : fair j d = true ∧ fairs j ds = true := by simpa [fairs] using z
    show (fair j' d && fairs j' ds) = true
    rw [fair_mono h d z.1, fairs_mono h ds z.2]
    rfl
end
theorem fair_int {j : Nat} {i : Int} (h : i.natAbs ≤ 10 ^ 30 + j) (hj : j ≤ 1000) : i.natAbs.log2 < 1920 ∧ (PyData.shown (.int i)).length ≤ 50 := by
  constructor
  · by_cases z : i.natAbs = 0
    · rw [z]; decide
    · have : i.natAbs.log2 < 101 := (Nat.log2_lt z).mpr (Nat.lt_of_le_of_lt (Nat.le_trans h (Nat.add_le_add_left hj _)) (by decide))
      omega
  · have e := int_text_length_le10 (k := 31) (a := i) (by decide) (Nat.lt_of_le_of_lt (Nat.le_trans h (Nat.add_le_add_left hj _)) (by decide))
    show (Str.ofString (toString i)).length ≤ 50
    rw [PySem.ofString_length]
    omega
mutual
theorem fair_all {j : Nat} (hj : j ≤ 1000) : ∀ d : D, fair j d = true → d.showable = true ∧ emDict d = true ∧ d.leavesShort 50 = true
  | .none, _ => ⟨rfl, rfl, rfl⟩
  | .bool _, _ => ⟨rfl, rfl, rfl⟩
  | .int i, h => by
    obtain ⟨a, b⟩ := fair_int (of_decide_eq_true h) hj
    exact ⟨by simpa [PyData.showable] using a, rfl, by simpa [PyData.leavesShort] using b⟩
  | .str x, h => by
    have h : (x.cps.toList.all fun c => decide (c < 16 ^ 8)) = true := h
    exact ⟨rfl, rfl, by simpa only [PyData.leavesShort] using h⟩
  | .list ds, h => by
    obtain ⟨a, b, c⟩ := fairs_all hj ds h
    exact ⟨by simpa [PyData.showable] using a, by simpa [emDict] using b, by simpa [PyData.leavesShort] using c⟩
  | .tuple ds, h => by
    obtain ⟨a, b, c⟩ := fairs_all hj ds h
    exact ⟨by simpa [PyData.showable] using a, by simpa [emDict] using b, by simpa [PyData.leavesShort] using c⟩
  | .dict [], _ => ⟨by simp [PyData.showable, PyData.showableKv], rfl, by simp [PyData.leavesShort, PyData.leavesShortKv]⟩
  | .dict (_ :: _), h => by cases h
theorem fairs_all {j : Nat} (hj : j ≤ 1000) : ∀ ds : List D, fairs j ds = true → PyData.showableAll ds = true ∧ emDicts ds = true ∧ PyData.leavesShortAll 50 ds = true
  | [], _ => ⟨rfl, rfl, rfl⟩
  | d :: ds, h => by
    have h : fair j d = true ∧ fairs j ds = true := by simpa [fairs] using h
    obtain ⟨a, b, c⟩ := fair_all hj d h.1
    obtain ⟨a', b', c'⟩ := fairs_all hj ds h.2
    refine ⟨?_, ?_, ?_⟩
    · show (d.showable && _) = true; rw [a, a']; rfl
    · show (emDict d && _) = true; rw [b, b']; rfl
    · show (d.leavesShort 50 && _) = true; rw [c, c']; rfl
end
theorem noInst_fair {j : Nat} {d : D} (h : fair j d = true) : noInst d = true := by
  cases d with
  | dict ps =>
    cases ps with
    | nil => rfl
    | cons _ _ => cases h
  | _ => rfl
theorem gReprE_fair {j : Nat} {d : D} (h : fair j d = true) (hj : j ≤ 1000) (hd : d.depth ≤ 60) (hw : d.weight ≤ 200000) : gReprE d = some (.str d.shown) := by
  obtain ⟨a, b, c⟩ := fair_all hj d h
  have e := PyData.shown_le 50 (by decide) d c
  have e2 : d.shown.length ≤ sizeLine := by rw [sizeLine_eq]; omega
  unfold gReprE fitsE
  rw [a, b, decide_eq_true e2, decide_eq_true hd]
  rfl
/-- ints up to 10^30 + j, so deep, so heavy -/
structure Fr (j a w : Nat) (d : D) : Prop where
  ok : fair j d = true
  dep : d.depth ≤ a
  wt : d.weight ≤ w
structure FrS (j a w : Nat) (ds : List D) : Prop where
  ok : fairs j ds = true
  dep : PyData.depthAll ds ≤ a
  wt : PyData.weightAll ds ≤ w
section
variable {j a w j' a' w' v : Nat} {d x : D} {ds es : List D}
theorem Fr.mono (h : Fr j a w d) (hj : j ≤ j') (ha : a ≤ a') (hw : w ≤ w') : Fr j' a' w' d := ⟨fair_mono hj d h.ok, Nat.le_trans h.dep ha, Nat.le_trans h.wt hw⟩
theorem FrS.mono (h : FrS j a w ds) (hj : j ≤ j') (ha : a ≤ a') (hw : w ≤ w') : FrS j' a' w' ds := ⟨fairs_mono hj ds h.ok, Nat.le_trans h.dep ha, Nat.le_trans h.wt hw⟩
theorem weightAll_app : ∀ ds es : List D, PyData.weightAll (ds ++ es) = PyData.weightAll ds + PyData.weightAll es
  | [], es => by simp [PyData.weightAll]
  | d :: ds, es => by
    show PyData.weight d + 1 + PyData.weightAll (ds ++ es) = PyData.weight d + 1 + PyData.weightAll ds + _
    rw [weightAll_app ds es]
    omega
theorem depthAll_app : ∀ ds es : List D, PyData.depthAll (ds ++ es) = max (PyData.depthAll ds) (PyData.depthAll es)
  | [], es => by simp [PyData.depthAll]
  | d :: ds, es => by
    show max (PyData.depth d) (PyData.depthAll (ds ++ es)) = max (max (PyData.depth d) (PyData.depthAll ds)) _
    rw [depthAll_app ds es]
    omega
theorem FrS.nil : FrS j a w [] := ⟨rfl, Nat.zero_le _, Nat.zero_le _⟩
theorem FrS.cons (h : Fr j a w x) (hs : FrS j a v ds) : FrS j a (w + 1 + v) (x :: ds) := by
  refine ⟨?_, ?_, ?_⟩
  · show (fair j x && fairs j ds) = true
    rw [h.ok, hs.ok]
    rfl
  · show max (PyData.depth x) (PyData.depthAll ds) ≤ a
    have := h.dep
    have := hs.dep
    omega
  · show PyData.weight x + 1 + PyData.weightAll ds ≤ _
    have := h.wt
    have := hs.wt
    omega
theorem FrS.left (h : FrS j a w (ds ++ es)) : FrS j a w ds := by
  have h1 := h.dep
  have h2 := h.wt
  rw [depthAll_app] at h1
  rw [weightAll_app] at h2
  exact ⟨fairs_iff.mpr fun d hd => fairs_iff.mp h.ok d (List.mem_append_left _ hd), by omega, by omega⟩
theorem FrS.right (h : FrS j a w (ds ++ es)) : FrS j a w es := by
  have h1 := h.dep
  have h2 := h.wt
  rw [depthAll_app] at h1
  rw [weightAll_app] at h2
  exact ⟨fairs_iff.mpr fun d hd => fairs_iff.mp h.ok d (List.mem_append_right _ hd), by omega, by omega⟩
theorem mem_weight : ∀ {ds : List D}, x ∈ ds → PyData.weight x + 1 ≤ PyData.weightAll ds ∧ PyData.depth x ≤ PyData.depthAll ds
  | [], h => absurd h List.not_mem_nil
  | d :: ds, h => by
    show PyData.weight x + 1 ≤ PyData.weight d + 1 + PyData.weightAll ds ∧ PyData.depth x ≤ max (PyData.depth d) (PyData.depthAll ds)
    rcases List.mem_cons.mp h with e | h
    · subst e; omega
    · have := mem_weight h
      omega
theorem FrS.mem (h : FrS j a w ds) (hx : x ∈ ds) : Fr j a (w - 1) x := by
  have := mem_weight hx
  have := h.wt
  have := h.dep
  exact ⟨fairs_iff.mp h.ok x hx, by omega, by omega⟩
theorem FrS.len (h : FrS j a w ds) : ds.length ≤ w := by
  have : ∀ ds : List D, ds.length ≤ PyData.weightAll ds := by
    intro ds
    induction ds with
    | nil => exact Nat.le_refl _
    | cons d ds ih =>
      show ds.length + 1 ≤ PyData.weight d + 1 + PyData.weightAll ds
      omega
  exact Nat.le_trans (this ds) h.wt
theorem Fr.tup (h : FrS j a w ds) : Fr j (a + 1) w (.tuple ds) := ⟨h.ok, by have := h.dep; show PyData.depthAll ds + 1 ≤ _; omega, h.wt⟩
theorem Fr.lst (h : FrS j a w ds) : Fr j (a + 1) w (.list ds) := ⟨h.ok, by have := h.dep; show PyData.depthAll ds + 1 ≤ _; omega, h.wt⟩
theorem Fr.elsT (h : Fr j (a + 1) w (.tuple ds)) : FrS j a w ds := ⟨h.ok, by have h2 : PyData.depthAll ds + 1 ≤ _ := h.dep; omega, h.wt⟩
theorem Fr.repr (h : Fr j a w d) (hj : j ≤ 1000) (ha : a ≤ 60) (hw : w ≤ 200000) : gReprE d = some (.str d.shown) := gReprE_fair h.ok hj (Nat.le_trans h.dep ha) (Nat.le_trans h.wt hw)
theorem Fr.no (h : Fr j a w d) : noInst d = true := noInst_fair h.ok
end
end PD
namespace PySem.W
open PySem PySem.Spec PySem.Calls PyProof.Rows
section
variable {M : Model} {K : Frag} {A : Around} {E : Value → Shared → Prop} {s : Shared}
theorem exm_l1 {f : Value → PUnit → Sem (ForInStep PUnit)} : ∀ {cs : List Value} {Q : PUnit → Shared → Prop}, (∀ c ∈ cs, ∀ Q : ForInStep PUnit → Shared → Prop, Q (.yield ⟨⟩) s → wpAny M A (f c ⟨⟩) Q E s) → Q ⟨⟩ s → wpAny M A (forIn cs PUnit.unit f) Q E s
  | [], Q, _, q => by
    rw [List.forIn_nil]
    exact wpAny_pure q
  | c :: cs, Q, h, q => by
    rw [List.forIn_cons]
    refine wpAny_bind (h c List.mem_cons_self _ ?_)
    exact exm_l1 (fun c hc => h c (List.mem_cons_of_mem _ hc)) q
theorem exm_l2 {cls : Value} {f : Value → Option Bool × Unit → Sem (ForInStep (Option Bool × Unit))} (h : ∀ c v, exmOne K cls c = some v → ∀ Q : ForInStep (Option Bool × Unit) → Shared → Prop, Q (if v = true then .done (some true, ()) else .yield (none, ())) s → wpAny M A (f c (none, ())) Q E s) : ∀ {cs : List Value} {b : Bool} {Q : Option Bool × Unit → Shared → Prop}, exmAny K cls cs = some b → Q (if b = true then some true else none, ()) s → wpAny M A (forIn cs (none, ()) f) Q E s
  | [], b, Q, e, q => by
    cases e
    rw [List.forIn_nil]
    exact wpAny_pure q
  | c :: cs, b, Q, e, q => by
    obtain ⟨b1, d1, h1, h2, rfl⟩ := exmAny_cons e
    rw [List.forIn_cons]
    refine wpAny_bind (h c b1 h1 _ ?_)
    cases b1 with
    | true =>
      rw [if_pos rfl]
      exact wpAny_pure q
    | false =>
      rw [if_neg Bool.false_ne_true]
      exact exm_l2 h h2 q
theorem exmAny_mem {cls c : Value} : ∀ {cs : List Value} {b : Bool}, exmAny K cls cs = some b → c ∈ cs → ∃ v, exmOne K cls c = some v
  | [], _, _, h => absurd h List.not_mem_nil
  | c0 :: cs, b, e, h => by
    obtain ⟨b1, d1, h1, h2, _⟩ := exmAny_cons e
    rcases List.mem_cons.mp h with z | z
    · exact ⟨b1, z ▸ h1⟩
    · exact exmAny_mem h2 z
theorem exm_tupN {cs : List Value} {cls : Value} {tp e : Addr} {b : Bool} {h : Heap} (X : K.In h) (LT : Looks M h (typeOf (.ref e)) cls) (hp : h.get? tp = some { cls := .type "tuple", data := .seq cs.toArray }) (hx : exmAny K cls cs = some b) :
    Looks M h (excMatches (.ref e) (.ref tp)) b := by
  intro A Q E s k₀ q
  obtain ⟨hh, g, d, tk, os⟩ := s
  have k : ∀ b o, h.get? b = some o → hh.get? b = some o := k₀
  have LT0 : Looks M h (isInstance (.ref tp) (.type "tuple")) true := ((Looks.ld hp).andThen .now).andThen (Looks.of_pure isSubtype_tuple_tuple)
  have LT := LT.keeps k
  have LT0 := LT0.keeps k
  have hp' := k _ _ hp
  unfold excMatches
  refine wpAny_bind (LT0.at ?_)
  dsimp only
  rw [if_pos rfl]
  first
    | refine wpAny_bind (wpAny_seqItems hp' rfl ?_)
    | refine wpAny_bind (wpAny_bind (wpAny_seqItems hp' rfl (wpAny_pure ?_)))
  dsimp only [Option.getD_some, Option.getD]
  refine wpAny_bind (wpAny_pure ?_)
  refine wpAny_bind (exm_l1 (fun c hc Q q => ?_) ?_)
  · obtain ⟨v, hv⟩ := exmAny_mem hx hc
    obtain ⟨e1, _⟩ := exm_cls (M := M) X hv
    refine wpAny_bind ((e1.keeps k).at ?_)
    simp only [Bool.not_true, Bool.false_eq_true, if_false]
    exact wpAny_pure q
  · refine wpAny_bind (LT.at ?_)
    refine wpAny_bind (exm_l2 (K := K) (cls := cls) (fun c v hv Q q => ?_) hx ?_)
    · obtain ⟨_, S1⟩ := exm_cls (M := M) X hv
      refine wpAny_bind ((S1.keeps k).at ?_)
      cases v with
      | true =>
        rw [if_pos rfl] at q ⊢
        exact wpAny_pure q
      | false =>
        rw [if_neg Bool.false_ne_true] at q ⊢
        exact wpAny_pure q
    · cases b with
      | true => exact wpAny_pure q
      | false => exact wpAny_pure q
end
end PySem.W
namespace PD
open PySem L2 PyProof.Rows PySem.Spec
open Evl (Ex)
inductive NamesL (X : Cx) : List Expr → List Value → Prop
  | nil : NamesL X [] []
  | cons {x : Str} {np : Pos} {c : Value} {es : List Expr} {cs : List Value} (hc : Names X x c) (r : NamesL X es cs) : NamesL X (.Name x np :: es) (c :: cs)
theorem flying_keep {B h h' : Heap} {l : List Env} {a : Addr} {Z : Obj → Prop} (k : ∀ b o, h.get? b = some o → h'.get? b = some o) (fl : HandSPX.FlyingZ B l a Z h) : HandSPX.FlyingZ B l a Z h' := by
  obtain ⟨f1, f2, f3, oe, vs, T, oT, ts, g1, g2, g3, g4, g5, g6, g7, g8⟩ := fl
  exact ⟨fun b o e => k _ _ (f1 b o e), f2, f3.of_keeps fun b o e _ => ⟨o, k _ _ e, rfl⟩, oe, vs, T, oT, ts, k _ _ g1, g2, g3, g4, g5, g6, k _ _ g7, g8⟩
/-- what is caught is known from then on -/
theorem track {X : Cx} {pins : List (Addr × Obj)} {σ : L2.St} {H : Hp} {s : Shared} {a : Addr} {oe : Obj} {vs : Array Value} (I : Inv X pins σ H s) (ha : s.heap.get? a = some oe) (hd : oe.data = .fields vs) (na : H a = none) (n0 : ∀ o, X.s_0.heap.get? a = some o → a ∈ X.ex) (np : ∀ p ∈ X.pn ++ pins, p.1 ≠ a) (nL : a ≠ X.env.locals) :
    Inv X pins σ (upd H a (ErO a oe)) s := by
  have ne : ∀ {b : Addr} {u : HO}, H b = some u → b ≠ a := fun {b u} h z => by rw [z, na] at h; cases h
  refine ⟨I.ok, I.os, I.bare, ⟨I.base.keep, I.base.slot, fun b o e n hx => ?_, I.base.there, fun b xs q => ?_, fun b o u q => ?_, fun b ps q => ?_⟩, I.loc, I.cell, ?_, fun x c e => ?_, fun p hp => ?_, fun b u e => ?_, I.len⟩
  · rw [upd_ne fun z => by
      subst z
      exact hx (n0 o e)]
    exact I.base.free b o e n hx
  · have z := I.base.tups b xs q
    rw [upd_ne (ne z)]
    exact z
  · have z := I.base.frzs b o u q
    rw [upd_ne (ne z)]
    exact z
  · obtain ⟨m, z⟩ := I.base.tbls b ps q
    exact ⟨m, by rw [upd_ne (ne z)]; exact z⟩
  · rw [upd_ne nL.symm]
    exact I.free
  · obtain ⟨v, o, ho, hv⟩ := I.cell x c e
    rw [upd_ne fun z => by
      rw [z, ha] at ho
      cases ho
      rw [hd] at hv
      cases hv]
    exact I.freeC x c e
  · obtain ⟨e, n, ne', nf, d⟩ := I.pin p hp
    exact ⟨e, by rw [upd_ne (np p hp)]; exact n, ne', nf, d⟩
  · by_cases hb : b = a
    · subst hb
      rw [upd_same] at e
      cases e
      exact ⟨ha, ⟨_, ha⟩⟩
    · rw [upd_ne hb] at e
      exact (I.hok b u e).stay (fun _ _ _ q => q) (fun c q => by rw [upd_ne (ne q)]; exact q) fun c xs q => by rw [upd_ne (ne q)]; exact q
section
variable {X : Cx} {M : Mk0} {i : Nat} {y n : Str} {py pos px p : Pos} {b : Expr}
/-- the object of a kept error, for the library -/
theorem err_inst {P : Program} {w : World} {K : Fr0} {H : Hp} {h : Heap} {L : List Addr} {a C : Addr} {oe : Obj} {d : Option Addr} {fl : List (PD.D × PD.D)} (hok : HOk P w H h) (h1 : hide L H a = some (ErO a oe)) (h2 : oe.cls = .ref C ∧ oe.dict = d) (h3 : ∃ vs, oe.data = .fields vs) (h4 : XAt K (hide L H) d fl) :
    ∃ od, PySem.W.InstAt h a oe C od := by
  have ha : ObjOk P w H h a (.frz oe (.own a)) := hok a _ (hide_some.mp h1).2
  obtain ⟨vs, hv⟩ := h3
  have nc : PySem.W.notCls oe = true := by unfold PySem.W.notCls; rw [hv] <;> rfl
  rcases h4 with ⟨_, hd⟩ | ⟨dd, fs, hd, hx, _⟩
  · exact ⟨none, ha.1, h2.1, nc, by rw [h2.2, hd]; trivial⟩
  · have hx : ObjOk P w H h dd (.xd fs) := hok dd _ (hide_some.mp hx).2
    obtain ⟨mA, hns, hr⟩ := hx
    obtain ⟨od, ho, hl⟩ := lookIn_ns hns
    exact ⟨some od, ha.1, h2.1, nc, by rw [h2.2, hd]; exact ho⟩
end
section
variable {X : Cx} {M : Mk0} {i : Nat} {y n : Str} {py pos px p : Pos}
def ErrAt (K : Fr0) (H : Hp) (a C : Addr) : Prop := ∃ (L : List Addr) (oe : Obj) (d : Option Addr) (fl : List (PD.D × PD.D)), hide L H a = some (ErO a oe) ∧ (oe.cls = .ref C ∧ oe.dict = d) ∧ (∃ vs, oe.data = .fields vs) ∧ XAt K (hide L H) d fl
def rIsEr (K : Fr0) : List V → Hp → VK → Prop := fun xs H Q => ∃ (a C : Addr) (c : V) (cv : Value) (b : Bool), xs = [.ref a, c] ∧ ErrAt K H a C ∧ (∀ u, RelV c u → u = cv) ∧ ExcC K.f C ∧ PySem.W.kitOne K.f (.ref C) cv = some b ∧ Q (.bl b) H
theorem ErrAt.inst {P : Program} {w : World} {K : Fr0} {H : Hp} {h : Heap} {a C : Addr} (hok : HOk P w H h) (e : ErrAt K H a C) : ∃ oe od, PySem.W.InstAt h a oe C od := by
  obtain ⟨L, oe, d, fl, h1, h2, h3, h4⟩ := e
  obtain ⟨od, z⟩ := err_inst hok h1 h2 h3 h4
  exact ⟨oe, od, z⟩
theorem ExcC.kit {K : PySem.W.Frag} {C a : Addr} {oe : Obj} {od : Option Obj} (T : ExcC K C) : PySem.W.KitX K (.ref a) (.ref C) (fun h => PySem.W.InstAt h a oe C od) :=
  PySem.W.kitx_exc (by obtain ⟨cd, hc, _⟩ := PySem.W.any_some T.hd; rw [hc]; rfl) T.hg T.hk T.hs T.ha T.hn T.ht T.hm
theorem call_isEr : CallR X (.builtin "isinstance") (rIsEr X.k0) := by
  intro pins s σ H xs us Q I r h
  obtain ⟨a, C, c, cv, b, rfl, he, hcv, T, e, q⟩ := h
  obtain ⟨u1, u2, rfl, r1, r2⟩ := vals2 r
  cases (show u1 = Value.ref a from r1)
  have ec := hcv _ r2
  subst ec
  obtain ⟨oe, od, J⟩ := he.inst I.hok
  exact PySem.W.kia_one (ExcC.kit T) I.kIn J e (fun z => nomatch z) fun tk => ⟨.bl b, H, I.tok tk, rfl, q⟩
theorem pe_nameR {x : Str} {C : Addr} {np : Pos} (h : Names X x (.ref C)) : PE X (.Name x np) (tC (.ref C)) := by
  obtain ⟨hg, hdbg, hm | ⟨hm, hv, hnn⟩⟩ := h
  · exact pe_glob hg hm rfl hdbg
  · exact ⟨fun pins s σ H Q I q => ld_blt I hg hm hv ⟨.ref C, H, I, rfl, q⟩ hnn hdbg⟩
end
end PD
namespace PD
open PySem L2 PyProof.Rows PySem.Spec
open Evl (Ex)
end PD
namespace PD
open PySem L2 PyProof.Rows PySem.Spec
open Evl (Ex)
open PySem.W (minD dataLt AlikeAll min_list_data alike)
end PD
namespace PD
open PySem L2 PyProof.Rows PySem.Spec
open Evl (Ex)
end PD
namespace PD
open PySem PySem.W PySem.Calls PyProof.Rows PySem.SeqAt L2
/-- what sorting wants to know of the data -/
structure SortsD (z : List (V × D)) : Prop where
  al : AllAlike (z.map (·.2))
  tup : (∀ d ∈ z.map (·.2), ∃ xs, d = .tuple xs) ∨ ∀ d ∈ z.map (·.2), d ≠ .none ∧ ∀ xs, d ≠ .tuple xs
  dep : ∀ d ∈ z.map (·.2), d.depth ≤ 50
  nd : ∀ d ∈ z.map (·.2), d.hasDict = false
theorem SortsD.at {prog : Program} {w : World} {A : Around} {s : Shared} {z : List (V × D)} {its : List Value} (S : SortsD z) (hu : A.units + 50 < cLine) (e : EachIs (fun v p => ∃ as, Reads s.heap v p.2 as) its z) :
    SortsAt prog w A s (dataKind s.heap (z.map (·.2))) its := by
  have hu' : ∀ d, d ∈ z.map (·.2) → A.units + d.depth < cLine := fun d hd => by have := S.dep d hd; omega
  have e' := each_map (fun p : V × D => p.2) (R := fun v d => ∃ as, Reads s.heap v d as) e
  rcases S.tup with h | h
  · exact sortsAt_tups e' S.al h hu'
  · exact SortsAt.data e' S.al (.inr h) hu'
end PD
namespace PD
open PySem L2 PyProof.Rows PySem.Spec
end PD
namespace PD
open PySem L2 PyProof.Rows PySem.Spec
open Evl (Ex)
section
variable {X : Cx} {M : Mk0} {e : Expr} {fa : FE}
def fLendD (i : Nat) (fa : FE) : FE := fun ρ k => (∃ kd ps, ρ.sl[i]? = some (.own (.d kd ps))) ∧ fa (lendR i ρ) fun d ρ' => d.hasDict = false ∧ k d ⟨ρ.sl, ρ'.n⟩
end
end PD
namespace PD
open PySem L2 PyProof.Rows PySem.Spec
open Evl (Ex)
structure ZMs (a b z TI TO i1 i2 : Addr) (i : Nat) (h : Heap) : Prop where
  hz : IsZip h z TI TO .none
  hI : IsTupOf2 h TI (.ref i1) (.ref i2)
  hO : ∃ x y, IsTupOf2 h TO x y
  h1 : h.IsListIter i1 a i
  h2 : h.IsTupleIter i2 b i
section
variable {P : Program} {w : World} {K : PySem.W.Frag} {elts : List Expr} {kk : Nat} {tpos : Pos} {a b z TI TO i1 i2 : Addr}
theorem ZMs.cells {i : Nat} {h : Heap} (s : ZMs a b z TI TO i1 i2 i h) : ∀ c ∈ [z, TI, TO, i1, i2], ∃ o, h.get? c = some o ∧ ∀ v, o.data ≠ .cell v := by
  obtain ⟨hz, hI, ⟨x, y, hO⟩, ⟨o1, e1, _, d1⟩, ⟨o2, e2, _, d2⟩⟩ := s
  intro c hc
  simp only [List.mem_cons, List.not_mem_nil, or_false] at hc
  rcases hc with rfl | rfl | rfl | rfl | rfl
  · exact ⟨_, hz, fun v q => nomatch q⟩
  · exact ⟨_, hI, fun v q => nomatch q⟩
  · exact ⟨_, hO, fun v q => nomatch q⟩
  · exact ⟨o1, e1, fun v q => by rw [d1] at q; cases q⟩
  · exact ⟨o2, e2, fun v q => by rw [d2] at q; cases q⟩
end
def zipM : D → D → Option (List D)
  | .list xs, .tuple ys => some (List.zipWith (fun x y => PyData.tuple [x, y]) xs ys)
  | _, _ => none
def fiZipM (fl : FL) : FI := fun ρ k => fl ρ fun ds ρ1 => ∃ x y zs, ds = [x, y] ∧ zipM x y = some zs ∧ k zs ρ1
end PD
namespace PD
open PySem L2 PyProof.Rows PySem.Spec
open Evl (Ex)
/-- a zip over the tuples at a and b, j pairs given out -/
structure Zn (a b z TI TO i1 i2 : Addr) (xs ys : Array Value) (j : Nat) (h : Heap) : Prop where
  own : (IsZip h z TI TO .none ∧ ∃ p q, IsTupOf2 h TO p q) ∨ ∃ T f p q, IsZipHeld h z TI TO T f ∧ IsTupOf2 h T p q ∧ T ∉ [z, TI, TO, i1, i2]
  hI : IsTupOf2 h TI (.ref i1) (.ref i2)
  g1 : h.IsTupleIter i1 a j
  g2 : h.IsTupleIter i2 b j
  ta : h.IsTuple a xs
  tb : h.IsTuple b ys
section
variable {prog : Program} {w : World} {A : Around} {E : Value → Shared → Prop} {s : Shared} {a b z TI TO i1 i2 : Addr} {j : Nat} {xs ys : Array Value}
theorem Zn.keep {h h' : Heap} (Z : Zn a b z TI TO i1 i2 xs ys j h) (k : ∀ c o, h.get? c = some o → h'.get? c = some o) : Zn a b z TI TO i1 i2 xs ys j h' := by
  obtain ⟨o, q1, q2, q3, q4, q5⟩ := Z
  refine ⟨?_, k _ _ q1, q2.at fun o e => k _ o e, q3.at fun o e => k _ o e, q4.at fun o e => k _ o e, q5.at fun o e => k _ o e⟩
  rcases o with ⟨m, p, q, m2⟩ | ⟨T, f, p, q, m, m2, m3⟩
  · exact .inl ⟨k _ _ m, p, q, k _ _ m2⟩
  · exact .inr ⟨T, f, p, q, k _ _ m, k _ _ m2, m3⟩
/-- what the list holds after j turns: the tuples Ts, each one new -/
structure Za (xs ys : Array Value) (m j : Nat) (Ts : List Addr) (h : Heap) : Prop where
  len : Ts.length = j
  asc : Ts.Pairwise (fun (a b : Nat) => a < b)
  new : ∀ T : Nat, T ∈ Ts → m ≤ T ∧ T < h.objs.size
  at_ : ∀ (k : Nat) (T : Addr), Ts[k]? = some T → ∃ x y, IsTupOf2 h T x y ∧ xs[k]? = some x ∧ ys[k]? = some y
theorem Za.keep {m : Nat} {Ts : List Addr} {h h' : Heap} (za : Za xs ys m j Ts h) (k : ∀ T ∈ Ts, ∀ o, h.get? T = some o → h'.get? T = some o) : Za xs ys m j Ts h' := by
  have q : ∀ (i : Nat) (T : Addr), Ts[i]? = some T → ∃ x y, IsTupOf2 h' T x y ∧ xs[i]? = some x ∧ ys[i]? = some y := fun i T hT => by
    obtain ⟨x, y, q, r⟩ := za.at_ i T hT
    exact ⟨x, y, k T (List.mem_of_getElem? hT) _ q, r⟩
  refine ⟨za.len, za.asc, fun T hT => ⟨(za.new T hT).1, ?_⟩, q⟩
  obtain ⟨i, hi⟩ := List.getElem?_of_mem hT
  obtain ⟨x, y, q, _⟩ := q i T hi
  exact Heap.lt_size q
end
def zipTT : D → D → Option (List D)
  | .tuple xs, .tuple ys => some (List.zipWith (fun x y => PyData.tuple [x, y]) xs ys)
  | _, _ => none
def fnZipT (fl : FL) : FN := fun ρ k => fl ρ fun ds ρ1 => ∃ x y zs, ds = [x, y] ∧ zipTT x y = some zs ∧ k zs ρ1
end PD
namespace PD
open PySem L2 PyProof.Rows PySem.Spec
open Evl (Ex)
inductive Pc | d (x : D) | o (c : Ow)
@[reducible] def Pc.sl : Pc → Sl
  | .d x => .d x
  | .o c => .own c
abbrev FPc := Rho → (Pc → Rho → Prop) → Prop
def PcOk (K : Fr0) (F F' : Hp) (L : List Addr) (H : Hp) (v : V) : Pc → Prop
  | .d x => F' = F ∧ Rp K (hide L H) v x
  | .o c => c.nx ∧ ∃ p u, v = .ref p ∧ F p = none ∧ F' = upd F p u ∧ OwAt K (hide L H) p u c
theorem PcOk.up {K : Fr0} {F F' : Hp} {L L' : List Addr} {H H' : Hp} {v : V} {c : Pc} (h : PcOk K F F' L H v c) (e : Ex (hide L H) (hide L' H')) : PcOk K F F' L' H' v c := by
  cases c with
  | d x => exact ⟨h.1, dp_ex e _ _ h.2⟩
  | o c =>
    obtain ⟨hx, p, u, h1, h2, h3, h4⟩ := h
    exact ⟨hx, p, u, h1, h2, h3, h4.up e⟩
theorem R.take {K : Fr0} {M : Mk0} {P : Option Addr} {F F' : Hp} {L : List Addr} {ρ : Rho} {σ : L2.St} {H : Hp} {v : V} {c : Pc} (r : R K M P F' L ρ σ H) (h : PcOk K F F' L H v c) (i : Nat) : R K M P F L (ρ.set i c.sl) (σ.set i (some v)) H := by
  cases c with
  | d x =>
    obtain ⟨rfl, h2⟩ := h
    exact r.setD i (.d x) _ ⟨_, rfl, h2⟩ fun xs z => nomatch z
  | o c =>
    obtain ⟨hx, p, u, rfl, h2, rfl, h4⟩ := h
    exact r.toOwnC h2 h4 hx i
section
variable {X : Cx} {M : Mk0} {a b c e : Expr} {fe : FE} {fn : FN} {f1 f2 f3 : FPc} {pos : Pos}
def fpD (fe : FE) : FPc := fun ρ k => fe ρ fun d ρ1 => k (.d d) ρ1
def fpN (fn : FN) : FPc := fun ρ k => fn ρ fun ds ρ1 => k (.o (.l ds)) ρ1
def fpE (kd : Bool) : FPc := fun ρ k => k (.o (.d kd [])) ρ
/-- two, three of them from the left -/
def fpTwo (f1 f2 : FPc) (k : Pc → Pc → Rho → Prop) : Rho → Prop := fun ρ => f1 ρ fun x ρ1 => f2 ρ1 fun y ρ2 => k x y ρ2
def fpThree (f1 f2 f3 : FPc) (k : Pc → Pc → Pc → Rho → Prop) : Rho → Prop := fun ρ => f1 ρ fun x ρ1 => f2 ρ1 fun y ρ2 => f3 ρ2 fun z ρ3 => k x y z ρ3
/-- x, y, z = a, b, c -/
def fsPo3 (i j l : Nat) (f1 f2 f3 : FPc) : FS := fun ρ P => fpThree f1 f2 f3 (fun x y z ρ3 => P.nx (((ρ3.set l z.sl).set j y.sl).set i x.sl)) ρ
def fpFour (f1 f2 f3 f4 : FPc) (k : Pc → Pc → Pc → Pc → Rho → Prop) : Rho → Prop := fun ρ => f1 ρ fun x ρ1 => f2 ρ1 fun y ρ2 => f3 ρ2 fun z ρ3 => f4 ρ3 fun t ρ4 => k x y z t ρ4
def fsPo4 (i j l m : Nat) (f1 f2 f3 f4 : FPc) : FS := fun ρ P => fpFour f1 f2 f3 f4 (fun x y z t ρ4 => P.nx ((((ρ4.set m t.sl).set l z.sl).set j y.sl).set i x.sl)) ρ
def fpDisp (kd : Bool) (fp : FP) : FPc := fun ρ k => fp ρ fun ps ρ1 => ∃ out, putAll kd [] ps = some out ∧ ps.length ≤ 1000000 ∧ k (.o (.d kd out)) ρ1
def fsPo2 (i j : Nat) (f1 f2 : FPc) : FS := fun ρ P => fpTwo f1 f2 (fun x y ρ2 => P.nx ((ρ2.set j y.sl).set i x.sl)) ρ
end
end PD
namespace PD
open PySem L2 PyProof.Rows PySem.Spec
open Evl (Ex)
/-- the values in the order of the parameters -/
@[reducible] def pickL {α : Type} (z : α) (ix : List Nat) (l : List α) : List α := ix.map fun i => l.getD i z
section
variable {X : Cx} {M : Mk0} {k : Nat} {f : Addr} {fd : FuncData} {ps ks : List Str} {ix : List Nat} {n : Nat} {W : FE} {x : Str} {p pos : Pos} {kws : List Keyword} {fl : FL} {E : XK} {sp : Sp} {tk : TA} {CX : CXT}
/-- f(k = e, ..): what the def makes of its arguments -/
def fCallK (m n : Nat) (ix : List Nat) (W : FE) (fl : FL) : FE := fun ρ k => fl ρ fun ds ρ1 => ds.length = m ∧ ix.length = n ∧ W ⟨(pickL .none ix ds).map .d, ρ1.n⟩ fun d ρ2 => k d ⟨ρ1.sl, ρ2.n⟩
end
end PD
namespace PD
open PySem L2 PyProof.Rows PySem.Spec
open Evl (Ex)
end PD
namespace PD
open PySem L2 PyProof.Rows PySem.Spec
open Evl (Ex)
section
variable {X : Cx} {M : Mk0} {e ki ii : Expr} {fa fk fi : FE} {fs : FS} {pos pos' spos lp : Pos} {st : Stmt} {sts : List Stmt} {i : Nat} {x : Str} {px : Pos}
@[simp] def okO : Sl → Bool
  | .st => false
  | .own (.x _ _ _ _) => false
  | _ => true
end
end PD
namespace PD
open PySem PySem.W PySem.Calls PyProof.Rows PySem.SeqAt L2
open Evl (Ex)
end PD
namespace PD
open PySem L2 PyProof.Rows PySem.Spec
open Evl (Ex)
end PD
namespace PD
open PySem L2 PyProof.Rows PySem.Spec
open Evl (Ex)
end PD
namespace PD
open PySem L2 PyProof.Rows PySem.Spec
open Evl (Ex)
end PD
namespace PD
open PySem L2 PyProof.Rows PySem.Spec
open Evl (Ex)
end PD
namespace PD
open PySem L2 PyProof.Rows PySem.Spec
open Evl (Ex)
end PD
namespace PD
open PySem L2 PyProof.Rows PySem.Spec
open Evl (Ex)
structure BsE where
  nm : String
  nw : String
  ini : String
  tail : List Value
structure BsOk (b : BsE) : Prop where
  F : ExcBaseFacts b.nm b.nw b.ini b.tail
  S : StoreFacts b.nm b.tail "object.__setattr__" "object"
  tl : PySem.W.excTail b.tail b.tail = true
  ty : typeOf (.type b.nm) = pure (.type "type")
  st : Manifest.isStub b.nm = false
  bt : bootBuiltins (Str.ofString b.nm) = some (.type b.nm)
  hi : PySem.W.handedIn (.builtin b.ini) = true
  n1 : Str.ofString b.nm ≠ ("__name__" : Str)
  n2 : (Str.ofString b.nm == ("__debug__" : Str)) = false
abbrev bsOverflowError : BsE := ⟨"OverflowError", "OverflowError.__new__", "OverflowError.__init__", [.type "OverflowError", .type "ArithmeticError", .type "Exception", .type "BaseException", .type "object"]⟩
abbrev bsLookupError : BsE := ⟨"LookupError", "LookupError.__new__", "LookupError.__init__", [.type "LookupError", .type "Exception", .type "BaseException", .type "object"]⟩
theorem ty_ov : typeOf (.type "OverflowError") = pure (.type "type") := by kernel_rfl
theorem ty_lk : typeOf (.type "LookupError") = pure (.type "type") := by kernel_rfl
theorem okOverflowError : BsOk bsOverflowError := ⟨F.excBase_OverflowError, F.store_OverflowError, by decide +kernel, ty_ov, by decide +kernel, by decide +kernel, by decide +kernel, by decide +kernel, by decide +kernel⟩
theorem okLookupError : BsOk bsLookupError := ⟨F.excBase_LookupError, F.store_LookupError, by decide +kernel, ty_lk, by decide +kernel, by decide +kernel, by decide +kernel, by decide +kernel, by decide +kernel⟩
/-- such a class -/
structure OexB (b : BsE) (K : PySem.W.Frag) (C : Addr) : Prop where
  cls : ∃ nm q N bs sn sub ab col dd m0 m1 m2 m3 m5, K.lookup C = some (excClassObj nm q C N bs b.tail true sn sub ab col dd m0 m1 m2 m3 m5 b.nw)
  sa : PySem.W.findIn K (.ref C) "__setattr__" = some (some (.builtin "object.__setattr__"))
  exC : PySem.W.subIn K (.ref C) (.type "BaseException") = some true
  tyC : PySem.W.typeIn K (.ref C) = some (.type "type")
  kC : PySem.W.keepIn K (.ref C) = true
structure ExB (b : BsE) (K : PySem.W.Frag) (C fI : Addr) : Prop where
  T : OexB b K C
  iC : PySem.W.findIn K (.ref C) "__init__" = some (some (.ref fI))
  tI : PySem.W.typeIn K (.ref fI) = some (.type "function")
section
variable {b : BsE} {X : Cx} {pins : List (Addr × Obj)} {σ : L2.St} {H : Hp} {s : Shared} {a C : Addr} {f : Str} {y : V} {u : Value} {A : Around} {E : Value → Shared → Prop}
/-- self.f = y for the first time: the dict is laid, hung on, filled -/
theorem st_first (B : BsOk b) (T : OexB b X.K C) (I : Inv X pins σ H s) (e : H a = some (exo a C none)) (hno : PySem.W.findIn X.K (.ref C) f = some none) (ry : RelV y u) {Q : Unit → Shared → Prop}
    (h : ∀ dx s', H dx = none → dx ≠ a → Inv X pins σ (upd (upd H dx (exd dx [(f, y)])) a (exo a C (some dx))) s' → Q () s') : wpAny (model X.prog X.w) A (setAttr (.ref a) f u) Q E s := by
  obtain ⟨nm, q, N, bs, sn, sub, ab, col, dd, m0, m1, m2, m3, m5, hC⟩ := T.cls
  obtain ⟨cd, hcd, hmro, hdic⟩ : ∃ cd, PySem.W.clsIn X.K C = some cd ∧ cd.mro = .ref C :: b.tail ∧ cd.hasDict = true := by
    unfold PySem.W.clsIn
    rw [hC]
    exact ⟨_, rfl, rfl, rfl⟩
  have over : PySem.W.excOver X.K C b.tail = true := by
    unfold PySem.W.excOver
    rw [hcd]
    show (match cd.mro with | .ref C' :: bm => C' == C && PySem.W.excTail b.tail bm | _ => false) = true
    rw [hmro]
    show (C == C && PySem.W.excTail b.tail b.tail) = true
    rw [B.tl, beq_self_eq_true]
    rfl
  have taker : PySem.W.takerIn X.K C f = some none := by
    unfold PySem.W.takerIn
    rw [hno]
    rfl
  obtain ⟨t1, ho⟩ := L2.exo_at I.hok e
  obtain ⟨hp, g, d, t, os⟩ := s
  have at_a : PySem.W.InstAt hp a ⟨.ref C, none, .fields #[.ref t1, .none, .none, .none, .bool false, .none], #[]⟩ C none := ⟨ho, rfl, rfl, trivial⟩
  have fresh : H hp.objs.size = none := I.hok.fresh (Nat.le_refl _)
  have apart : hp.objs.size ≠ a := fun z => by rw [z, e] at fresh; cases fresh
  have n0 : (hp.push (PySem.W.dictOf [] 0)).Ns hp.objs.size fun _ => none := ⟨_, #[], _, Heap.get?_push_at rfl rfl, rfl, fun _ he => absurd he (by simp), fun _ => rfl⟩
  have hx1 : (hp.push (PySem.W.dictOf [] 0)).get? a = some (PySem.W.excObj C t1 none .none) := Heap.get?_push_of_some _ ho
  have J1 : Inv X pins σ (upd H hp.objs.size (exd hp.objs.size [])) ⟨hp.push (PySem.W.dictOf [] 0), g, d, t, os⟩ :=
    I.laid (t' := t) (a := hp.objs.size) (o := exd hp.objs.size []) (fun _ _ z => Heap.get?_push_of_some _ z) (Nat.le_refl _) (L2.exd_ok (Heap.Ns1.of_empty n0) fun _ => trivial)
  generalize hh2 : ((hp.push (PySem.W.dictOf [] 0)).update a fun o => { o with dict := some hp.objs.size }) = hp2
  have hx2 : hp2.get? a = some (PySem.W.excObj C t1 (some hp.objs.size) .none) := by rw [← hh2]; exact Heap.get?_update_self _ hx1 rfl
  have J2 : Inv X pins σ (upd (upd H hp.objs.size (exd hp.objs.size [])) a (exo a C (some hp.objs.size))) ⟨hp2, g, d, t, os⟩ := by
    refine J1.write (t' := t) (x := a) (e := a) (o := exo a C (some hp.objs.size)) (by rw [upd_ne (Ne.symm apart), e]; exact True.intro) (.inl rfl) (fun c o hc z => ?_) ⟨_, hx2⟩ (L2.exo_ok hx2)
    rw [← hh2]
    exact (Heap.get?_update_ne _ _ _ _ hc).trans z
  refine PySem.W.set_plain I.kIn at_a T.sa (PySem.W.osa_openX B.S I.kIn at_a over taker fun _ => ?_)
  refine wpAny_bind (wpAny_pure (wpAny_bind (PySem.W.instanceDict_exc ho (PySem.W.looks_clsIn I.kIn hcd) hdic ?_)))
  show wpAny _ _ (Builtin.ObjectAttr.storeInDict hp.objs.size _ f u) _ _ ⟨((hp.push (PySem.W.dictOf [] 0)).update a fun o => { o with dict := some hp.objs.size }), _, _, _, _⟩
  rw [hh2]
  have n2 : hp2.Ns hp.objs.size fun _ => none := by
    rw [← hh2]
    exact ⟨_, #[], _, (Heap.get?_update_ne _ _ _ _ apart).trans (Heap.get?_push_at rfl rfl), rfl, fun _ he => absurd he (by simp), fun _ => rfl⟩
  refine PySem.HandSPX.store_in_new n2 fun h3 tk3 hn hs => ?_
  have there : ∃ o, h3.get? hp.objs.size = some o := by
    obtain ⟨o, _, _, z, _⟩ := hn
    exact ⟨o, z⟩
  have J3 := J2.write (t' := tk3) (x := hp.objs.size) (e := hp.objs.size) (o := exd hp.objs.size [(f, y)]) (by rw [upd_ne apart, upd_same]; exact True.intro) (.inl rfl) (fun c o hc z => (hs.2 c hc).trans z) there (L2.exd_ok hn (L2.relO_put (fs := []) ry fun _ => trivial))
  have same : upd (upd (upd H hp.objs.size (exd hp.objs.size [])) a (exo a C (some hp.objs.size))) hp.objs.size (exd hp.objs.size [(f, y)]) = upd (upd H hp.objs.size (exd hp.objs.size [(f, y)])) a (exo a C (some hp.objs.size)) := by
    funext c
    by_cases c1 : c = hp.objs.size
    · rw [c1, upd_same, upd_ne apart, upd_same]
    · by_cases c2 : c = a
      · rw [upd_ne c1, c2, upd_same, upd_same]
      · rw [upd_ne c1, upd_ne c2, upd_ne c1, upd_ne c2, upd_ne c1]
  rw [same] at J3
  exact h _ _ fresh apart J3
/-- the base's own __init__: nothing is told of it -/
theorem binit_ok {us : List Value} {Q : Value → Shared → Prop} (B : BsOk b) (T : OexB b X.K C) (I : Inv X pins σ H s) (e : H a = some (exo a C none)) (hl : us.length ≤ sizeLine) (h : ∀ s', Inv X pins σ H s' → Q .none s') :
    wpAny (model X.prog X.w) A (call (.builtin b.ini) (.ref a :: us)) Q E s := by
  obtain ⟨nm, q, N, bs, sn, sub, ab, col, dd, m0, m1, m2, m3, m5, hC⟩ := T.cls
  obtain ⟨t1, ho⟩ := L2.exo_at I.hok e
  obtain ⟨hp, g, d, t, os⟩ := s
  refine wpAny_call (PySem.HandSPX.init_base B.F (fun _ => rfl) (I.kIn _ _ hC) ho hl fun h' t2 k hx => ?_)
  have J := I.write (t' := t) (x := a) (e := a) (o := exo a C none) (by rw [e]; trivial) (.inl rfl) k ⟨_, hx⟩ (L2.exo_ok hx)
  have z : upd H a (exo a C none) = H := funext fun c => by
    by_cases hc : c = a
    · rw [hc, upd_same, e]
    · exact upd_ne hc
  rw [z] at J
  exact h _ J
end
def tBin (b : BsE) (K : PySem.W.Frag) (ta : TA) : TE := fun σ H Q => ta σ H fun vs H1 => ∃ (a C : Addr) (ws : List V), vs = .ref a :: ws ∧ ws.length ≤ 1000 ∧ OexB b K C ∧ H1 a = some (exo a C none) ∧ Q .non H1
def tFst (b : BsE) (K : PySem.W.Frag) (f : Str) (to te : TE) : TS := fun D σ H => te σ H fun y H1 => to σ H1 fun x H2 => ∃ a C : Addr, x = .ref a ∧ OexB b K C ∧ PySem.W.findIn K (.ref C) f = some none ∧
  H2 a = some (exo a C none) ∧ ∀ dx, H2 dx = none → dx ≠ a → D.nx σ (upd (upd H2 dx (exd dx [(f, y)])) a (exo a C (some dx)))
section
variable {b : BsE} {X : Cx} {o e : Expr} {es : List Expr} {to te : TE} {ta : TA} {f : Str} {p p' p1 p2 pos : Pos}
theorem ps_fst (B : BsOk b) (ho : PE X o to) (he : PE X e te) (hs : swapsWith e (some (.Attribute o f p')) pos.line X.env = pure false := by rfl) : PS X (.Assign [.Attribute o f p'] e pos) (tFst b X.K f to te) := by
  refine ⟨fun pins s σ H D I h => ?_⟩
  refine plainObj_wpAny_Assign_Attribute (thn (he.run pins s σ H _ I h) fun v s1 ⟨y, H1, I1, r1, q1⟩ => thn (ho.run pins s1 σ H1 _ I1 q1) fun u s2 ⟨x, H2, I2, r2, a, C, ex, T, hno, ea, q⟩ => ?_) hs
  subst ex
  obtain rfl : u = Value.ref a := r2
  exact st_first B T I2 ea hno r1 fun dx s' n ne J => ⟨σ, _, J, q dx n ne⟩
theorem pe_binit {pl : Sem Bool} (B : BsOk b) (hg : Gl X (Str.ofString b.nm)) (hm : X.mg (Str.ofString b.nm) = none) (vV : PySem.W.findCls X.K (.type b.nm) (.type "type") "__init__" = some (.val (.builtin b.ini))) (ha : PA X (e :: es) ta)
    (hc : eval (.Call (.Attribute (.Name (Str.ofString b.nm) p1) "__init__" p2) (e :: es) [] pos) X.env = (eval (.Name (Str.ofString b.nm) p1) X.env >>= fun ov => standAt p2.atName >>= fun _ => holding [ov] (getMethod ov "__init__" pl) >>= fun fc => callWith pos fc.1 fc.2 (backTo pos (starEach (e :: es) X.env)) (backToKw pos (keywordEach [] X.env))) := by rfl)
    (he : starEach (e :: es) X.env = (false, eval e X.env) :: starEach es X.env := by rfl) (hpl : (backTo pos (starEach es X.env)).any (·.1) = false := by rfl) :
    PE X (.Call (.Attribute (.Name (Str.ofString b.nm) p1) "__init__" p2) (e :: es) [] pos) (tBin b X.K ta) := by
  refine ⟨fun pins s σ H Q I h => ?_⟩
  refine PySem.W.methodCall_KW (ld_blt I hg hm B.bt ?_ B.n1 B.n2) hc
  obtain ⟨m, fr⟩ := I.fr
  refine PySem.W.method_type fr I.ok.mod.kin B.ty B.st vV B.hi ?_
  refine PyProof.Rows.callWith_method1 (thn (ha.run pos pins _ σ H _ (I.tok _) h) fun us s1 ⟨vs, H1, I1, r1, a, C, ws, ev, hl, T, ea, q⟩ => ?_) he hpl
  subst ev
  cases r1 with
  | @cons _ u0 _ ur ra rw' =>
    obtain rfl : u0 = Value.ref a := ra
    have hz : ur.length ≤ sizeLine := by rw [← Paired.length rw', sizeLine_eq]; omega
    exact binit_ok B T I1 ea hz fun s' J => ⟨.non, H1, J, rfl, q⟩
end
section
variable {b : BsE} {X : Cx} {e : Expr} {es : List Expr} {ta : TA} {p pos : Pos}
theorem pmk_bareB {CX : CXT} {x : Str} {C fI : Addr} {k : Nat} {fd : FuncData} {ps : List Str} {sp : Sp} (B : BsOk b) (Z : ExB b X.K C fI) (F1 : FnOk X.prog X.w X.K X.mg X.base CX k fI fd ps sp) (hr : Room (k + 1) X.A) (hb : Binds X.K fd ps [])
    (hx : Passes CX X (fun _ _ _ => False)) (hg : Gl X x) (hm : X.mg x = some (.ref C)) (ha : PA X (e :: es) ta)
    (hdb : (x == ("__debug__" : Str)) = false := by decide) (he : starEach (e :: es) X.env = (false, eval e X.env) :: starEach es X.env := by rfl) (hpl : (backTo pos (starEach es X.env)).any (·.1) = false := by rfl) :
    PMk X (.Call (.Name x p) (e :: es) [] pos) (tMkN C sp ta) := by
  intro pins s σ H Q I hw
  obtain ⟨nm, q, N, bs, sn, sub, ab, col, dd, k0, k1, k2, k3, k5, hC⟩ := Z.T.cls
  refine wpAny_Call_Name_kw (ld_glob I hg hm ?_ hdb)
  refine PySem.W.callWith_K (h₀ := X.base) I.ok.mod.kin Z.T.kC (thn (ha.run pos pins s σ H _ I hw) fun us sA ⟨vs, HA, IA, rA, hz, qA⟩ => ⟨IA.kIn, ?_⟩) he hpl
  show wpAny _ _ (call (.ref C) us) _ _ _
  obtain ⟨hp, g, dr, tk, os⟩ := sA
  have big : hp.objs.size ≤ hp.objs.size + 1 := Nat.le_succ _
  have fresh : HA (hp.objs.size + 1) = none := IA.hok.fresh big
  have hq := qA (hp.objs.size + 1) fresh
  have kk : ∀ b o, hp.get? b = some o → ((hp.push (PySem.W.kdv_tup us)).push (PySem.HandSPX.excO C hp.objs.size)).get? b = some o := fun b o z => Heap.get?_push_of_some _ (Heap.get?_push_of_some _ z)
  have here : ((hp.push (PySem.W.kdv_tup us)).push (PySem.HandSPX.excO C hp.objs.size)).get? (hp.objs.size + 1) = some (PySem.HandSPX.excO C hp.objs.size) := by heap_get
  have IB : Inv X pins σ (upd HA (hp.objs.size + 1) (exo (hp.objs.size + 1) C none)) ⟨(hp.push (PySem.W.kdv_tup us)).push (PySem.HandSPX.excO C hp.objs.size), g, dr, tk, os⟩ :=
    IA.laid (t' := tk) (a := hp.objs.size + 1) (o := exo (hp.objs.size + 1) C none) (h' := (hp.push (PySem.W.kdv_tup us)).push (PySem.HandSPX.excO C hp.objs.size)) kk big (L2.exo_ok here)
  have rB : Vals (V.ref (hp.objs.size + 1) :: vs) (Value.ref (hp.objs.size + 1) :: us) := .cons rfl rA
  have hl : ((Value.ref (hp.objs.size + 1) :: us) ++ []).length = ps.length := by
    rw [List.append_nil, ← rB.length]
    exact F1.len _ _ _ _ hq
  have bi := hb _ (Value.ref (hp.objs.size + 1) :: us) IB.kIn hl
  rw [List.append_nil] at bi
  have hus : us.length ≤ sizeLine := by
    rw [← Paired.length rA, sizeLine_eq]
    omega
  refine wpAny_call (PySem.HandSPX.call_own B.F (fun _ => rfl) (IA.kIn _ _ hC) (PySem.W.looks_findIn IA.kIn Z.iC) (fun self => PySem.W.bind_fn IA.kIn self Z.tI) hus
    (codeAny_mono (F1.run _ X.stack _ _ ⟨Value.ref (hp.objs.size + 1) :: us, []⟩ (Value.ref (hp.objs.size + 1) :: us) _ _ (fun _ _ _ => False) (hr.make C us []) (IB.env0.make C us []) bi rB hq) fun r sC hq' => ?_))
  cases r with
  | error er => exact hx pins σ _ _ er sC IB hq'
  | ok fl =>
    cases fl with
    | ret u =>
      obtain ⟨v, H2, os2, bare2, un2, hok2, rv, ev, ea, q2⟩ := hq'
      subst ev
      obtain ⟨h2, g2, d2, t2, os'⟩ := sC
      obtain ⟨t0, G, J, kG, ge, hoe⟩ := let_go (d2 := d2) (t2 := t2) IA big kk un2 hok2 os2 bare2 ea
      exact ⟨rv, _, _, _, ⟨G, g2, d2, t2, os'⟩, _, .ref C, none, rfl, J, kG, ge, hoe, ⟨rfl, rfl⟩, rfl, rfl, del_same, rfl, bare2, raises_own Z.T.exC Z.T.tyC, q2⟩
    | next => exact False.elim hq'
    | brk => exact False.elim hq'
    | cont => exact False.elim hq'
theorem pmk_keepB {CX : CXT} {x : Str} {C fI : Addr} {k : Nat} {fd : FuncData} {ps : List Str} {sp : Sp} (B : BsOk b) (Z : ExB b X.K C fI) (F1 : FnOk X.prog X.w X.K X.mg X.base CX k fI fd ps sp) (hr : Room (k + 1) X.A) (hb : Binds X.K fd ps [])
    (hx : Passes CX X (fun _ _ _ => False)) (hg : Gl X x) (hm : X.mg x = some (.ref C)) (ha : PA X (e :: es) ta)
    (hdb : (x == ("__debug__" : Str)) = false := by decide) (he : starEach (e :: es) X.env = (false, eval e X.env) :: starEach es X.env := by rfl) (hpl : (backTo pos (starEach es X.env)).any (·.1) = false := by rfl) :
    PMk X (.Call (.Name x p) (e :: es) [] pos) (tMkO C sp [] ta) := by
  intro pins s σ H Q I hw
  obtain ⟨nm, q, N, bs, sn, sub, ab, col, dd, k0, k1, k2, k3, k5, hC⟩ := Z.T.cls
  refine wpAny_Call_Name_kw (ld_glob I hg hm ?_ hdb)
  refine PySem.W.callWith_K (h₀ := X.base) I.ok.mod.kin Z.T.kC (thn (ha.run pos pins s σ H _ I hw) fun us sA ⟨vs, HA, IA, rA, hz, qA⟩ => ⟨IA.kIn, ?_⟩) he hpl
  show wpAny _ _ (call (.ref C) us) _ _ _
  obtain ⟨hp, g, dr, tk, os⟩ := sA
  have big : hp.objs.size ≤ hp.objs.size + 1 := Nat.le_succ _
  have fresh : HA (hp.objs.size + 1) = none := IA.hok.fresh big
  have hq := qA (hp.objs.size + 1) fresh
  rw [List.append_nil] at hq
  have kk : ∀ b o, hp.get? b = some o → ((hp.push (PySem.W.kdv_tup us)).push (PySem.HandSPX.excO C hp.objs.size)).get? b = some o := fun b o z => Heap.get?_push_of_some _ (Heap.get?_push_of_some _ z)
  have here : ((hp.push (PySem.W.kdv_tup us)).push (PySem.HandSPX.excO C hp.objs.size)).get? (hp.objs.size + 1) = some (PySem.HandSPX.excO C hp.objs.size) := by heap_get
  have IB : Inv X pins σ (upd HA (hp.objs.size + 1) (exo (hp.objs.size + 1) C none)) ⟨(hp.push (PySem.W.kdv_tup us)).push (PySem.HandSPX.excO C hp.objs.size), g, dr, tk, os⟩ :=
    IA.laid (t' := tk) (a := hp.objs.size + 1) (o := exo (hp.objs.size + 1) C none) (h' := (hp.push (PySem.W.kdv_tup us)).push (PySem.HandSPX.excO C hp.objs.size)) kk big (L2.exo_ok here)
  have rB : Vals (V.ref (hp.objs.size + 1) :: vs) (Value.ref (hp.objs.size + 1) :: us) := .cons rfl rA
  have hl : ((Value.ref (hp.objs.size + 1) :: us) ++ []).length = ps.length := by
    rw [List.append_nil, ← rB.length]
    exact F1.len _ _ _ _ hq
  have bi := hb _ (Value.ref (hp.objs.size + 1) :: us) IB.kIn hl
  rw [List.append_nil] at bi
  have hus : us.length ≤ sizeLine := by
    rw [← Paired.length rA, sizeLine_eq]
    omega
  refine wpAny_call (PySem.HandSPX.call_own B.F (fun _ => rfl) (IA.kIn _ _ hC) (PySem.W.looks_findIn IA.kIn Z.iC) (fun self => PySem.W.bind_fn IA.kIn self Z.tI) hus
    (codeAny_mono (F1.run _ X.stack _ _ ⟨Value.ref (hp.objs.size + 1) :: us, []⟩ (Value.ref (hp.objs.size + 1) :: us) _ _ (fun _ _ _ => False) (hr.make C us []) (IB.env0.make C us []) bi rB hq) fun r sC hq' => ?_))
  cases r with
  | error er => exact hx pins σ _ _ er sC IB hq'
  | ok fl =>
    cases fl with
    | ret u =>
      obtain ⟨v, H2, os2, bare2, un2, hok2, rv, ev, d, fs, ea, ed, hd1, q2⟩ := hq'
      subst ev
      obtain ⟨h2, g2, d2, t2, os'⟩ := sC
      exact ⟨rv, mk_end (raises_own Z.T.exC Z.T.tyC) IA big kk un2 hok2 os2 bare2 ea ed hd1 q2⟩
    | next => exact False.elim hq'
    | brk => exact False.elim hq'
    | cont => exact False.elim hq'
end
section
variable {b : BsE} {X : Cx} {M : Mk0} {W : WX} {e : Expr} {fa : FE} {p pos rpos : Pos}
theorem pr_raiseB {x nm : Str} {C fI : Addr} {fd : FuncData} {ps : List Str} {k : Nat} (hc : X.calm = true) (tk : Takes X W) (B : BsOk b) (Z : ExB b X.K C fI) (F1 : FnOk X.prog X.w X.K X.mg X.base (L2.CX X.prog X.w) k fI fd ps (spExA C nm)) (hr : Room (k + 1) X.A)
    (hb : Binds X.K fd ps []) (hg : Gl X x) (hm : X.mg x = some (.ref C)) (ha : PD X M e fa)
    (hdb : (x == ("__debug__" : Str)) = false := by decide) (he : starEach [e] X.env = (false, eval e X.env) :: starEach [] X.env := by rfl) :
    PR X M W (.Raise (some (.Call (.Name x p) [e] [] pos)) none rpos) (fxRaise (.ref C) (some nm) fa) := by
  refine ⟨PS.wk (ps_raise hc tk (pmk_keepB B Z F1 hr hb passF hg hm (pa_cons ha.pe pa_nil he) hdb he rfl)) fun D σ H ⟨P, F, L, ρ, r, q⟩ => ?_, fun ρ k k' le q => ha.mono _ _ _ (fun d ρ1 q => le _ _ _ q) q⟩
  refine ⟨P, F, L, ρ, r, ha.mono _ _ _ (fun d ρ1 q v L1 H1 e1 r1 d1 => ?_) q⟩
  refine ⟨by simp, fun a hn => ?_⟩
  refine ⟨a, v, rfl, upd_same, fun dx hdx ne => ?_⟩
  have hdx1 : H1 dx = none := by rw [upd_ne ne] at hdx; exact hdx
  refine ⟨rfl, dx, [(nm, v)], upd_same, by rw [upd_ne ne, upd_same], hdx1, ?_⟩
  have hz : upd (L2.del (upd (upd (upd H1 a (exo a C none)) dx (exd dx [(nm, v)])) a (exo a C (some dx))) a) dx (.xd [(nm, v)]) = upd H1 dx (.xd [(nm, v)]) := by
    funext b
    by_cases hb : b = dx
    · rw [hb, upd_same, upd_same]
    · rw [upd_ne hb, upd_ne hb]
      by_cases hba : b = a
      · rw [hba, del_same, hn]
      · rw [del_ne hba, upd_ne hba, upd_ne hb, upd_ne hba]
  rw [hz]
  have ex : Ex (hide L1 H1) (hide L1 (upd H1 dx (.xd [(nm, v)]))) := hide_ex (Ex.new hdx1)
  refine q σ L1 _ (some dx) (e1.trans ex) (r1.ex (Ex.new hdx1)) (.inr ⟨dx, _, rfl, ?_, .cons (dp_ex ex _ _ d1) .nil⟩)
  exact hide_some.mpr ⟨r1.notL hdx1, upd_same⟩
theorem pr_raise0B {x : Str} {C fI : Addr} {fd : FuncData} {ps : List Str} {k : Nat} (hc : X.calm = true) (tk : Takes X W) (B : BsOk b) (Z : ExB b X.K C fI) (F1 : FnOk X.prog X.w X.K X.mg X.base (L2.CX X.prog X.w) k fI fd ps (spExN C)) (hr : Room (k + 1) X.A)
    (hb : Binds X.K fd ps []) (hg : Gl X x) (hm : X.mg x = some (.ref C)) (ha : PD X M e fa)
    (hdb : (x == ("__debug__" : Str)) = false := by decide) (he : starEach [e] X.env = (false, eval e X.env) :: starEach [] X.env := by rfl) :
    PR X M W (.Raise (some (.Call (.Name x p) [e] [] pos)) none rpos) (fxRaise (.ref C) none fa) := by
  refine ⟨PS.wk (ps_raise hc tk (pmk_bareB B Z F1 hr hb passF hg hm (pa_cons ha.pe pa_nil he) hdb he rfl)) fun D σ H ⟨P, F, L, ρ, r, q⟩ => ?_, fun ρ k k' le q => ha.mono _ _ _ (fun d ρ1 q => le _ _ _ q) q⟩
  refine ⟨P, F, L, ρ, r, ha.mono _ _ _ (fun d ρ1 q v L1 H1 e1 r1 d1 => ?_) q⟩
  refine ⟨by simp, fun a hn => ?_⟩
  refine ⟨a, v, rfl, upd_same, rfl, upd_same, ?_⟩
  obtain ⟨r2, e2⟩ := r1.around (o := exo a C none) hn (H2 := upd H1 a (exo a C none)) fun b hb => upd_ne hb
  exact q σ L1 _ none (e1.trans e2) r2 (.inl ⟨rfl, rfl⟩)
end
end PD
namespace PD
open PySem L2 PyProof.Rows PySem.Spec
open Evl (Ex)
end PD
namespace PD
open PySem L2 PyProof.Rows PySem.Spec
open Evl (Ex)
end PD
namespace PD
open PySem L2 PyProof.Rows PySem.Spec
open Evl (Ex)
theorem rp_err {K : Fr0} {H : Hp} {v : V} {C : Addr} {fl : List (D × D)} (h : Rp K H v (errD C fl)) :
    ∃ (a : Addr) (oe : Obj) (d : Option Addr), v = .ref a ∧ H a = some (ErO a oe) ∧ (oe.cls = .ref C ∧ oe.dict = d) ∧ (∃ vs, oe.data = .fields vs) ∧ XAt K H d fl := by
  cases h with
  | dct h1 h2 =>
    cases h2 with
    | @cons k _ _ _ _ _ h3 _ _ => cases k <;> cases h3
  | dctN h1 h2 =>
    cases h2 with
    | cons h3 _ _ _ _ => simp [keyN] at h3
  | er0 h1 h2 h3 h4 => exact ⟨_, _, none, rfl, h1, ⟨h2, h3⟩, h4, .inl ⟨rfl, rfl⟩⟩
  | er1 h1 h2 h3 h4 h5 h6 => exact ⟨_, _, some _, rfl, h1, ⟨h2, h3⟩, h4, .inr ⟨_, _, rfl, h5, h6⟩⟩
theorem err_rp {K : Fr0} {H : Hp} {a C : Addr} {oe : Obj} {d : Option Addr} {fl : List (D × D)} (h1 : H a = some (ErO a oe)) (h2 : oe.cls = .ref C ∧ oe.dict = d) (h3 : ∃ vs, oe.data = .fields vs) (h4 : XAt K H d fl) : Rp K H (.ref a) (errD C fl) := by
  obtain ⟨h2, h2'⟩ := h2
  rcases h4 with ⟨rfl, rfl⟩ | ⟨dd, fs, rfl, h5, h6⟩
  · exact .er0 h1 h2 h2' h3
  · exact .er1 h1 h2 h2' h3 h5 h6
section
variable {X : Cx} {M : Mk0} {e : Expr} {fo : FE} {n x : Str} {p px pos : Pos}
/-- an attribute of an error -/
def fErA (K : PySem.W.Frag) (n : Str) (fo : FE) : FE := fun ρ k => fo ρ fun d ρ1 => ∃ C fl x, d = errD C fl ∧ XfC K C ∧ PySem.W.findIn K (.ref C) n = some none ∧ lookF n fl = some x ∧ k x ρ1
theorem pd_errA (ho : PD X M e fo) (hb : attributeBase e n X.env (eval e X.env) = eval e X.env := by rfl) : PD X M (.Attribute e n pos) (fErA X.K n fo) := by
  refine ⟨⟨fun pins s σ H Q I ⟨P, F, L, ρ, r, q⟩ => ?_⟩, fun ρ k k' g q => ho.mono _ _ _ (fun d ρ1 ⟨C, fl, x, h1, h2, h3, h4, h5⟩ => ⟨C, fl, x, h1, h2, h3, h4, g _ _ h5⟩) q⟩
  refine attr_of hb (thn (ho.pe.run pins s σ H
    (fun v H1 => ∃ L1 ρ1 C fl x, Ex (hide L H) (hide L1 H1) ∧ R X.k0 M P F L1 ρ1 σ H1 ∧ Rp X.k0 (hide L1 H1) v (errD C fl) ∧ XfC X.K C ∧ PySem.W.findIn X.K (.ref C) n = some none ∧ lookF n fl = some x ∧ KV' X.k0 M P F L σ H Q x ρ1) I
    ⟨P, F, L, ρ, r, ho.mono _ _ _ (fun d ρ1 ⟨C, fl, x, h1, T, hno, hl, q⟩ v L1 H1 e1 r1 d1 => ⟨L1, ρ1, C, fl, x, e1, r1, by rw [← h1]; exact d1, T, hno, hl, q⟩) q⟩) fun u s1 ⟨v, H1, I1, rv, L1, ρ1, C, fl, x, e1, r1, d1, T, hno, hl, q⟩ => ?_)
  obtain ⟨a, oe, d, ev, h2, h3, h4, h5⟩ := rp_err d1
  subst ev
  cases (show u = Value.ref a from rv)
  have ha : ObjOk X.prog X.w H1 s1.heap a (.frz oe (.own a)) := I1.hok a _ (hide_some.mp h2).2
  rcases h5 with ⟨z, _⟩ | ⟨dd, fs, g1, g2, g3⟩
  · subst z
    cases hl
  · obtain ⟨v, k1, k2⟩ := lookF_ok g3 hl
    have hx : ObjOk X.prog X.w H1 s1.heap dd (.xd fs) := I1.hok dd _ (hide_some.mp g2).2
    obtain ⟨mA, hns, hr⟩ := hx
    obtain ⟨od, ho, hlk⟩ := lookIn_ns hns
    obtain ⟨u, hu, ru⟩ := RelO.some_of (v := v) (o := mA n) (by rw [← k1]; exact hr n)
    obtain ⟨vs, hvs⟩ := h4
    have J : PySem.W.InstAt s1.heap a oe C (some od) := ⟨ha.1, h3.1, by unfold PySem.W.notCls; rw [hvs] <;> rfl, by rw [h3.2, g1]; exact ho⟩
    exact HandSPX.exc_get I1.kIn J T.ga T.gg T.exC (PySem.W.findObj_own T.hdC hno rfl (by rw [hlk, hu])) (handed_of ru) ⟨v, H1, I1.tok _, ru, q v L1 H1 e1 r1 k2⟩
/-- isinstance of an error -/
def fIsErD (K : PySem.W.Frag) (c : Value) (fo : FE) : FE := fun ρ k => fo ρ fun d ρ1 => ∃ C fl b, d = errD C fl ∧ ExcC K C ∧ PySem.W.kitOne K (.ref C) c = some b ∧ k (.bool b) ρ1
theorem pd_isErD {v : V} {c : Value} (hg : Gl X "isinstance") (hm : X.mg "isinstance" = none) (ho : PD X M e fo) (hx : PE X (.Name x px) (tC v)) (hv : ∀ u, RelV v u → u = c)
    (hs : starEach [e, .Name x px] X.env = (false, eval e X.env) :: starEach [.Name x px] X.env := by rfl) (hs2 : starEach [.Name x px] X.env = (false, eval (.Name x px) X.env) :: starEach [] X.env := by rfl)
    (hpl : (backTo pos (starEach [.Name x px] X.env)).any (·.1) = false := by rfl) :
    PD X M (.Call (.Name "isinstance" p) [e, .Name x px] [] pos) (fIsErD X.K c fo) := by
  refine ⟨PE.wk (pe_callB call_isEr hg hm (by decide +kernel) (pa_cons ho.pe (pa_cons hx pa_nil hs2) hs) (by decide) (by decide) hs hpl) fun σ H Q ⟨P, F, L, ρ, r, q⟩ => ?_, fun ρ k k' g q => ho.mono _ _ _ (fun d ρ1 ⟨C, fl, b, h1, h2, h3, h4⟩ => ⟨C, fl, b, h1, h2, h3, g _ _ h4⟩) q⟩
  refine ⟨P, F, L, ρ, r, ho.mono _ _ _ (fun d ρ1 ⟨C, fl, b, h1, T, hk, q⟩ w L1 H1 e1 r1 d1 => ?_) q⟩
  subst h1
  obtain ⟨a, oe, dd, ev, h2⟩ := rp_err d1
  subst ev
  exact ⟨a, C, v, c, b, rfl, ⟨L1, oe, dd, fl, h2⟩, hv, T, hk, q _ L1 H1 e1 r1 (.bl b)⟩
end
section
variable {X : Cx} {e : Expr} {t : L2.St → Hp → XK → Prop}
theorem pe_of_mk (h : PMk X e t) : PE X e (fun σ H Q => t σ H fun cls d H' => ∀ a oe, H' a = none → Zc cls d oe → (∃ vs, oe.data = .fields vs) → Q (.ref a) (upd H' a (ErO a oe))) := by
  constructor
  intro pins s σ H Q I hw
  refine wpAny_mono (h pins s σ H _ I hw) (fun u s1 hu => ?_) fun _ _ x => x
  obtain ⟨a, oe, vs, sI, H', cls, d, rfl, J, k, hne, ha, hz, hd, h1, na, os, ag, r, q⟩ := hu
  have J1 := J.kept (t' := s1.toks) k
  have J2 : Inv X pins σ H' s1 := ⟨J1.ok, by rw [os]; exact J1.os, ag, J1.base, J1.loc, J1.cell, J1.free, J1.freeC, J1.pin, J1.hok, J1.len⟩
  have n0 : ∀ o, X.s_0.heap.get? a = some o → a ∈ X.ex := fun o e => by
    by_cases hx : a ∈ X.ex
    · exact hx
    · obtain ⟨o', z⟩ := J.base.there a o e hx
      rw [hne] at z
      cases z
  have np : ∀ p ∈ X.pn ++ pins, p.1 ≠ a := fun p hp z => by
    have q := (J.pin p hp).1
    rw [z, hne] at q
    cases q
  have nL : a ≠ X.env.locals := fun z => by
    obtain ⟨m, ⟨o, es, ep, e1, _⟩, _⟩ := J.loc
    rw [← z, hne] at e1
    cases e1
  exact ⟨.ref a, _, track J2 ha hd na n0 np nL, rfl, q a oe na hz ⟨vs, hd⟩⟩
end
section
variable {X : Cx} {M : Mk0} {ce : Expr} {fa : FE} {C : Addr} {nm : Str}
/-- an error is made of one thing -/
def fMkE (C : Addr) (nm : Option Str) (fa : FE) : FE := fun ρ k => fa ρ fun d ρ1 => k (errD C (match nm with | some n => [(.str n, d)] | none => [])) ρ1
theorem pd_mkA (hmono : ∀ ρ k k', (∀ d ρ', k d ρ' → k' d ρ') → fa ρ k → fa ρ k') (h : PMk X ce (tMkO C (spExA C nm) [] (tCons (DE X.k0 M fa) tNil))) : PD X M ce (fMkE C (some nm) fa) := by
  refine ⟨PE.wk (pe_of_mk h) fun σ H Q ⟨P, F, L, ρ, r, q⟩ => ?_, fun ρ k k' le q => hmono _ _ _ (fun d ρ1 q => le _ _ q) q⟩
  refine ⟨P, F, L, ρ, r, hmono _ _ _ (fun d ρ1 q v L1 H1 e1 r1 d1 => ?_) q⟩
  refine ⟨by simp, fun a hn => ?_⟩
  refine ⟨a, v, rfl, upd_same, fun dx hdx ne => ?_⟩
  have hdx1 : H1 dx = none := by rw [upd_ne ne] at hdx; exact hdx
  refine ⟨rfl, dx, [(nm, v)], upd_same, by rw [upd_ne ne, upd_same], hdx1, fun a' oe na hz hf => ?_⟩
  have hz' : upd (L2.del (upd (upd (upd H1 a (exo a C none)) dx (exd dx [(nm, v)])) a (exo a C (some dx))) a) dx (.xd [(nm, v)]) = upd H1 dx (.xd [(nm, v)]) := by
    funext b
    by_cases hb : b = dx
    · rw [hb, upd_same, upd_same]
    · rw [upd_ne hb, upd_ne hb]
      by_cases hba : b = a
      · rw [hba, del_same, hn]
      · rw [del_ne hba, upd_ne hba, upd_ne hb, upd_ne hba]
  rw [hz'] at na ⊢
  have ex1 : Ex H1 (upd H1 dx (.xd [(nm, v)])) := Ex.new hdx1
  have ex2 : Ex (upd H1 dx (.xd [(nm, v)])) (upd (upd H1 dx (.xd [(nm, v)])) a' (ErO a' oe)) := Ex.new na
  have ex : Ex (hide L1 H1) (hide L1 (upd (upd H1 dx (.xd [(nm, v)])) a' (ErO a' oe))) := (hide_ex ex1).trans (hide_ex ex2)
  have r2 := (r1.ex ex1).ex ex2
  have hd : hide L1 (upd (upd H1 dx (.xd [(nm, v)])) a' (ErO a' oe)) dx = some (.xd [(nm, v)]) := hide_ex ex2 _ _ (hide_some.mpr ⟨r1.notL hdx1, upd_same⟩)
  refine q _ L1 _ (e1.trans ex) r2 (err_rp (d := some dx) (hide_some.mpr ⟨(r1.ex ex1).notL na, upd_same⟩) hz hf (.inr ⟨dx, _, rfl, hd, .cons (dp_ex ex _ _ d1) .nil⟩))
theorem pd_mkN (hmono : ∀ ρ k k', (∀ d ρ', k d ρ' → k' d ρ') → fa ρ k → fa ρ k') (h : PMk X ce (tMkN C (spExN C) (tCons (DE X.k0 M fa) tNil))) : PD X M ce (fMkE C none fa) := by
  refine ⟨PE.wk (pe_of_mk h) fun σ H Q ⟨P, F, L, ρ, r, q⟩ => ?_, fun ρ k k' le q => hmono _ _ _ (fun d ρ1 q => le _ _ q) q⟩
  refine ⟨P, F, L, ρ, r, hmono _ _ _ (fun d ρ1 q v L1 H1 e1 r1 d1 => ?_) q⟩
  refine ⟨by simp, fun a hn => ?_⟩
  refine ⟨a, v, rfl, upd_same, rfl, upd_same, fun a' oe na hz hf => ?_⟩
  obtain ⟨r2, e2⟩ := r1.around (o := exo a C none) hn (H2 := upd H1 a (exo a C none)) fun b hb => upd_ne hb
  have ex2 : Ex (L2.del (upd H1 a (exo a C none)) a) (upd (L2.del (upd H1 a (exo a C none)) a) a' (ErO a' oe)) := Ex.new na
  exact q _ L1 _ (e1.trans (e2.trans (hide_ex ex2))) (r2.ex ex2) (err_rp (d := none) (hide_some.mpr ⟨r2.notL na, upd_same⟩) hz hf (.inl ⟨rfl, rfl⟩))
end
section
variable {b : BsE} {X : Cx} {M : Mk0} {e : Expr} {fa : FE} {p pos : Pos} {x nm : Str} {C fI : Addr} {fd : FuncData} {ps : List Str} {k : Nat}
theorem pd_mkO (Z : ExC X.K C fI) (F1 : FnOk X.prog X.w X.K X.mg X.base (L2.CX X.prog X.w) k fI fd ps (spExA C nm)) (hr : Room (k + 1) X.A) (hb : Binds X.K fd ps []) (hg : Gl X x) (hm : X.mg x = some (.ref C)) (ha : PD X M e fa)
    (hdb : (x == ("__debug__" : Str)) = false := by decide) (he : starEach [e] X.env = (false, eval e X.env) :: starEach [] X.env := by rfl) : PD X M (.Call (.Name x p) [e] [] pos) (fMkE C (some nm) fa) :=
  pd_mkA ha.mono (pmk_oex (dvs := []) Z.T Z.iC Z.tI F1 hr hb .nil passF hg hm (pa_cons ha.pe pa_nil he) hdb he rfl)
theorem pd_mkO0 (Z : ExC X.K C fI) (F1 : FnOk X.prog X.w X.K X.mg X.base (L2.CX X.prog X.w) k fI fd ps (spExN C)) (hr : Room (k + 1) X.A) (hb : Binds X.K fd ps []) (hg : Gl X x) (hm : X.mg x = some (.ref C)) (ha : PD X M e fa)
    (hdb : (x == ("__debug__" : Str)) = false := by decide) (he : starEach [e] X.env = (false, eval e X.env) :: starEach [] X.env := by rfl) : PD X M (.Call (.Name x p) [e] [] pos) (fMkE C none fa) :=
  pd_mkN ha.mono (pmk_bare Z F1 hr hb passF hg hm (pa_cons ha.pe pa_nil he) hdb he rfl)
theorem pd_mkB (B : BsOk b) (Z : ExB b X.K C fI) (F1 : FnOk X.prog X.w X.K X.mg X.base (L2.CX X.prog X.w) k fI fd ps (spExA C nm)) (hr : Room (k + 1) X.A) (hb : Binds X.K fd ps []) (hg : Gl X x) (hm : X.mg x = some (.ref C)) (ha : PD X M e fa)
    (hdb : (x == ("__debug__" : Str)) = false := by decide) (he : starEach [e] X.env = (false, eval e X.env) :: starEach [] X.env := by rfl) : PD X M (.Call (.Name x p) [e] [] pos) (fMkE C (some nm) fa) :=
  pd_mkA ha.mono (pmk_keepB B Z F1 hr hb passF hg hm (pa_cons ha.pe pa_nil he) hdb he rfl)
theorem pd_mkB0 (B : BsOk b) (Z : ExB b X.K C fI) (F1 : FnOk X.prog X.w X.K X.mg X.base (L2.CX X.prog X.w) k fI fd ps (spExN C)) (hr : Room (k + 1) X.A) (hb : Binds X.K fd ps []) (hg : Gl X x) (hm : X.mg x = some (.ref C)) (ha : PD X M e fa)
    (hdb : (x == ("__debug__" : Str)) = false := by decide) (he : starEach [e] X.env = (false, eval e X.env) :: starEach [] X.env := by rfl) : PD X M (.Call (.Name x p) [e] [] pos) (fMkE C none fa) :=
  pd_mkN ha.mono (pmk_bareB B Z F1 hr hb passF hg hm (pa_cons ha.pe pa_nil he) hdb he rfl)
end
end PD
namespace PD
open PySem L2 PyProof.Rows PySem.Spec
open Evl (Ex)
def wDat (K : PySem.W.Frag) (D : Ends) (i : Nat) : List (List Value × TS) → WX
  | [] => fun _ _ _ _ => False
  | (cs, ts) :: r => fun cls d σ H => ∃ b, PySem.W.exmAny K cls cs = some b ∧ (b = true → ∀ a oe, H a = none → Zc cls d oe → (∃ vs, oe.data = .fields vs) →
      ts { nx := fun σ' H' => D.nx (σ'.set i none) H', rt := fun _ _ => False } (σ.set i (some (.ref a))) (upd H a (ErO a oe))) ∧ (b = false → wDat K D i r cls d σ H)
inductive HdsT (X : Cx) (n : Str) : List ExceptHandler → List (List Value × TS) → Prop
  | nil : HdsT X n [] []
  | cons {es : List Expr} {cs : List Value} {ts : TS} {b₀ : Stmt} {suite : List Stmt} {x1 : Nat} {tp hp : Pos} {hds : List ExceptHandler} {l : List (List Value × TS)} (hc : NamesL X es cs) (hsz : cs.length ≤ sizeLine)
      (hsu : ∀ (a : Addr) (pn : List (Addr × Obj)), PSs (X.suite a pn) (b₀ :: suite) ts) (r : HdsT X n hds l) :
      HdsT X n (.ExceptHandler (some (.Tuple es x1 tp)) (some n) (b₀ :: suite) hp :: hds) ((cs, ts) :: l)
section
variable {X : Cx} {body : List Stmt} {n : Str} {i : Nat} {pos : Pos} {tb : WX → TS}
theorem handle_dat (hs : X.stack = X.env :: X.outer) (hf : X.env.frame = some X.env.locals) {pins : List (Addr × Obj)} {σ : L2.St} {H : Hp} {sI s : Shared} {B : Heap} {a : Addr} {cls : Value} {d : Option Addr} {D : Ends} (ok : X.Ok)
    (hN : X.N.Nodup) (hi : X.N[i]? = some n) (hln : X.env.kindOf n = some .local) {hds : List ExceptHandler} {l : List (List Value × TS)} (hh : HdsT X n hds l) :
    ∀ {h0 : Heap}, Ground X pins σ H sI B a cls d h0 s → wDat X.K D i l cls d σ H → wpAny (model X.prog X.w) X.A (handleBy (.ref a) X.env hds) (SP X pins D) X.xe { s with heap := h0 } := by
  induction hh with
  | nil => intro h0 G wq; exact wq.elim
  | @cons es cs ts b₀ suite x1 tp hp hds l hc hsz hsu hr ih =>
    intro h0 G wq
    obtain ⟨b, hx, wt, wf⟩ := wq
    obtain ⟨oe3, he3, hz3, hd3, S3⟩ := G.suite hf
    have spl : ∀ {es : List Expr} {cs : List Value} {Q : List Value → Shared → Prop} {E : Value → Shared → Prop} {pos : Pos}, NamesL X es cs → Q cs { s with heap := h0 } → wpAny (model X.prog X.w) (X.A.mark (some (.ref a))) (spliced (backTo pos (starEach es X.env))) Q E { s with heap := h0 } := fun {es cs Q E pos} h => by
      induction h generalizing Q with
      | nil => exact fun q => Calls.spliced_nil q
      | @cons x np c es cs hc r ih =>
        intro q
        rw [show starEach (.Name x np :: es) X.env = (false, eval (.Name x np) X.env) :: starEach es X.env from rfl]
        show wpAny _ _ (spliced ((false, eval (.Name x np) X.env) :: backTo pos (starEach es X.env))) _ _ _
        refine Calls.spliced_cons ?_
        have go : ∀ {Q' : Value → Shared → Prop}, Q' c { s with heap := h0 } → wpAny (model X.prog X.w) (X.A.mark (some (.ref a))) (eval (.Name x np) X.env) Q' E { s with heap := h0 } := fun {Q'} q => by
          obtain ⟨hg, hdbg, hm | ⟨hm, hv, hnn⟩⟩ := hc
          · exact ld_glob (X := X.suite a ((a, oe3) :: (X.pn ++ pins))) S3 hg hm q hdbg
          · exact ld_blt (X := X.suite a ((a, oe3) :: (X.pn ++ pins))) S3 hg hm hv q hnn hdbg
        exact go (ih q)
    have k5 : ∀ b o, h0.get? b = some o → (h0.push { cls := .type "tuple", data := .seq cs.toArray }).get? b = some o := fun b o e => Heap.get?_push_of_some _ e
    have LT : PySem.W.Looks (model X.prog X.w) (h0.push { cls := .type "tuple", data := .seq cs.toArray }) (typeOf (.ref a)) cls := fun A Q E s' kp q => wpAny_typeOf_ref (kp _ _ (k5 _ _ he3)) (by rw [hz3.1]; exact q)
    have kin : X.K.In (h0.push { cls := .type "tuple", data := .seq cs.toArray }) := S3.kIn.keeps k5
    have G5 : Ground X pins σ H sI B a cls d (h0.push { cls := .type "tuple", data := .seq cs.toArray }) s := ⟨G.J, G.nb, fun b o e hn => by
      obtain ⟨sl, z⟩ := G.up b o e hn
      exact ⟨sl, k5 _ _ z⟩, flying_keep k5 G.fl, G.os, G.ag, G.na⟩
    have nI : sI.heap.get? a = none := by
      cases e : sI.heap.get? a with
      | none => rfl
      | some o =>
        have off : a ∉ frs X.stack := fun hm => by
          rw [hs] at hm
          obtain ⟨_, ob, eb, hnf⟩ := G.fl.2.2.1.mem hm
          rw [he3] at eb
          cases eb
          obtain ⟨vs, hv⟩ := hd3
          exact hnf vs hv
        have z := G.nb a o e off
        rw [G.fl.2.1] at z
        cases z
    have n0 : ∀ o, X.s_0.heap.get? a = some o → a ∈ X.ex := fun o e => by
      by_cases hx : a ∈ X.ex
      · exact hx
      · obtain ⟨o', z⟩ := G.J.base.there a o e hx
        rw [nI] at z
        cases z
    have np : ∀ p ∈ X.pn ++ pins, p.1 ≠ a := fun p hp z => by
      have q := (G.J.pin p hp).1
      rw [z, nI] at q
      cases q
    refine wpAny_handleBy_cons (codeAny_handlers_test (wpAny_Tuple_spliced (spl hc ⟨hsz, (PySem.W.exm_tupN (M := model X.prog X.w) kin LT (Heap.get?_push_size _ rfl) hx).here ?_⟩))) (by intro q; cases q)
    cases b with
    | false => exact ih G5 (wf rfl)
    | true =>
      have wq := wt rfl
      refine codeAny_handlers_suite_as (HandSPX.lands_againZ G5.fl fun h4 fl4 up4 => ?_)
      have G4 : Ground X pins σ H sI B a cls d h4 s := ⟨G5.J, G5.nb, G5.up.trans up4, fl4, G5.os, G5.ag, G5.na⟩
      obtain ⟨oe4, he4, hz4, hd4, S4⟩ := G4.suite hf
      refine store_ok (X := X.suite a ((a, oe4) :: (X.pn ++ pins))) (v := .ref a) S4 hN hi (.inl hln) rfl (fun s5 S5 => ?_) (.inr hln)
      obtain ⟨p1, p2, p3, p4, p5⟩ := S5.pin (a, oe4) (by rw [List.append_nil]; exact List.mem_cons_self)
      obtain ⟨vs, hv⟩ := id hd4
      have S6 : Inv (X.suite a (X.pn ++ pins)) [] (σ.set i (some (.ref a))) H s5 := ⟨ok.suite _ _, S5.os, S5.bare, S5.base, S5.loc, S5.cell, S5.free, S5.freeC, fun p hp => S5.pin p (by
        have hp' : p ∈ X.pn ++ pins := by rw [List.append_nil] at hp; exact hp
        rw [List.append_nil]
        exact List.mem_cons_of_mem _ hp'), S5.hok, S5.len⟩
      have S7 := track S6 p1 hv p2 n0 (fun p hp => np p (by rw [List.append_nil] at hp; exact hp)) p3
      refine wpAny_mono ((hsu a (X.pn ++ pins)).run [] s5 _ _ _ S7 (wq a oe4 G.na hz4 hd4)) (fun fo s6 hsp => ?_) (fun _ _ z => False.elim z)
      cases fo with
      | ret u =>
        obtain ⟨_, _, _, _, _, q6⟩ := hsp
        exact q6.elim
      | brk =>
        obtain ⟨_, _, _, q6⟩ := hsp
        exact q6.elim
      | cont =>
        obtain ⟨_, _, _, q6⟩ := hsp
        exact q6.elim
      | next =>
        obtain ⟨σ6, H6, S8, q6⟩ := hsp
        refine gone_ok (X := X.suite a (X.pn ++ pins)) S8 hN hi hln fun s7 S9 => ?_
        exact ⟨_, _, ⟨ok, S9.os, S9.bare, S9.base, S9.loc, S9.cell, S9.free, S9.freeC, fun p hp => S9.pin p (List.mem_append_left _ hp), S9.hok, S9.len⟩, q6⟩
theorem ps_try_dat (hs : X.stack = X.env :: X.outer) (hf : X.env.frame = some X.env.locals)
    (hb : ∀ (W : WX) (pn : List (Addr × Obj)) (xe : Value → Shared → Prop), Takes (X.tr pn xe) W → PassesOwn (model X.prog X.w) X.A X.env xe → PSs (X.tr pn xe) body (tb W))
    (hN : X.N.Nodup) (hi : X.N[i]? = some n) (hln : X.env.kindOf n = some .local) {h₀ : ExceptHandler} {hds : List ExceptHandler} {l : List (List Value × TS)} (hh : HdsT X n (h₀ :: hds) l) :
    PS X (.Try body (h₀ :: hds) [] [] pos) (fun D σ H => tb (wDat X.K D i l) D σ H) := by
  constructor
  intro pins s σ H D I hw
  have ok := I.ok
  refine wpAny_Try_except (wpAny_mono ((hb (wDat X.K D i l) (X.pn ++ pins) (fun e sA => wpAny (model X.prog X.w) X.A (noteFrame e X.env) (fun _ sB => wpAny (model X.prog X.w) X.A (setFlight e none) (fun _ sC =>
    wpAny (model X.prog X.w) X.A (handleBy e X.env (h₀ :: hds)) (SP X pins D) X.xe sC) X.xe sB) X.xe sA) (fun u sA xx => ?_) PassesOwn.looking).run [] s σ H D (I.toTry _) hw) (fun fo s1 hsp => ?_) (fun e s1 he => he))
  · obtain ⟨a, B, sI, pins', σ', H', cls, d, rfl, J', nb, up, sky, na, os, ag, w⟩ := xx
    have sky' : Sky B (X.env :: X.outer) a (Zc cls d) X.env.locals sA.heap := by rw [← hs]; exact sky
    exact Sky.land Zc.steady (by rw [ok.frames, hs]) hf sky' fun h3 fl3 up3 => handle_dat hs hf ok hN hi hln hh ⟨J'.ofTry ok, nb, up.trans up3, fl3, os, ag, na⟩ w
  · cases fo with
    | ret v =>
      obtain ⟨v, σ', H', J', r, q⟩ := hsp
      exact ⟨v, σ', H', J'.ofTry ok, r, q⟩
    | next =>
      obtain ⟨σ', H', J', q⟩ := hsp
      exact wpAny_execs_nil ⟨σ', H', J'.ofTry ok, q⟩
    | brk =>
      obtain ⟨σ', H', J', q⟩ := hsp
      exact ⟨σ', H', J'.ofTry ok, q⟩
    | cont =>
      obtain ⟨σ', H', J', q⟩ := hsp
      exact ⟨σ', H', J'.ofTry ok, q⟩
end
def pickD (K : PySem.W.Frag) (i : Nat) : List (List Value × FS) → Value → List (D × D) → Rho → Post → Prop
  | [] => fun _ _ _ _ => False
  | (cs, fs) :: r => fun c fl ρ P => ∃ b, PySem.W.exmAny K c cs = some b ∧ (b = true → ∃ C, c = .ref C ∧ i < ρ.sl.length ∧ fs (ρ.set i (.d (errD C fl))) { nx := fun ρ' => P.nx (ρ'.set i .no), rt := fun _ _ => False }) ∧ (b = false → pickD K i r c fl ρ P)
def fsTryD (K : PySem.W.Frag) (fb : FS) (fx : FX) (i : Nat) (l : List (List Value × FS)) : FS := fun ρ P => fb ρ P ∨ fx ρ fun c fl ρ1 => pickD K i l c fl ρ1 P
inductive HdT (X : Cx) (M : Mk0) (n : Str) : List ExceptHandler → List (List Value × FS) → Prop
  | nil : HdT X M n [] []
  | cons {es : List Expr} {cs : List Value} {fs : FS} {b₀ : Stmt} {suite : List Stmt} {x1 : Nat} {tp hp : Pos} {hds : List ExceptHandler} {l : List (List Value × FS)} (hc : NamesL X es cs) (hsz : cs.length ≤ sizeLine)
      (hsu : ∀ (a : Addr) (pn : List (Addr × Obj)), PDs (X.suite a pn) M (b₀ :: suite) fs) (r : HdT X M n hds l) :
      HdT X M n (.ExceptHandler (some (.Tuple es x1 tp)) (some n) (b₀ :: suite) hp :: hds) ((cs, fs) :: l)
theorem HdT.hds {X : Cx} {M : Mk0} {n : Str} {hds : List ExceptHandler} {l : List (List Value × FS)} (h : HdT X M n hds l) : HdsT X n hds (l.map fun q => (q.1, DS X.k0 M q.2)) := by
  induction h with
  | nil => exact .nil
  | cons hc hsz hsu r ih => exact .cons hc hsz (fun a pn => (hsu a pn).ps) ih
theorem pickD_mono {X : Cx} {M : Mk0} {n : Str} {i : Nat} {hds : List ExceptHandler} {l : List (List Value × FS)} (h : HdT X M n hds l) {c : Value} {fl : List (D × D)} {ρ : Rho} {k k' : Post} (le : Post.Le k k') : pickD X.K i l c fl ρ k → pickD X.K i l c fl ρ k' := by
  induction h with
  | nil => exact fun z => z
  | cons hc hsz hsu r ih =>
    rintro ⟨b, h1, h2, h3⟩
    refine ⟨b, h1, fun hb => ?_, fun hb => ih (h3 hb)⟩
    obtain ⟨C, e, hl, q⟩ := h2 hb
    exact ⟨C, e, hl, (hsu 0 []).mono _ { nx := fun ρ' => k.nx (ρ'.set i .no), rt := fun _ _ => False } _ ⟨fun ρ' z => le.nx _ z, fun _ _ z => z, fun _ z => z, fun _ z => z⟩ q⟩
section
variable {X : Cx} {M : Mk0} {body : List Stmt} {n : Str} {i : Nat} {pos : Pos} {fb : FS} {fx : FX}
theorem pick_dat {P : Option Addr} {F : Hp} {L : List Addr} {H : Hp} {D : Ends} {hds : List ExceptHandler} {l : List (List Value × FS)} (h : HdT X M n hds l) {c : Value} {d : Option Addr} {fl : List (PD.D × PD.D)} {ρ1 : Rho} {σ' : L2.St} {L' : List Addr} {H' : Hp}
    (e : Ex (hide L H) (hide L' H')) (rr : R X.k0 M P F L' ρ1 σ' H') (x : XAt X.k0 (hide L' H') d fl) (q : pickD X.K i l c fl ρ1 (postOf X.k0 M P F L H D)) : wDat X.K D i (l.map fun q => (q.1, DS X.k0 M q.2)) c d σ' H' := by
  induction h with
  | nil => exact q.elim
  | @cons es cs fs b₀ suite x1 tp hp hds l hc hsz hsu r ih =>
    obtain ⟨b, h1, h2, h3⟩ := q
    refine ⟨b, h1, fun hb a oe na hz hf => ?_, fun hb => ih (h3 hb)⟩
    obtain ⟨C, ec, hl, q⟩ := h2 hb
    subst ec
    have hL : a ∉ L' := fun ha => by
      obtain ⟨o, q⟩ := rr.tr a ha
      rw [na] at q
      cases q
    have ex1 : Ex H' (upd H' a (ErO a oe)) := Ex.new na
    have r2 := (rr.ex ex1).setD i (.d (errD C fl)) (some (.ref a)) ⟨.ref a, rfl, err_rp (hide_some.mpr ⟨hL, upd_same⟩) hz hf (x.up (hide_ex ex1))⟩ (fun xs z => nomatch z)
    refine ⟨P, F, L', _, r2, (hsu 0 []).mono _ { nx := fun ρ' => (postOf X.k0 M P F L H D).nx (ρ'.set i .no), rt := fun _ _ => False } _ ⟨fun ρ2 z σ2 L2 H2 e2 rr2 => ?_, fun _ _ z => z.elim, fun _ z => z.elim, fun _ z => z.elim⟩ q⟩
    have e3 : Ex (hide L H) (hide L2 H2) := (e.trans (hide_ex ex1)).trans e2
    exact z (σ2.set i none) L2 H2 e3 (rr2.setD i .no none trivial (fun xs z => nomatch z))
theorem pds_try_dat (hs : X.stack = X.env :: X.outer) (hf : X.env.frame = some X.env.locals)
    (hb : ∀ (Y : Cx) (W : WX) (pn : List (Addr × Obj)) (xe : Value → Shared → Prop), Y = X.tr pn xe → Takes Y W → PassesOwn (model X.prog X.w) X.A X.env xe → PDs Y M body fb ∧ PRs Y M W body fx)
    (hN : X.N.Nodup) (hi : X.N[i]? = some n) (hln : X.env.kindOf n = some .local) {h₀ : ExceptHandler} {hds : List ExceptHandler} {l : List (List Value × FS)} (hh : HdT X M n (h₀ :: hds) l) :
    PDS X M (.Try body (h₀ :: hds) [] [] pos) (fsTryD X.K fb fx i l) := by
  obtain ⟨mb, mx⟩ : (∀ ρ k k', Post.Le k k' → fb ρ k → fb ρ k') ∧ ∀ ρ k k', (∀ c fl ρ', k c fl ρ' → k' c fl ρ') → fx ρ k → fx ρ k' := by
    obtain ⟨b1, b2⟩ := hb _ (fun _ _ _ _ => False) X.pn (fun _ _ => False) rfl takes_none5 PassesOwn.never
    exact ⟨b1.mono, b2.mono⟩
  refine ⟨PS.wk (ps_try_dat (tb := fun W D σ H => DS X.k0 M fb D σ H ∨ DX X.k0 M W fx σ H) hs hf (fun W pn xe tk po => ?_) hN hi hln hh.hds) fun D σ H ⟨P, F, L, ρ, r, q⟩ => ?_, fun ρ k k' le q => ?_⟩
  · obtain ⟨b1, b2⟩ := hb _ W pn xe rfl tk po
    exact pss_or b1.ps b2.ps
  · rcases q with q | q
    · exact .inl ⟨P, F, L, ρ, r, q⟩
    · exact .inr ⟨P, F, L, ρ, r, mx _ _ _ (fun c fl ρ1 z σ' L' H' d e rr x => pick_dat hh e rr x z) q⟩
  · exact q.elim (fun z => .inl (mb _ _ _ le z)) fun z => .inr (mx _ _ _ (fun c fl ρ1 y => pickD_mono hh le y) z)
end
end PD
namespace PySem.HandSPX
open PySem PySem.Spec PyProof.Rows PySem.Calls
section
variable {P : Program} {w : World} {B nw ini : String} {tl tb : List Value} {C : Addr} {kn : Str} {u : Value}
/-- the class object, its other parts left open -/
def IsExcC (h : Heap) (C : Addr) (tl : List Value) (nw : String) : Prop := ∃ (nm q : Str) (N : Addr) (bs : List Value) (hd : Bool) (sn : List Str) (sub : List Value) (ab : Bool) (col : Option Bool) (dd : Option Addr) (k0 k1 k2 k3 k5 : Option Value),
  h.get? C = some (excClassObj nm q C N bs tl hd sn sub ab col dd k0 k1 k2 k3 k5 nw)
theorem kw_check_new {A : Around} {E : Value → Shared → Prop} {s : Shared} (F : ExcBaseFacts B nw ini tb) (hT : ∀ Y : String, tl.contains (.type Y) = tb.contains (.type Y)) (hc : IsExcC s.heap C tl nw) {Q : Unit → Shared → Prop} (hq : Q () s) :
    wpAny (model P w) A (checkBuiltinCall nw ⟨[.ref C], [(kn, u)]⟩) Q E s := by
  obtain ⟨nm, q, N, bs, hd, sn, sub, ab, col, dd, k0, k1, k2, k3, k5, hC⟩ := hc
  obtain ⟨hh, gg, dr, tk, os⟩ := s
  have has : (Value.ref C :: tl).contains (.type B) = true := by simp only [List.contains_cons, hT, F.hasB, Bool.or_true]
  have star := F.noStar
  simp only [checkBuiltinCall, F.newKind, F.newSplit, F.newRow]
  repeat (first
    | refine wpAny_loadPart_at hC ?_
    | (refine wpAny_isSubtype_exc hC ?_; rw [has])
    | refine wpAny_staticBase_exc hC ?_
    | refine wpAny_madeBy_exc hC ?_
    | simp only [bne_self_eq_false, Bool.false_eq_true, if_false]
    | wp_step)
  exact hq
theorem kw_new {A : Around} {R : Result → Shared → Prop} {s : Shared} (F : ExcBaseFacts B nw ini tb) (hT : ∀ Y : String, tl.contains (.type Y) = tb.contains (.type Y)) (hc : IsExcC s.heap C tl nw)
    (hq : R (.ok (.ret (.ref (s.heap.objs.size + 1)))) { s with heap := (s.heap.push (W.kdv_tup [])).push (excO C s.heap.objs.size) }) :
    codeAny (model P w) A (.builtin nw ⟨[.ref C], [(kn, u)]⟩) R s := by
  obtain ⟨nm, q, N, bs, hd, sn, sub, ab, col, dd, k0, k1, k2, k3, k5, hC⟩ := hc
  obtain ⟨hh, gg, dr, tk, os⟩ := s
  have ends := F.ends
  have has : (Value.ref C :: tl).contains (.type B) = true := by simp only [List.contains_cons, hT, F.hasB, Bool.or_true]
  have no1 : (Value.ref C :: tl).contains (.type "AttributeError") = false := by rw [List.contains_cons, hT, F.noAttr] <;> rfl
  have no2 : (Value.ref C :: tl).contains (.type "NameError") = false := by rw [List.contains_cons, hT, F.noName] <;> rfl
  have short : ([] : List Value).length ≤ sizeLine := Nat.zero_le _
  refine codeAny_builtinAt F.entry ?_
  unfold Builtin.«BaseException.__new__»
  refine wpAt_bind ?_
  show wpAt _ _ _ (stack >>= _) _ _ _
  refine wpAt_bind (wpAt_stack fun p0 rest0 => wpAt_of_wpAny ?_)
  wp_walk
  refine wpAt_of_wpAny ?_
  rw [F.owner]
  repeat (first
    | with_reducible refine wpAny_madeHere_exc F.canon hC ?_
    | with_reducible refine wpAny_loadPart_at hC ?_
    | (with_reducible refine wpAny_isSubtype_exc hC ?_; first | rw [has] | rw [no1] | rw [no2])
    | wp_step)
  show R _ _
  rw [Heap.size_push]
  exact hq
theorem kw_type_call {A : Around} {E : Value → Shared → Prop} {s : Shared} {fI : Addr} (F : ExcBaseFacts B nw ini tb) (hT : ∀ Y : String, tl.contains (.type Y) = tb.contains (.type Y)) (hc : IsExcC s.heap C tl nw)
    (hi : W.Looks (model P w) s.heap (typeLookup (.ref C) "__init__") (some (.ref fI))) (hb : ∀ self, W.Looks (model P w) s.heap (bindSpecial (.ref fI) self) (.ref fI, [self])) {Q : Fin → Shared → Prop}
    (hq : codeAny (model P w) A (.call (.ref fI) ⟨[.ref (s.heap.objs.size + 1)], [(kn, u)]⟩)
      (fun r z => match r with
        | .ok (.ret v) => v = .none ∧ Q (.done (.ret (.ref (s.heap.objs.size + 1)))) z
        | .ok _ => False
        | .error e => E e z) { s with heap := (s.heap.push (W.kdv_tup [])).push (excO C s.heap.objs.size) }) :
    wpAny (model P w) A (Builtin.«type.__call__» ⟨[.ref C], [(kn, u)]⟩) Q E s := by
  have hc' := hc
  obtain ⟨nm, q, N, bs, hd, sn, sub, ab, col, dd, k0, k1, k2, k3, k5, hC⟩ := hc
  obtain ⟨hh, gg, dr, tk, os⟩ := s
  repeat (first
    | with_reducible refine wpAny_loadPart_at hC ?_
    | with_reducible refine wpAny_madeBy_exc hC ?_
    | wp_step)
  refine codeAny_call_builtin_code (Code.quiet_builtin _ F.quiet) (kw_check_new F hT hc' ?_)
  refine kw_new F hT hc' ?_
  show wpAny _ _ _ _ _ _
  have kk : ∀ b o, hh.get? b = some o → ((hh.push (W.kdv_tup [])).push (excO C hh.objs.size)).get? b = some o := fun b o z => Heap.get?_push_of_some _ (Heap.get?_push_of_some _ z)
  have hC1 := kk _ _ hC
  have made : ((hh.push (W.kdv_tup [])).push (excO C hh.objs.size)).get? (hh.objs.size + 1) = some (excO C hh.objs.size) := by heap_get
  have self1 : (Value.ref C :: tl).contains (.ref C) = true := by simp
  have looks := hi.keeps kk
  have binds := (hb (.ref (hh.objs.size + 1))).keeps kk
  unfold isInstance
  repeat (first
    | with_reducible refine wpAny_loadPart_at made ?_
    | (with_reducible refine wpAny_isSubtype_exc hC1 ?_; rw [self1])
    | wp_step)
  show wpAny _ _ (typeLookup (.ref C) _) _ _ _
  refine looks.at ?_
  refine wpAny_holding (wpAny_bind (binds.at ?_))
  refine wpAny_bind (wpAny_call (codeAny_mono hq fun r z y => ?_))
  cases r with
  | error e => exact y
  | ok fl =>
    cases fl with
    | ret v =>
      obtain ⟨rfl, y⟩ := y
      first
        | exact wpAny_pure (wpAny_pure y)
        | (wp_walk; exact y)
    | next => exact y.elim
    | brk => exact y.elim
    | cont => exact y.elim
theorem kw_call_own {A : Around} {R : Result → Shared → Prop} {s : Shared} {fI : Addr} (F : ExcBaseFacts B nw ini tb) (hT : ∀ Y : String, tl.contains (.type Y) = tb.contains (.type Y)) (hc : IsExcC s.heap C tl nw)
    (hi : W.Looks (model P w) s.heap (typeLookup (.ref C) "__init__") (some (.ref fI))) (hb : ∀ self, W.Looks (model P w) s.heap (bindSpecial (.ref fI) self) (.ref fI, [self]))
    (hq : codeAny (model P w) (A.under (.builtin "type.__call__" ⟨[.ref C], [(kn, u)]⟩)) (.call (.ref fI) ⟨[.ref (s.heap.objs.size + 1)], [(kn, u)]⟩) (W.InitBack (s.heap.objs.size + 1) R)
      { s with heap := (s.heap.push (W.kdv_tup [])).push (excO C s.heap.objs.size) }) :
    codeAny (model P w) A (.call (.ref C) ⟨[], [(kn, u)]⟩) R s := by
  have hc' := hc
  obtain ⟨nm, q, N, bs, hd, sn, sub, ab, col, dd, k0, k1, k2, k3, k5, hC⟩ := hc
  obtain ⟨hh, gg, dr, tk, os⟩ := s
  have l1 := tc_lookup
  have l2 := tc_bind (.ref C)
  have ty : (⟨hh, gg, dr, tk, os⟩ : Shared).TypeIs (.ref C) "type" := ⟨_, hC, rfl⟩
  refine codeAny_of_tree ?_
  show wpAny _ _ (callAny (.ref C) _) _ _ _
  repeat (any_goals (first | assumption | with_reducible refine wpAny_loadPart_at hC ?_ | wp_step))
  refine ⟨rfl, ?_⟩
  refine codeAny_call_builtin_at (Code.quiet_builtin _ (by decide +kernel)) entry_typeCall (wpAny_check_type_call_sub hC ?_)
  refine kw_type_call F hT hc' hi hb (codeAny_mono hq fun r z y => ?_)
  cases r with
  | error e => exact y
  | ok fl => cases fl <;> exact y
end
end PySem.HandSPX
namespace PD
open PySem L2 PyProof.Rows PySem.Spec
open Evl (Ex)
/-- an own error's class, whatever built-in error stands above it -/
structure ExK (K : PySem.W.Frag) (C fI : Addr) (B nw ini : String) (tb : List Value) : Prop where
  F : ExcBaseFacts B nw ini tb
  cls : ∃ tl, (∀ Y : String, tl.contains (.type Y) = tb.contains (.type Y)) ∧ ∀ h, K.In h → PySem.HandSPX.IsExcC h C tl nw
  exC : PySem.W.subIn K (.ref C) (.type "BaseException") = some true
  tyC : PySem.W.typeIn K (.ref C) = some (.type "type")
  kC : PySem.W.keepIn K (.ref C) = true
  iC : PySem.W.findIn K (.ref C) "__init__" = some (some (.ref fI))
  tI : PySem.W.typeIn K (.ref fI) = some (.type "function")
theorem ExC.k {K : PySem.W.Frag} {C fI : Addr} (Z : ExC K C fI) : ∃ tb, ExK K C fI "ValueError" "ValueError.__new__" "ValueError.__init__" tb := by
  obtain ⟨nm, q, N, bs, bm, sn, sub, ab, col, dd, k0, k1, k2, k3, k5, hC, hbm⟩ := Z.T.cls
  exact ⟨_, F.excBase_ValueError, ⟨bm, fun Y => PySem.HandSPX.refsVE_contains Y bm hbm, fun h kin => ⟨nm, q, N, bs, _, sn, sub, ab, col, dd, k0, k1, k2, k3, k5, kin _ _ hC⟩⟩, Z.T.exC, Z.T.tyC, Z.T.kC, Z.iC, Z.tI⟩
theorem ExB.k {b : BsE} {K : PySem.W.Frag} {C fI : Addr} (B : BsOk b) (Z : ExB b K C fI) : ExK K C fI b.nm b.nw b.ini b.tail := by
  obtain ⟨nm, q, N, bs, sn, sub, ab, col, dd, k0, k1, k2, k3, k5, hC⟩ := Z.T.cls
  exact ⟨B.F, ⟨b.tail, fun _ => rfl, fun h kin => ⟨nm, q, N, bs, _, sn, sub, ab, col, dd, k0, k1, k2, k3, k5, kin _ _ hC⟩⟩, Z.T.exC, Z.T.tyC, Z.T.kC, Z.iC, Z.tI⟩
/-- how __init__ binds its one keyword -/
def KwI (K : PySem.W.Frag) (fd : FuncData) (ps : List Str) (kn : Str) : Prop := ∀ (s : Shared) (a u : Value), K.In s.heap → BindsTo s fd ⟨[a], [(kn, u)]⟩ (ps.zip [a, u])
theorem Fun.kwi {K : PySem.W.Frag} {x qual : Str} {st : Stmt} {f : Addr} {fd : FuncData} {ps : List Str} {kn : Str} (F : Fun K x qual st f fd)
    (h : ∀ (kV doc pm : Value) (an : Option Addr) (cdv ct a u : Value), bindArgs (PySem.W.fnOf x qual (defArgs st) (defBody st) (defScope st) .none kV doc pm an cdv ct) ⟨[a], [(kn, u)]⟩ = pure (ps.zip [a, u])) : KwI K fd ps kn := by
  obtain ⟨oc, od, kV, doc, pm, an, cdv, ct, osl, rfl, lk, hcd⟩ := F.ex
  exact fun s a u _ => .of_eq (h kV doc pm an cdv ct a u)
section
variable {X : Cx} {M : Mk0} {e : Expr} {fa : FE} {te : TE} {p pos kpos : Pos} {x kn : Str} {C fI : Addr} {fd : FuncData} {ps : List Str} {k : Nat} {B nw ini : String} {tb : List Value} {sp : Sp}
theorem pmk_kw {CX : CXT} (Z : ExK X.K C fI B nw ini tb) (F1 : FnOk X.prog X.w X.K X.mg X.base CX k fI fd ps sp) (hr : Room (k + 1) X.A) (hb : KwI X.K fd ps kn) (hx : Passes CX X (fun _ _ _ => False)) (hg : Gl X x) (hm : X.mg x = some (.ref C)) (ha : PE X e te)
    (hdb : (x == ("__debug__" : Str)) = false := by decide) (hall : (backToKw pos (keywordEach [⟨some kn, e, kpos⟩] X.env)).all (·.1.isSome) = true := by rfl) (hks : (backToKw pos (keywordEach [⟨some kn, e, kpos⟩] X.env)).filterMap (·.1) = [kn] := by rfl)
    (hpl : ((backTo pos (starEach [] X.env)).any (·.1) || (backToKw pos (keywordEach [⟨some kn, e, kpos⟩] X.env)).any (·.1.isNone)) = false := by rfl) :
    PMk X (.Call (.Name x p) [] [⟨some kn, e, kpos⟩] pos) (tMkO C sp [] (tCons te tNil)) := by
  intro pins s σ H Q I hw
  obtain ⟨tl, hT, hcls⟩ := Z.cls
  refine wpAny_Call_Name_kw (ld_glob I hg hm ?_ hdb)
  refine PySem.W.callWith_KW0 (h₀ := X.base) I.ok.mod.kin Z.kC hall ?_ hpl
  show wpAny _ _ (evalAll [do let v ← eval e X.env; standAt pos; pure v]) _ _ _
  refine wpAny_evalAll_cons (wpAny_bind (thn (ha.run pins s σ H _ I hw) fun u sA ⟨v, HA, IA, rA, hz, qA⟩ => wpAny_bind (wpAny_standAt (wpAny_pure (wpAny_evalAll_nil ⟨IA.kIn, ?_⟩)))))
  rw [hks]
  show wpAny _ _ (call (.ref C) [] [(kn, u)]) _ _ _
  obtain ⟨hp, g, dr, tk, os⟩ := sA
  have big : hp.objs.size ≤ hp.objs.size + 1 := Nat.le_succ _
  have fresh : HA (hp.objs.size + 1) = none := IA.hok.fresh big
  have hq := qA (hp.objs.size + 1) fresh
  rw [List.append_nil] at hq
  have kk : ∀ b o, hp.get? b = some o → ((hp.push (PySem.W.kdv_tup [])).push (PySem.HandSPX.excO C hp.objs.size)).get? b = some o := fun b o z => Heap.get?_push_of_some _ (Heap.get?_push_of_some _ z)
  have here : ((hp.push (PySem.W.kdv_tup [])).push (PySem.HandSPX.excO C hp.objs.size)).get? (hp.objs.size + 1) = some (PySem.HandSPX.excO C hp.objs.size) := by heap_get
  have IB : Inv X pins σ (upd HA (hp.objs.size + 1) (exo (hp.objs.size + 1) C none)) ⟨(hp.push (PySem.W.kdv_tup [])).push (PySem.HandSPX.excO C hp.objs.size), g, dr, tk, os⟩ :=
    IA.laid (t' := tk) (a := hp.objs.size + 1) (o := exo (hp.objs.size + 1) C none) (h' := (hp.push (PySem.W.kdv_tup [])).push (PySem.HandSPX.excO C hp.objs.size)) kk big (L2.exo_ok here)
  have rB : Vals [V.ref (hp.objs.size + 1), v] [Value.ref (hp.objs.size + 1), u] := .cons rfl (.cons rA .nil)
  refine wpAny_call (PySem.HandSPX.kw_call_own Z.F hT (hcls _ IA.kIn) (PySem.W.looks_findIn IA.kIn Z.iC) (fun self => PySem.W.bind_fn IA.kIn self Z.tI)
    (codeAny_mono (F1.run _ X.stack _ _ ⟨[Value.ref (hp.objs.size + 1)], [(kn, u)]⟩ [Value.ref (hp.objs.size + 1), u] _ _ (fun _ _ _ => False) (hr.make C [] _) (IB.env0.make C [] _) (hb _ _ _ IB.kIn) rB hq) fun r sC hq' => ?_))
  cases r with
  | error er => exact hx pins σ _ _ er sC IB hq'
  | ok fl =>
    cases fl with
    | ret u =>
      obtain ⟨v, H2, os2, bare2, un2, hok2, rv, ev, d, fs, ea, ed, hd1, q2⟩ := hq'
      subst ev
      obtain ⟨h2, g2, d2, t2, os'⟩ := sC
      exact ⟨rv, mk_end (raises_own Z.exC Z.tyC) IA big kk un2 hok2 os2 bare2 ea ed hd1 q2⟩
    | next => exact False.elim hq'
    | brk => exact False.elim hq'
    | cont => exact False.elim hq'
theorem pmk_kwN {CX : CXT} (Z : ExK X.K C fI B nw ini tb) (F1 : FnOk X.prog X.w X.K X.mg X.base CX k fI fd ps sp) (hr : Room (k + 1) X.A) (hb : KwI X.K fd ps kn) (hx : Passes CX X (fun _ _ _ => False)) (hg : Gl X x) (hm : X.mg x = some (.ref C)) (ha : PE X e te)
    (hdb : (x == ("__debug__" : Str)) = false := by decide) (hall : (backToKw pos (keywordEach [⟨some kn, e, kpos⟩] X.env)).all (·.1.isSome) = true := by rfl) (hks : (backToKw pos (keywordEach [⟨some kn, e, kpos⟩] X.env)).filterMap (·.1) = [kn] := by rfl)
    (hpl : ((backTo pos (starEach [] X.env)).any (·.1) || (backToKw pos (keywordEach [⟨some kn, e, kpos⟩] X.env)).any (·.1.isNone)) = false := by rfl) :
    PMk X (.Call (.Name x p) [] [⟨some kn, e, kpos⟩] pos) (tMkN C sp (tCons te tNil)) := by
  intro pins s σ H Q I hw
  obtain ⟨tl, hT, hcls⟩ := Z.cls
  refine wpAny_Call_Name_kw (ld_glob I hg hm ?_ hdb)
  refine PySem.W.callWith_KW0 (h₀ := X.base) I.ok.mod.kin Z.kC hall ?_ hpl
  show wpAny _ _ (evalAll [do let v ← eval e X.env; standAt pos; pure v]) _ _ _
  refine wpAny_evalAll_cons (wpAny_bind (thn (ha.run pins s σ H _ I hw) fun u sA ⟨v, HA, IA, rA, hz, qA⟩ => wpAny_bind (wpAny_standAt (wpAny_pure (wpAny_evalAll_nil ⟨IA.kIn, ?_⟩)))))
  rw [hks]
  show wpAny _ _ (call (.ref C) [] [(kn, u)]) _ _ _
  obtain ⟨hp, g, dr, tk, os⟩ := sA
  have big : hp.objs.size ≤ hp.objs.size + 1 := Nat.le_succ _
  have fresh : HA (hp.objs.size + 1) = none := IA.hok.fresh big
  have hq := qA (hp.objs.size + 1) fresh
  have kk : ∀ b o, hp.get? b = some o → ((hp.push (PySem.W.kdv_tup [])).push (PySem.HandSPX.excO C hp.objs.size)).get? b = some o := fun b o z => Heap.get?_push_of_some _ (Heap.get?_push_of_some _ z)
  have here : ((hp.push (PySem.W.kdv_tup [])).push (PySem.HandSPX.excO C hp.objs.size)).get? (hp.objs.size + 1) = some (PySem.HandSPX.excO C hp.objs.size) := by heap_get
  have IB : Inv X pins σ (upd HA (hp.objs.size + 1) (exo (hp.objs.size + 1) C none)) ⟨(hp.push (PySem.W.kdv_tup [])).push (PySem.HandSPX.excO C hp.objs.size), g, dr, tk, os⟩ :=
    IA.laid (t' := tk) (a := hp.objs.size + 1) (o := exo (hp.objs.size + 1) C none) (h' := (hp.push (PySem.W.kdv_tup [])).push (PySem.HandSPX.excO C hp.objs.size)) kk big (L2.exo_ok here)
  have rB : Vals [V.ref (hp.objs.size + 1), v] [Value.ref (hp.objs.size + 1), u] := .cons rfl (.cons rA .nil)
  refine wpAny_call (PySem.HandSPX.kw_call_own Z.F hT (hcls _ IA.kIn) (PySem.W.looks_findIn IA.kIn Z.iC) (fun self => PySem.W.bind_fn IA.kIn self Z.tI)
    (codeAny_mono (F1.run _ X.stack _ _ ⟨[Value.ref (hp.objs.size + 1)], [(kn, u)]⟩ [Value.ref (hp.objs.size + 1), u] _ _ (fun _ _ _ => False) (hr.make C [] _) (IB.env0.make C [] _) (hb _ _ _ IB.kIn) rB hq) fun r sC hq' => ?_))
  cases r with
  | error er => exact hx pins σ _ _ er sC IB hq'
  | ok fl =>
    cases fl with
    | ret u =>
      obtain ⟨v, H2, os2, bare2, un2, hok2, rv, ev, ea, q2⟩ := hq'
      subst ev
      obtain ⟨h2, g2, d2, t2, os'⟩ := sC
      obtain ⟨t0, G, J, kG, ge, hoe⟩ := let_go (d2 := d2) (t2 := t2) IA big kk un2 hok2 os2 bare2 ea
      exact ⟨rv, _, _, _, ⟨G, g2, d2, t2, os'⟩, _, .ref C, none, rfl, J, kG, ge, hoe, ⟨rfl, rfl⟩, rfl, rfl, del_same, rfl, bare2, raises_own Z.exC Z.tyC, q2⟩
    | next => exact False.elim hq'
    | brk => exact False.elim hq'
    | cont => exact False.elim hq'
end
section
variable {X : Cx} {M : Mk0} {e : Expr} {fa : FE} {p pos kpos : Pos} {x kn nm : Str} {C fI : Addr} {fd : FuncData} {ps : List Str} {k : Nat} {B nw ini : String} {tb : List Value}
/-- C(k = v), kept -/
theorem pd_mkK (Z : ExK X.K C fI B nw ini tb) (F1 : FnOk X.prog X.w X.K X.mg X.base (L2.CX X.prog X.w) k fI fd ps (spExA C nm)) (hr : Room (k + 1) X.A) (hb : KwI X.K fd ps kn) (hg : Gl X x) (hm : X.mg x = some (.ref C)) (ha : PD X M e fa)
    (hdb : (x == ("__debug__" : Str)) = false := by decide) (hall : (backToKw pos (keywordEach [⟨some kn, e, kpos⟩] X.env)).all (·.1.isSome) = true := by rfl) (hks : (backToKw pos (keywordEach [⟨some kn, e, kpos⟩] X.env)).filterMap (·.1) = [kn] := by rfl)
    (hpl : ((backTo pos (starEach [] X.env)).any (·.1) || (backToKw pos (keywordEach [⟨some kn, e, kpos⟩] X.env)).any (·.1.isNone)) = false := by rfl) : PD X M (.Call (.Name x p) [] [⟨some kn, e, kpos⟩] pos) (fMkE C (some nm) fa) :=
  pd_mkA ha.mono (pmk_kw Z F1 hr hb passF hg hm ha.pe hdb hall hks hpl)
theorem pd_mkK0 (Z : ExK X.K C fI B nw ini tb) (F1 : FnOk X.prog X.w X.K X.mg X.base (L2.CX X.prog X.w) k fI fd ps (spExN C)) (hr : Room (k + 1) X.A) (hb : KwI X.K fd ps kn) (hg : Gl X x) (hm : X.mg x = some (.ref C)) (ha : PD X M e fa)
    (hdb : (x == ("__debug__" : Str)) = false := by decide) (hall : (backToKw pos (keywordEach [⟨some kn, e, kpos⟩] X.env)).all (·.1.isSome) = true := by rfl) (hks : (backToKw pos (keywordEach [⟨some kn, e, kpos⟩] X.env)).filterMap (·.1) = [kn] := by rfl)
    (hpl : ((backTo pos (starEach [] X.env)).any (·.1) || (backToKw pos (keywordEach [⟨some kn, e, kpos⟩] X.env)).any (·.1.isNone)) = false := by rfl) : PD X M (.Call (.Name x p) [] [⟨some kn, e, kpos⟩] pos) (fMkE C none fa) :=
  pd_mkN ha.mono (pmk_kwN Z F1 hr hb passF hg hm ha.pe hdb hall hks hpl)
end
end PD
namespace PD
open PySem L2 PyProof.Rows PySem.Spec
open Evl (Ex)
def plainV : D → Bool
  | .none | .bool _ => true
  | .int i => decide (i.natAbs.log2 < 1920)
  | .str x => decide ((reprText x).length ≤ sizeLine)
  | _ => false
def plainK : D → Bool
  | .int i => plainV (.int i)
  | .str x => plainV (.str x)
  | _ => false
theorem plain_k {d : D} (h : plainK d = true) : plainV d = true := by
  cases d <;> first | exact h | cases h
def plainP (ps : List (D × D)) : Bool := ps.all fun p => plainK p.1 && plainV p.2
/-- this value is this plain thing -/
def PlainIs (u : Value) : D → Prop
  | .none => u = .none
  | .bool b => u = .bool b
  | .int i => ∃ t, u = .int i t
  | .str x => ∃ t, u = .str x t
  | _ => False
theorem plain_is {K : Fr0} {H : Hp} {v : V} {u : Value} {d : D} (hp : plainV d = true) (h : Rp K H v d) (r : RelV v u) : PlainIs u d := by
  cases h <;> first | exact r | cases hp
theorem plain_reads {h : Heap} {u : Value} {d : D} (hp : plainV d = true) (e : PlainIs u d) : Reads h u d [] := by
  cases d with
  | none => cases e; exact .none
  | bool b => cases e; exact .bool b
  | int i => obtain ⟨t, rfl⟩ := e; exact .int i t
  | str x => obtain ⟨t, rfl⟩ := e; exact .str x t
  | _ => cases hp
theorem plain_repr {prog : Program} {w : World} {h : Heap} {u : Value} {d : D} (as : List Addr) (n : Nat) (hp : plainV d = true) (e : PlainIs u d) : ReprK prog w as h n u d.shown := by
  cases d with
  | none => cases e; simp only [PyData.shown]; exact .of_is ReprIs.none _ _ _
  | bool b => cases e; simp only [PyData.shown]; exact .of_is (ReprIs.bool b) _ _ _
  | int i => obtain ⟨t, rfl⟩ := e; simp only [PyData.shown]; exact .of_is (ReprIs.int t (by simpa [plainV] using hp)) _ _ _
  | str x => obtain ⟨t, rfl⟩ := e; simp only [PyData.shown]; exact .of_is (ReprIs.str x t (by simpa [plainV] using hp)) _ _ _
  | _ => cases hp
theorem plain_depth {d : D} (hp : plainV d = true) : d.depth = 0 := by
  cases d <;> first | rfl | cases hp
theorem plain_depths : ∀ {ps : List (D × D)}, plainP ps = true → PyData.depthKv ps = 0
  | [], _ => rfl
  | (a, b) :: ps, h => by
    unfold plainP at h
    rw [List.all_cons, Bool.and_eq_true, Bool.and_eq_true] at h
    show max (max a.depth b.depth) (PyData.depthKv ps) = 0
    rw [plain_depth (plain_k h.1.1), plain_depth h.1.2, plain_depths (ps := ps) h.2]
    rfl
/-- the entries, one after another -/
inductive EntsP : List DictEntry → List (D × D) → Prop
  | nil : EntsP [] []
  | cons {e : DictEntry} {p : D × D} {es : List DictEntry} {ps : List (D × D)} : PlainIs e.key p.1 → PlainIs e.val p.2 → EntsP es ps → EntsP (e :: es) (p :: ps)
section
variable {X : Cx} {pins : List (Addr × Obj)} {σ : L2.St} {H : Hp} {s : Shared}
theorem ents_reads {h : Heap} {es : List DictEntry} {ps : List (D × D)} (e : EntsP es ps) (hp : plainP ps = true) : (∃ as, ReadsAll h (es.map (·.key)) (ps.map (·.1)) as) ∧ ∃ bs, ReadsAll h (es.map (·.val)) (ps.map (·.2)) bs := by
  induction e with
  | nil => exact ⟨⟨_, .nil⟩, ⟨_, .nil⟩⟩
  | cons h1 h2 _ ih =>
    unfold plainP at hp
    rw [List.all_cons, Bool.and_eq_true, Bool.and_eq_true] at hp
    obtain ⟨⟨as, a1⟩, ⟨bs, b1⟩⟩ := ih hp.2
    exact ⟨⟨_, .cons (plain_reads (plain_k hp.1.1) h1) a1⟩, ⟨_, .cons (plain_reads hp.1.2 h2) b1⟩⟩
theorem ents_repr {prog : Program} {w : World} {h : Heap} {es : List DictEntry} {ps : List (D × D)} (e : EntsP es ps) (hp : plainP ps = true) : ReprEntriesK prog w [] h 0 es (PyData.shownKv ps) := by
  induction e with
  | nil => exact .nil
  | @cons e p es ps h1 h2 _ ih =>
    unfold plainP at hp
    rw [List.all_cons, Bool.and_eq_true, Bool.and_eq_true] at hp
    obtain ⟨a, b⟩ := p
    exact .cons (plain_repr [] 0 (plain_k hp.1.1) h1) (plain_repr [] 0 hp.1.2 h2) (ih hp.2)
theorem kv_ents {K : Fr0} : ∀ {es : List DictEntry} {vs : List (Key × Value)} {kvs : List (Key × V)} {ps : List (D × D)}, Paired (fun (e : DictEntry) (kv : Key × Value) => keyIs kv.1 e.key = true ∧ e.val = kv.2) es vs → KV kvs vs → RpKv K H kvs ps → plainP ps = true → EntsP es ps
  | _, _, _, [], h1, h2, h3, _ => by cases h3; cases h2; cases h1; exact .nil
  | _, _, _, p :: ps, h1, h2, h3, hp => by
    unfold plainP at hp
    rw [List.all_cons, Bool.and_eq_true, Bool.and_eq_true] at hp
    cases h3 with
    | @cons k v kvs d e' ps g1 g2 g3 =>
      cases h2 with
      | @cons _ q _ _ a1 a2 =>
        cases h1 with
        | @cons e _ _ _ b1 b2 =>
          obtain ⟨k2, w2⟩ := q
          obtain ⟨rfl, a1⟩ := a1
          obtain ⟨b1, b3⟩ := b1
          refine .cons ?_ ?_ (kv_ents b2 a2 g3 hp.2)
          · rcases keyIs_shape b1 with ⟨i, t, ek, ev⟩ | ⟨x, t, ek, ev⟩
            · subst ek
              rw [ev]
              exact plain_is (plain_k hp.1.1) g1 ⟨t, rfl⟩
            · subst ek
              rw [ev]
              exact plain_is (plain_k hp.1.1) g1 ⟨t, rfl⟩
          · rw [b3]
            exact plain_is hp.1.2 g2 a1
/-- the object of such a dict -/
theorem rp_dictP (I : Inv X pins σ H s) {v : V} {u : Value} {ps : List (D × D)} (hp : plainP ps = true) (h : Rp X.k0 H v (.dict ps)) (r : RelV v u) :
    ∃ a o es n, u = .ref a ∧ (a == sysModules) = false ∧ s.heap.get? a = some o ∧ o.cls = .type "dict" ∧ o.data = .dict es n ∧ EntsP es.toList ps := by
  cases h with
  | dct h1 h2 =>
    cases r
    have g : _ ∧ KdF X.w _ _ _ := (I.hok _ _ h1).1
    obtain ⟨g1, g2, g3, g4, es, ep, vs, g5, g6, g7, g8, g9⟩ := g
    exact ⟨_, _, es, ep, rfl, g2, g1, g3.1, g5, kv_ents g7 g9 h2 hp⟩
  | dctN h1 h2 =>
    cases h2 with
    | nil =>
      cases r
      obtain ⟨a, o, es, n, e1, e2, e3, e4, e5, e6⟩ := rp_dict0 I (.dctN h1 .nil) (show RelV (.ref _) (.ref _) from rfl)
      cases e1
      exact ⟨_, _, es, n, rfl, e2, e3, e4, e5, by rw [e6]; exact .nil⟩
    | @cons k b v xs d e ps g0 gd g1 g2 g3 =>
      unfold plainP at hp
      rw [List.all_cons, Bool.and_eq_true, Bool.and_eq_true] at hp
      cases b with
      | none =>
        cases g1
        cases hp.1.1
      | some c => cases g1 <;> cases hp.1.1
  | obj h1 h2 => cases hp
  | clo _ _ _ _ _ => cases hp
  | er0 _ _ _ _ => cases hp
  | er1 _ _ _ _ _ _ => cases hp
end
mutual
def plDict : D → Bool
  | .none | .bool _ | .int _ | .str _ => true
  | .list ds | .tuple ds => plDicts ds
  | .dict ps => plainP ps
def plDicts : List D → Bool
  | [] => true
  | d :: ds => plDict d && plDicts ds
end
section
variable {X : Cx} {pins : List (Addr × Obj)} {σ : L2.St} {H : Hp} {s : Shared}
mutual
theorem rp_readsP (I : Inv X pins σ H s) : ∀ (d : D) (v : V) (u : Value), plDict d = true → Rp X.k0 H v d → RelV v u → ∃ as, Reads s.heap u d as
  | .none, _, _, _, h, r => by cases h; cases r; exact ⟨_, .none⟩
  | .bool b, _, _, _, h, r => by cases h; cases r; exact ⟨_, .bool b⟩
  | .int i, _, _, _, h, r => by cases h; obtain ⟨t, rfl⟩ := r; exact ⟨_, .int i t⟩
  | .str x, _, _, _, h, r => by cases h; obtain ⟨t, rfl⟩ := r; exact ⟨_, .str x t⟩
  | .list ds, _, _, c, h, r => by
    cases h with
    | lst hs ha =>
      cases r
      obtain ⟨us, rv, ⟨o, n, ho, hc, hd, hda⟩, _⟩ := I.list hs
      obtain ⟨as, q⟩ := rpa_readsP I ds _ us (by simpa [plDict] using c) ha rv
      exact ⟨_, .list ho hc hda (by simpa using q)⟩
  | .tuple ds, _, _, c, h, r => by
    cases h with
    | tup hs ha =>
      cases r
      obtain ⟨us, rv, ⟨o, ho, hc, n, hd⟩, _⟩ := I.tuple hs
      obtain ⟨as, q⟩ := rpa_readsP I ds _ us (by simpa [plDict] using c) ha rv
      exact ⟨_, .tuple ho hc hd (by simpa using q)⟩
  | .dict ps, _, _, c, h, r => by
    have c : plainP ps = true := by simpa [plDict] using c
    obtain ⟨a, o, es, n, rfl, _, g1, g2, g3, g4⟩ := rp_dictP I c h r
    obtain ⟨⟨as, q1⟩, ⟨bs, q2⟩⟩ := ents_reads (h := s.heap) g4 c
    exact ⟨_, .dict g1 g2 g3 q1 q2⟩
theorem rpa_readsP (I : Inv X pins σ H s) : ∀ (ds : List D) (vs : List V) (us : List Value), plDicts ds = true → RpAll X.k0 H vs ds → Vals vs us → ∃ as, ReadsAll s.heap us ds as
  | [], _, _, _, h, r => by cases h; cases r; exact ⟨_, .nil⟩
  | d :: ds, _, _, c, h, r => by
    have c' : plDict d = true ∧ plDicts ds = true := by simpa [plDicts] using c
    cases h with
    | cons h1 h2 =>
      cases r with
      | cons r1 r2 =>
        obtain ⟨as, q1⟩ := rp_readsP I d _ _ c'.1 h1 r1
        obtain ⟨bs, q2⟩ := rpa_readsP I ds _ _ c'.2 h2 r2
        exact ⟨_, .cons q1 q2⟩
end
mutual
theorem rp_reprP {prog : Program} {w : World} (I : Inv X pins σ H s) : ∀ (d : D) (v : V) (u : Value), plDict d = true → d.showable = true → d.shown.length ≤ sizeLine → Rp X.k0 H v d → RelV v u → ∃ bs, ReadAtMost s.heap d.depth bs ∧ ReprK prog w bs s.heap d.depth u d.shown
  | .none, _, _, _, _, _, h, r => by cases h; cases r; exact ⟨[], (fun _ h => nomatch h), by simp only [PyData.shown]; exact .of_is ReprIs.none _ _ _⟩
  | .bool b, _, _, _, _, _, h, r => by cases h; cases r; exact ⟨[], (fun _ h => nomatch h), by simp only [PyData.shown]; exact .of_is (ReprIs.bool b) _ _ _⟩
  | .int i, _, _, _, hs, _, h, r => by cases h; obtain ⟨t, rfl⟩ := r; exact ⟨[], (fun _ h => nomatch h), by simp only [PyData.shown]; exact .of_is (ReprIs.int t (by simpa [PyData.showable] using hs)) _ _ _⟩
  | .str x, _, _, _, _, hz, h, r => by cases h; obtain ⟨t, rfl⟩ := r; exact ⟨[], (fun _ h => nomatch h), by simp only [PyData.shown]; exact .of_is (ReprIs.str x t (by simpa only [PyData.shown] using hz)) _ _ _⟩
  | .list ds, v, u, c, hs, hz, h, r => by
    have hz' : (listText (PyData.shownAll ds)).length ≤ sizeLine := by simpa only [PyData.shown] using hz
    obtain ⟨as0, rr⟩ := rp_readsP I (.list ds) v u c h r
    cases h with
    | @lst a _ _ h0 ha =>
      cases r
      obtain ⟨us, rv, ⟨o, n, ho, hc, hd, hda⟩, _⟩ := I.list h0
      obtain ⟨bs, hb, hk⟩ := rpa_reprP (prog := prog) (w := w) I ds _ us (by simpa [plDict] using c) (by simpa [PyData.showable] using hs) (fun t ht => Nat.le_trans (listText_mem_le ht) hz') ha rv
      have hna : a ∉ bs := not_mem_of_deeper rr (by simp only [PyData.depth]; omega) hb
      refine ⟨a :: bs, ReadAtMost.cons rr (by simp only [PyData.depth]; omega) hb, ?_⟩
      simp only [PyData.depth, PyData.shown]
      cases us with
      | nil =>
        cases rv
        cases ha
        simp only [PyData.shownAll, listText_nil]
        exact ReprK.listEmpty ho hc hda
      | cons x l => exact ReprK.list ho hc hda hna (by simpa using hk.length_eq) (fun i y e => hk.item i y (by simpa using e))
  | .tuple ds, v, u, c, hs, hz, h, r => by
    have hz' : (tupleText (PyData.shownAll ds)).length ≤ sizeLine := by simpa only [PyData.shown] using hz
    obtain ⟨as0, rr⟩ := rp_readsP I (.tuple ds) v u c h r
    cases h with
    | @tup a _ _ h0 ha =>
      cases r
      obtain ⟨us, rv, ⟨o, ho, hc, n, hd⟩, _⟩ := I.tuple h0
      obtain ⟨bs, hb, hk⟩ := rpa_reprP (prog := prog) (w := w) I ds _ us (by simpa [plDict] using c) (by simpa [PyData.showable] using hs) (fun t ht => Nat.le_trans (tupleText_mem_le ht) hz') ha rv
      have hna : a ∉ bs := not_mem_of_deeper rr (by simp only [PyData.depth]; omega) hb
      refine ⟨a :: bs, ReadAtMost.cons rr (by simp only [PyData.depth]; omega) hb, ?_⟩
      simp only [PyData.depth, PyData.shown]
      exact ReprK.tuple ho hc hd hna hk
  | .dict ps, v, u, c, hs, hz, h, r => by
    obtain ⟨as0, rr⟩ := rp_readsP I (.dict ps) v u c h r
    have c : plainP ps = true := by simpa [plDict] using c
    obtain ⟨a, o, es, n, rfl, g0, g1, g2, g3, g4⟩ := rp_dictP I c h r
    have hk : ReprK prog w [a] s.heap (0 + 1) (.ref a) (dictText (PyData.shownKv ps)) := ReprK.dict g1 g2 g3 g0 List.not_mem_nil (ents_repr g4 c)
    refine ⟨[a], ReadAtMost.cons rr (by simp only [PyData.depth]; omega) (n := PyData.depthKv ps) (bs := []) (fun _ h => nomatch h), ?_⟩
    simp only [PyData.depth, PyData.shown]
    rw [plain_depths c]
    exact hk
theorem rpa_reprP {prog : Program} {w : World} (I : Inv X pins σ H s) : ∀ (ds : List D) (vs : List V) (us : List Value), plDicts ds = true → PyData.showableAll ds = true → (∀ t ∈ PyData.shownAll ds, t.length ≤ sizeLine) → RpAll X.k0 H vs ds → Vals vs us →
    ∃ bs, ReadAtMost s.heap (PyData.depthAll ds) bs ∧ ReprAllK prog w bs s.heap (PyData.depthAll ds) us (PyData.shownAll ds)
  | [], _, _, _, _, _, h, r => by cases h; cases r; exact ⟨[], (fun _ h => nomatch h), by simp only [PyData.shownAll]; exact .nil⟩
  | d :: ds, _, _, c, hs, hz, h, r => by
    have c' : plDict d = true ∧ plDicts ds = true := by simpa [plDicts] using c
    have hs' : d.showable = true ∧ PyData.showableAll ds = true := by simpa [PyData.showableAll] using hs
    cases h with
    | cons h1 h2 =>
      cases r with
      | cons r1 r2 =>
        obtain ⟨b1, hb1, k1⟩ := rp_reprP (prog := prog) (w := w) I d _ _ c'.1 hs'.1 (hz _ (by simp only [PyData.shownAll]; exact List.mem_cons_self ..)) h1 r1
        obtain ⟨b2, hb2, k2⟩ := rpa_reprP (prog := prog) (w := w) I ds _ _ c'.2 hs'.2 (fun t ht => hz t (by simp only [PyData.shownAll]; exact List.mem_cons_of_mem _ ht)) h2 r2
        refine ⟨b1 ++ b2, ?_, ?_⟩
        · intro b hm
          simp only [PyData.depthAll]
          rcases List.mem_append.mp hm with hm | hm
          · obtain ⟨d', as', r', hd'⟩ := hb1 b hm
            exact ⟨d', as', r', Nat.le_trans hd' (Nat.le_max_left _ _)⟩
          · obtain ⟨d', as', r', hd'⟩ := hb2 b hm
            exact ⟨d', as', r', Nat.le_trans hd' (Nat.le_max_right _ _)⟩
        · simp only [PyData.depthAll, PyData.shownAll]
          exact .cons ((k1.more fun b hb => List.mem_append_left _ hb).level_le (Nat.le_max_left _ _)) (k2.more_le (fun b hb => List.mem_append_right _ hb) (Nat.le_max_right _ _))
end
end
/-- a list is shown, whatever plain dicts stand in it -/
def fitsP (d : D) : Bool := d.showable && plDict d && decide (d.shown.length ≤ sizeLine) && decide (d.depth ≤ 60)
theorem fitsP_and {d : D} (h : fitsP d = true) : d.showable = true ∧ plDict d = true ∧ d.shown.length ≤ sizeLine ∧ d.depth ≤ 60 := by
  unfold fitsP at h
  simp only [Bool.and_eq_true, decide_eq_true_eq] at h
  exact ⟨h.1.1.1, h.1.1.2, h.1.2, h.2⟩
def gReprP (d : D) : Option D := match d with
  | .list ds => if fitsP (.list ds) = true then some (.str (PyData.shown (.list ds))) else none
  | _ => none
def rReprP (K : Fr0) : List V → Hp → VK → Prop := fun xs H Q => ∃ v ds, xs = [v] ∧ Rp K H v (.list ds) ∧ fitsP (.list ds) = true ∧ Q (.str (PyData.shown (.list ds))) H
theorem call_reprP {X : Cx} (hg : X.A.guards = some []) (hu : X.A.units + 64 < cLine) : CallR X (.builtin "repr") (rReprP X.k0) := by
  intro pins s σ H xs us Q I r h
  obtain ⟨v, ds, rfl, hd, hf, q⟩ := h
  obtain ⟨u, rfl, ru⟩ := vals1 r
  obtain ⟨f1, f2, f3, f4⟩ := fitsP_and hf
  cases hd with
  | @lst a _ ds h1 h2 =>
    cases ru
    have hz' : (listText (PyData.shownAll ds)).length ≤ sizeLine := by simpa only [PyData.shown] using f3
    obtain ⟨as0, rr⟩ := rp_readsP I (.list ds) _ _ f2 (.lst h1 h2) rfl
    obtain ⟨ws, rv, ⟨o, n, ho, hc, hd, hda⟩, _⟩ := I.list h1
    obtain ⟨bs, hb, hk⟩ := rpa_reprP (prog := X.prog) (w := X.w) I ds _ ws (by simpa [plDict] using f2) (by simpa [PyData.showable] using f1) (fun t ht => Nat.le_trans (listText_mem_le ht) hz') h2 rv
    have hna : a ∉ bs := not_mem_of_deeper rr (by simp only [PyData.depth]; omega) hb
    have S : ShowsBy X.prog X.w s.heap a (.list ds) "list" "list.__repr__" := by
      refine ⟨F.slot_list_repr.toG, F.slot_list_str, F.slot_list_format, fun s' hk0 => ⟨o, hk0 _ _ ho, hc⟩, fun A E s' Q hg hu hk0 hQ => ?_⟩
      simp only [PyData.depth] at hu
      simp only [PyData.shown] at hQ
      cases ws with
      | nil =>
        cases rv
        cases h2
        simp only [PyData.shownAll, listText_nil] at hQ
        exact call_list_repr_empty ⟨o, hk0 _ _ ho, hc⟩ (hk0 _ _ ho) hda (hQ s'.heap _ _ fun _ _ e => e)
      | cons x l => exact call_list_reprK ho hc hda hna (by simpa using hk.length_eq) (fun i y e => hk.item i y (by simpa using e)) hg (fun b _ => Clear.nil b) hu hk0 hQ hz'
    exact call_repr_slot (by omega) (S.typeIs s fun _ _ z => z) S.slotRepr (S.call X.A.in1 _ s _ hg (by show X.A.units + 1 + _ < cLine; omega) (fun _ _ z => z) fun h' u tk hk => ⟨_, _, rfl, ⟨.str _, H, I.kept hk, ⟨u, rfl⟩, q⟩⟩)
theorem r1_reprP {K : Fr0} : R1D K (fun x => rReprP K [x]) gReprP := by
  intro L H x dx d Q tr hx hg k
  unfold gReprP at hg
  split at hg
  · split at hg
    · cases hg
      exact ⟨x, _, rfl, dp_ex (hide_le L H) _ _ hx, by assumption, k _ _ (Ex.refl _) (.str _)⟩
    · cases hg
  · cases hg
end PD
namespace PD
open PySem L2 PyProof.Rows PySem.Spec
open Evl (Ex)
structure FnQ (P : Program) (w : World) (K : PySem.W.Frag) (mg : Str → Option Value) (base : Heap) (CX : CXT) (k : Nat) (f : Addr) (fd : FuncData) (ps : List Str) (sp : Sp) : Prop where
  len : ∀ vs H Q E, sp vs H Q E → vs.length = ps.length
  goQ : ∀ (A : Around) (outer : List Env) (s : Shared) (H : Hp) (args : Args) (us : List Value) (vs : List V) (Q : VK) (E : XK), A.guards = some [] → L2H.RoomH k A → Env0 P w K mg base A outer s H → BindsTo s fd args (ps.zip us) → Vals vs us → sp vs H Q E →
    codeAny (model P w) A (.call (.ref f) args) (CR CX outer P w H s Q E) s
section
variable {P : Program} {w : World} {K : PySem.W.Frag} {mg : Str → Option Value} {base : Heap} {CX : CXT} {j k : Nat} {f : Addr} {fd : FuncData} {ps N : List Str} {sp sp' : Sp}
theorem FnQ.g (G : FnQ P w K mg base CX k f fd ps sp) : FnG P w K mg base CX k f fd ps sp :=
  ⟨G.len, fun A outer s H args us vs Q E hg hr => G.goQ A outer s H args us vs Q E hg (L2H.roomH_of hr)⟩
theorem FnQ.mono (G : FnQ P w K mg base CX j f fd ps sp) (h : j ≤ k) : FnQ P w K mg base CX k f fd ps sp :=
  ⟨G.len, fun A outer s H args us vs Q E hg hr => G.goQ A outer s H args us vs Q E hg (hr.mono h)⟩
theorem FnQ.imp (G : FnQ P w K mg base CX k f fd ps sp) (h : ∀ vs H Q E, sp' vs H Q E → sp vs H Q E) : FnQ P w K mg base CX k f fd ps sp' :=
  ⟨fun vs H Q E q => G.len vs H Q E (h _ _ _ _ q), fun A outer s H args us vs Q E hg hr he hb hv hs => G.goQ A outer s H args us vs Q E hg hr he hb hv (h _ _ _ _ hs)⟩
/-- the context of such a def's body: not calm -/
def cxQ (CX : CXT) (P : Program) (w : World) (K : PySem.W.Frag) (mg : Str → Option Value) (base : Heap) (N : List Str) (qual : Str) (scope : Scope) (f : Addr) (cd : Value) (A : Around) (outer : List Env) (s : Shared) (H : Hp) (E : XK) : Cx :=
  { cxOf CX P w K mg base N qual scope f cd A outer s H E with calm := false }
theorem startQ {qual : Str} {scope : Scope} {cd : Value} {A : Around} {outer : List Env} {s s1 : Shared} {H : Hp} {E : XK} {us : List Value} {vs : List V} (S : FnScope N ps scope) (e0 : Env0 P w K mg base A outer s H) (hl : vs.length = ps.length) (r : Vals vs us)
    (x : InCallC s s.heap.objs.size (bindL (envOfC qual scope s.heap.objs.size f cd).kindOf (ps.zip us) fun _ => none) (cellsFrom (s.heap.objs.size + 1) scope.names []) (bindC (envOfC qual scope s.heap.objs.size f cd).kindOf (ps.zip us) fun _ => none) s1) :
    Inv (cxQ CX P w K mg base N qual scope f cd A outer s H E) [] (L2.start N vs) H s1 := by
  have e1 : Env0 P w K mg base { A with handled := none } outer s H := ⟨e0.frames, e0.mod, e0.bs, e0.bsz, e0.funs, e0.frf, e0.hok, e0.bare⟩
  have I := inv_start (CX := CX) (E := E) (A := { A with handled := none }) S rfl e1 hl r x
  have o := I.ok
  exact ⟨⟨o.mod, o.kind, o.glob, o.blt, o.above, o.inj, o.has, o.cab, (fun z => nomatch z), Around.frames_deeper e0.frames, o.stk, o.exf, o.bs, o.bsz, o.noex, o.exfs, o.funs, o.frf⟩, I.os, I.bare, I.base, I.loc, I.cell, I.free, I.freeC, I.pin, I.hok, I.len⟩
theorem fnQ_of {x qual : Str} {st : Stmt} (F : Fun K x qual st f fd) (S : FnScope N ps (defScope st)) (len : ∀ vs H Q E, sp vs H Q E → vs.length = ps.length)
    (body : ∀ (cdv : Value) (A : Around) (outer : List Env) (s : Shared) (H : Hp) (vs : List V) (Q : VK) (E : XK), A.guards = some [] → L2H.RoomH k (A.deeper (envOfC qual (defScope st) s.heap.objs.size f cdv)) → sp vs H Q E →
      ∃ t, PSs (cxQ CX P w K mg base N qual (defScope st) f cdv A outer s H E) (defBody st) t ∧ t { nx := fun _ H' => Q .non H', rt := Q } (start N vs) H) : FnQ P w K mg base CX (k + 1) f fd ps sp := by
  obtain ⟨oc, od, kV, doc, pm, an, cdv, ct, osl, efd, lk, hcd⟩ := F.ex
  subst efd
  refine ⟨len, fun A outer s H args us vs Q E hgd hr e0 hbi hva hsp => ?_⟩
  have kin : K.In s.heap := e0.mod.kin.keeps fun b o e => (e0.bs b o e).1
  have nolim : s.heap.NoLimit := e0.mod.nolimit.keeps fun b o e => (e0.bs b o e).1
  have kinds : ∀ y ∈ ps.zip us, (defScope st).names.lookup y.1 = some .local ∨ ((defScope st).names.lookup y.1 = some .cell ∧ ((cellsFrom (s.heap.objs.size + 1) (defScope st).names []).lookup y.1).isSome = true) := by
    intro y hy
    obtain ⟨nm, vl⟩ := y
    rcases S.par nm (List.of_mem_zip hy).1 with loc | cel
    · exact .inl loc
    · exact .inr ⟨cel, PySem.W.cellsFrom_some _ _ _ (.inl cel)⟩
  refine codeAny_call_function hr.depth (kin _ _ lk) rfl S.co S.gen rfl (PySem.W.codeRec_of kin hcd) (hbi _ _ _ _ ?_)
  refine wpAny_newFunctionEnv_cells S.kind kinds fun env henv sA xA => ?_
  subst henv
  refine ⟨nolim.keeps xA.toInCall.keep, codeAny_func ?_⟩
  obtain ⟨t, ht, hq⟩ := body cdv A outer s H vs Q E hgd (hr.deeper _) hsp
  have IA : Inv (cxQ CX P w K mg base N qual (defScope st) f cdv A outer s H E) [] (start N vs) H sA := startQ S e0 (len _ _ _ _ hsp) hva xA
  refine wpAny_mono (ht.run [] sA (start N vs) H _ IA hq) (fun fl sB hs => ?_) fun e sB hs => hs
  cases fl with
  | next =>
    obtain ⟨σB, HB, JB, qB⟩ := hs
    exact ⟨V.non, HB, JB.os, JB.bare, JB.base, JB.hok, rfl, qB⟩
  | ret u =>
    obtain ⟨vB, σB, HB, JB, rB, qB⟩ := hs
    exact ⟨vB, HB, JB.os, JB.bare, JB.base, JB.hok, rB, qB⟩
  | brk =>
    obtain ⟨_, _, _, qB⟩ := hs
    exact qB.elim
  | cont =>
    obtain ⟨_, _, _, qB⟩ := hs
    exact qB.elim
end
section
variable {P : Program} {w : World} {K : PySem.W.Frag} {mg : Str → Option Value} {base : Heap} {k : Nat} {f : Addr} {fd : FuncData} {ps N : List Str} {M : Mk0} {fs : FS}
theorem fnQ {x qual : Str} {st : Stmt} (F : Fun K x qual st f fd) (S : FnScope N ps (defScope st))
    (body : ∀ (cdv : Value) (A : Around) (outer : List Env) (s : Shared) (H : Hp) (E : XK), A.guards = some [] → L2H.RoomH k (A.deeper (envOfC qual (defScope st) s.heap.objs.size f cdv)) →
      PDs (cxQ (L2.CX P w) P w K mg base N qual (defScope st) f cdv A outer s H E).nox M (defBody st) fs) : FnQ P w K mg base (L2.CX P w) (k + 1) f fd ps (spD ⟨K, w, P⟩ M ps.length (fBody N.length fs)) := by
  refine fnQ_of F S (fun vs H Q E h => spD_len vs H Q E h) fun cdv A outer s H vs Q E hg hr ⟨P', F', L, ρ, r, hb, hl, hw⟩ => ?_
  have B := body cdv A outer s H E hg hr
  refine ⟨_, B.ps.nox, P', F', L, _, r.start hb N, B.mono _ _ _ ⟨fun ρ' q σ' L' H' e' r' => ?_, fun d ρ' q v σ' L' H' e' r' d' => ?_, fun _ (q : False) => q.elim, fun _ (q : False) => q.elim⟩ hw⟩
  · exact q .non L' H' e' (r.swap hb r' e') .non
  · exact q v L' H' e' (r.swap hb r' e') d'
end
section
variable {X : Cx} {CX : CXT} {M : Mk0} {k : Nat} {f : Addr} {fd : FuncData} {ps : List Str} {n : Nat} {sp : Sp} {E : XK} {W : FE} {x : Str} {p pos : Pos} {e : Expr} {es : List Expr} {t : TA} {fa : FA}
theorem pe_callQ (G : FnQ X.prog X.w X.K X.mg X.base CX k f fd ps sp) (hgd : X.A.guards = some []) (hr : L2H.RoomH k X.A) (hg : Gl X x) (hm : X.mg x = some (.ref f)) (hk : PySem.W.keepIn X.K (.ref f) = true) (hb : Binds X.K fd ps []) (hx : Passes CX X E)
    (ha : PA X (e :: es) t) (hdb : (x == ("__debug__" : Str)) = false := by decide) (he : starEach (e :: es) X.env = (false, eval e X.env) :: starEach es X.env := by rfl) (hpl : (backTo pos (starEach es X.env)).any (·.1) = false := by rfl) :
    PE X (.Call (.Name x p) (e :: es) [] pos) (tCallG sp E t) := by
  constructor
  intro pins s σ H Q I hw
  refine wpAny_Call_Name_kw (ld_glob I hg hm ?_ hdb)
  refine PySem.W.callWith_K (h₀ := X.base) I.ok.mod.kin hk (thn (ha.run pos pins s σ H _ I hw) fun us sA ⟨vs, HA, IA, rA, qA⟩ => ⟨IA.kIn, ?_⟩) he hpl
  have hl : (us ++ []).length = ps.length := by rw [List.append_nil, ← rA.length]; exact G.len _ _ _ _ qA
  have bi := hb sA us IA.kIn hl
  rw [List.append_nil] at bi
  refine wpAny_call (codeAny_mono (G.goQ X.A X.stack sA HA ⟨us, []⟩ us vs Q E hgd hr IA.env0 bi rA qA) fun res sB hq => ?_)
  cases res with
  | error ex => exact hx pins σ HA sA ex sB IA hq
  | ok fl =>
    cases fl with
    | ret u => exact IA.after hq
    | next => exact hq.elim
    | brk => exact hq.elim
    | cont => exact hq.elim
theorem pd_callQ (mW : ∀ ρ k k', (∀ d ρ', k d ρ' → k' d ρ') → W ρ k → W ρ k') (G : FnQ X.prog X.w X.K X.mg X.base (L2.CX X.prog X.w) k f fd ps (spD X.k0 M n W)) (hgd : X.A.guards = some []) (hr : L2H.RoomH k X.A) (hg : Gl X x) (hm : X.mg x = some (.ref f)) (hk : PySem.W.keepIn X.K (.ref f) = true) (hb : Binds X.K fd ps [])
    (ha : PDA X M (e :: es) fa) (hdb : (x == ("__debug__" : Str)) = false := by decide) (he : starEach (e :: es) X.env = (false, eval e X.env) :: starEach es X.env := by rfl) (hpl : (backTo pos (starEach es X.env)).any (·.1) = false := by rfl) :
    PD X M (.Call (.Name x p) (e :: es) [] pos) (fCall n W fa) := by
  refine ⟨PE.wk (pe_callQ (E := E0) G hgd hr hg hm hk hb passF ha.pa hdb he hpl) fun σ H Q ⟨P, F, L, ρ, r, q⟩ => ?_, fun ρ k k' g q => ha.mono _ _ _ (fun ss ρ1 q => ⟨q.1, mW _ _ _ (fun d ρ2 q => g _ _ q) q.2⟩) q⟩
  refine ⟨P, F, L, ρ, r, ha.mono _ _ _ (fun ss ρ1 q vs L1 H1 e1 r1 hl hs hbare => ?_) q⟩
  have bare : Bare ⟨ss, ρ1.n⟩ := hbare
  have r2 : R X.k0 M P (keepF ρ1 σ F H1) L1 ⟨ss, ρ1.n⟩ (vs.map some) H1 := r1.frame bare rfl (by simpa using hl) fun i s o g1 g2 => by
    rw [List.getElem?_map] at g2
    cases ev : vs[i]? with
    | none => rw [ev] at g2; cases g2
    | some v =>
      rw [ev] at g2
      cases g2
      exact hs i s v g1 ev
  refine ⟨P, _, L1, _, r2, bare, q.1, mW _ _ _ (fun d ρ2 q2 v L2 H2 e2 r3 d2 => ?_) q.2⟩
  exact q2 v L2 H2 (e1.trans e2) (r1.back r3 e2) d2
end
theorem roomQ {k : Nat} {A : Around} {v : Option Value} (r : Room k A) : L2H.RoomH k (A.mark v) := ⟨r.dp, r.un⟩
end PD
namespace PD
open PySem L2 PyProof.Rows PySem.Spec
open Evl (Ex)
def rMulT : R2 := fun x y H Q => ∃ a k, x = .str a ∧ y = .int k ∧ a.length ≤ 1000 ∧ 0 ≤ k ∧ k ≤ 1000 ∧ Q (.str (Txt.mul a k)) H
section
variable {K : Fr0} {X : Cx}
theorem op_mulT : OpR X (binaryOp .Mult) rMulT := by
  intro pins s σ H x y v u Q I rx ry h
  obtain ⟨a, k, rfl, rfl, ha, h0, h1, q⟩ := h
  obtain ⟨t, rfl⟩ := rx
  obtain ⟨t', rfl⟩ := ry
  have hb : a.length * k.toNat ≤ 1000000 := Nat.le_trans (Nat.mul_le_mul ha (show k.toNat ≤ 1000 by omega)) (by decide)
  have hl : ∀ n : Nat, n ≤ 1000000 → n ≤ sizeLine := fun n h => by rw [sizeLine_eq]; omega
  refine PySem.SB.mul ⟨?_, fun hk _ => ?_, fun _ _ => ?_⟩ fun t2 tk => ⟨.str _, H, I.tok _, ⟨_, rfl⟩, q⟩
  · rw [decide_eq_false (by omega), decide_eq_false (by omega)]
    rfl
  · have h3 : (1000 : Int) * k ≤ 2 ^ 63 - 1 := by omega
    have h2 : (1000 : Int) ≤ (2 ^ 63 - 1) / k := (Int.le_ediv_iff_mul_le (by omega)).mpr h3
    omega
  · exact decide_eq_false (Nat.not_lt.mpr (hl _ hb))
def gMulY (x y : D) : Option D := match x, y with
  | .str a, .int k => if a.length ≤ 1000 ∧ 0 ≤ k ∧ k ≤ 1000 then some (.str (Txt.mul a k)) else none
  | x, y => gMulX x y
def rMulY (K : PySem.W.Frag) : R2 := opOr rMulT (rMulX K)
theorem op_mulY : OpR X (binaryOp .Mult) (rMulY X.K) := or_op op_mulT op_mulX
theorem rd_mulY : R2D K (rMulY K.f) gMulY := by
  intro L H x y dx dy d Q tr hx hy hg k
  unfold gMulY at hg
  split at hg
  · split at hg
    · cases hg
      rename_i h
      exact .inl ⟨_, _, rp_str hx, rp_int hy, h.1, h.2.1, h.2.2, k _ _ (Ex.refl _) (.str _)⟩
    · cases hg
  · exact .inr (rd_mulX L H x y _ _ d Q tr hx hy hg k)
end
end PD
namespace GP
open PySem L2 PyProof.Rows PySem.Spec PD GM
open Evl (Ex)
theorem tailsFrom_len {q : Int} {T : List (List Int)} {G : List Int} (w : WOK q T G) : ∀ (n : Nat) {s : Int}, St T s → (tailsFrom T n s).length ≤ 5 ^ n
  | 0, s, _ => by simp [tailsFrom]
  | n + 1, s, hs => by
    obtain ⟨i, hi, _, eT, hl, hx⟩ := w.at hs
    unfold tailsFrom
    rw [eT, List.length_cons, List.length_flatMap]
    have hq := w.q4
    have key : ∀ (l : List (Int × Nat)), (∀ p ∈ l, St T p.1) → (l.map fun p => ((tailsFrom T n p.1).map fun t => ((p.2 : Int) :: t.1, t.2)).length).sum ≤ l.length * 5 ^ n := by
      intro l
      induction l with
      | nil => intro _; simp
      | cons p l ih =>
        intro h
        rw [List.map_cons, List.sum_cons, List.length_cons, List.length_map]
        have h1 := tailsFrom_len w n (h p List.mem_cons_self)
        have h2 := ih fun y hy => h y (List.mem_cons_of_mem _ hy)
        rw [Nat.add_mul, Nat.one_mul]
        omega
    have h1 := key T[i].zipIdx fun p hp => hx _ (List.fst_mem_of_mem_zipIdx hp)
    rw [List.length_zipIdx] at h1
    have h2 : T[i].length * 5 ^ n ≤ 4 * 5 ^ n := Nat.mul_le_mul_right _ (by omega)
    have h3 : 1 ≤ 5 ^ n := Nat.one_le_pow _ _ (by decide)
    rw [Nat.pow_succ]
    omega
abbrev tailsD (l : List (List Int × Int)) : D := .dict (dictOf tupI PyData.int l)
abbrev tailsL (r : Ru) : D := .list ((List.range r.T.length).map fun (s : Nat) => tailsD (r.tails (s : Int)))
def rulesPs (r : Ru) : List (D × D) := [(.str "deeds", .int r.q), (.str "steps", tupT r.T), (.str "good", tupI r.G), (.str "live", tupI r.L), (.str "hold", .int r.h), (.str "ahead", .int r.a), (.str "loose", tupI r.lo), (.str "tails", tailsL r)]
theorem rne : (("good_tails" : Str) = "deeds") = False ∧ (("good_tails" : Str) = "steps") = False ∧ (("good_tails" : Str) = "good") = False ∧ (("good_tails" : Str) = "live") = False ∧ (("good_tails" : Str) = "hold") = False ∧ (("good_tails" : Str) = "ahead") = False ∧ (("good_tails" : Str) = "loose") = False ∧ (("good_tails" : Str) = "tails") = False ∧ (("has_form" : Str) = "deeds") = False ∧ (("has_form" : Str) = "steps") = False ∧ (("has_form" : Str) = "good") = False ∧ (("has_form" : Str) = "live") = False ∧ (("has_form" : Str) = "hold") = False ∧ (("has_form" : Str) = "ahead") = False ∧ (("has_form" : Str) = "loose") = False ∧ (("has_form" : Str) = "tails") = False ∧ (("can_be_held" : Str) = "deeds") = False ∧ (("can_be_held" : Str) = "steps") = False ∧ (("can_be_held" : Str) = "good") = False ∧ (("can_be_held" : Str) = "live") = False ∧ (("can_be_held" : Str) = "hold") = False ∧ (("can_be_held" : Str) = "ahead") = False ∧ (("can_be_held" : Str) = "loose") = False ∧ (("can_be_held" : Str) = "tails") = False ∧ (("moves" : Str) = "deeds") = False ∧ (("moves" : Str) = "steps") = False ∧ (("moves" : Str) = "good") = False ∧ (("moves" : Str) = "live") = False ∧ (("moves" : Str) = "hold") = False ∧ (("moves" : Str) = "ahead") = False ∧ (("moves" : Str) = "loose") = False ∧ (("moves" : Str) = "tails") = False ∧ (("moves_if_doomed" : Str) = "deeds") = False ∧ (("moves_if_doomed" : Str) = "steps") = False ∧ (("moves_if_doomed" : Str) = "good") = False ∧ (("moves_if_doomed" : Str) = "live") = False ∧ (("moves_if_doomed" : Str) = "hold") = False ∧ (("moves_if_doomed" : Str) = "ahead") = False ∧ (("moves_if_doomed" : Str) = "loose") = False ∧ (("moves_if_doomed" : Str) = "tails") = False ∧ (("moves_if_ahead" : Str) = "deeds") = False ∧ (("moves_if_ahead" : Str) = "steps") = False ∧ (("moves_if_ahead" : Str) = "good") = False ∧ (("moves_if_ahead" : Str) = "live") = False ∧ (("moves_if_ahead" : Str) = "hold") = False ∧ (("moves_if_ahead" : Str) = "ahead") = False ∧ (("moves_if_ahead" : Str) = "loose") = False ∧ (("moves_if_ahead" : Str) = "tails") = False ∧ (("moves_if_not_ahead" : Str) = "deeds") = False ∧ (("moves_if_not_ahead" : Str) = "steps") = False ∧ (("moves_if_not_ahead" : Str) = "good") = False ∧ (("moves_if_not_ahead" : Str) = "live") = False ∧ (("moves_if_not_ahead" : Str) = "hold") = False ∧ (("moves_if_not_ahead" : Str) = "ahead") = False ∧ (("moves_if_not_ahead" : Str) = "loose") = False ∧ (("moves_if_not_ahead" : Str) = "tails") = False ∧ (("deeds" : Str) = "steps") = False ∧ (("deeds" : Str) = "good") = False ∧ (("deeds" : Str) = "live") = False ∧ (("deeds" : Str) = "hold") = False ∧ (("deeds" : Str) = "ahead") = False ∧ (("deeds" : Str) = "loose") = False ∧ (("deeds" : Str) = "tails") = False ∧ (("steps" : Str) = "deeds") = False ∧ (("steps" : Str) = "good") = False ∧ (("steps" : Str) = "live") = False ∧ (("steps" : Str) = "hold") = False ∧ (("steps" : Str) = "ahead") = False ∧ (("steps" : Str) = "loose") = False ∧ (("steps" : Str) = "tails") = False ∧ (("good" : Str) = "deeds") = False ∧ (("good" : Str) = "steps") = False ∧ (("good" : Str) = "live") = False ∧ (("good" : Str) = "hold") = False ∧ (("good" : Str) = "ahead") = False ∧ (("good" : Str) = "loose") = False ∧ (("good" : Str) = "tails") = False ∧ (("live" : Str) = "deeds") = False ∧ (("live" : Str) = "steps") = False ∧ (("live" : Str) = "good") = False ∧ (("live" : Str) = "hold") = False ∧ (("live" : Str) = "ahead") = False ∧ (("live" : Str) = "loose") = False ∧ (("live" : Str) = "tails") = False ∧ (("hold" : Str) = "deeds") = False ∧ (("hold" : Str) = "steps") = False ∧ (("hold" : Str) = "good") = False ∧ (("hold" : Str) = "live") = False ∧ (("hold" : Str) = "ahead") = False ∧ (("hold" : Str) = "loose") = False ∧ (("hold" : Str) = "tails") = False ∧ (("ahead" : Str) = "deeds") = False ∧ (("ahead" : Str) = "steps") = False ∧ (("ahead" : Str) = "good") = False ∧ (("ahead" : Str) = "live") = False ∧ (("ahead" : Str) = "hold") = False ∧ (("ahead" : Str) = "loose") = False ∧ (("ahead" : Str) = "tails") = False ∧ (("loose" : Str) = "deeds") = False ∧ (("loose" : Str) = "steps") = False ∧ (("loose" : Str) = "good") = False ∧ (("loose" : Str) = "live") = False ∧ (("loose" : Str) = "hold") = False ∧ (("loose" : Str) = "ahead") = False ∧ (("loose" : Str) = "tails") = False ∧ (("tails" : Str) = "deeds") = False ∧ (("tails" : Str) = "steps") = False ∧ (("tails" : Str) = "good") = False ∧ (("tails" : Str) = "live") = False ∧ (("tails" : Str) = "hold") = False ∧ (("tails" : Str) = "ahead") = False ∧ (("tails" : Str) = "loose") = False := by
  refine ⟨eq_false (by decide +kernel), eq_false (by decide +kernel), eq_false (by decide +kernel), eq_false (by decide +kernel), eq_false (by decide +kernel), eq_false (by decide +kernel), eq_false (by decide +kernel), eq_false (by decide +kernel), eq_false (by decide +kernel), eq_false (by decide +kernel), eq_false (by decide +kernel), eq_false (by decide +kernel), eq_false (by decide +kernel), eq_false (by decide +kernel), eq_false (by decide +kernel), eq_false (by decide +kernel), eq_false (by decide +kernel), eq_false (by decide +kernel), eq_false (by decide +kernel), eq_false (by decide +kernel), eq_false (by decide +kernel), eq_false (by decide +kernel), eq_false (by decide +kernel), eq_false (by decide +kernel), eq_false (by decide +kernel), eq_false (by decide +kernel), eq_false (by decide +kernel), eq_false (by decide +kernel), eq_false (by decide +kernel), eq_false (by decide +kernel), eq_false (by decide +kernel), eq_false (by decide +kernel), eq_false (by decide +kernel), eq_false (by decide +kernel), eq_false (by decide +kernel), eq_false (by decide +kernel), eq_false (by decide +kernel), eq_false (by decide +kernel), eq_false (by decide +kernel), eq_false (by decide +kernel), eq_false (by decide +kernel), eq_false (by decide +kernel), eq_false (by decide +kernel), eq_false (by decide +kernel), eq_false (by decide +kernel), eq_false (by decide +kernel), eq_false (by decide +kernel), eq_false (by decide +kernel), eq_false (by decide +kernel), eq_false (by decide +kernel), eq_false (by decide +kernel), eq_false (by decide +kernel), eq_false (by decide +kernel), eq_false (by decide +kernel), eq_false (by decide +kernel), eq_false (by decide +kernel), eq_false (by decide +kernel), eq_false (by decide +kernel), eq_false (by decide +kernel), eq_false (by decide +kernel), eq_false (by decide +kernel), eq_false (by decide +kernel), eq_false (by decide +kernel), eq_false (by decide +kernel), eq_false (by decide +kernel), eq_false (by decide +kernel), eq_false (by decide +kernel), eq_false (by decide +kernel), eq_false (by decide +kernel), eq_false (by decide +kernel), eq_false (by decide +kernel), eq_false (by decide +kernel), eq_false (by decide +kernel), eq_false (by decide +kernel), eq_false (by decide +kernel), eq_false (by decide +kernel), eq_false (by decide +kernel), eq_false (by decide +kernel), eq_false (by decide +kernel), eq_false (by decide +kernel), eq_false (by decide +kernel), eq_false (by decide +kernel), eq_false (by decide +kernel), eq_false (by decide +kernel), eq_false (by decide +kernel), eq_false (by decide +kernel), eq_false (by decide +kernel), eq_false (by decide +kernel), eq_false (by decide +kernel), eq_false (by decide +kernel), eq_false (by decide +kernel), eq_false (by decide +kernel), eq_false (by decide +kernel), eq_false (by decide +kernel), eq_false (by decide +kernel), eq_false (by decide +kernel), eq_false (by decide +kernel), eq_false (by decide +kernel), eq_false (by decide +kernel), eq_false (by decide +kernel), eq_false (by decide +kernel), eq_false (by decide +kernel), eq_false (by decide +kernel), eq_false (by decide +kernel), eq_false (by decide +kernel), eq_false (by decide +kernel), eq_false (by decide +kernel), eq_false (by decide +kernel), eq_false (by decide +kernel), eq_false (by decide +kernel), eq_false (by decide +kernel), eq_false (by decide +kernel)⟩
theorem lk_deeds (r : Ru) : lookD "deeds" (rulesPs r) = some (.int r.q) := by
  simp only [rulesPs, lookD, rne, if_true, if_false]
theorem lk_steps (r : Ru) : lookD "steps" (rulesPs r) = some (tupT r.T) := by
  simp only [rulesPs, lookD, rne, if_true, if_false]
theorem lk_good (r : Ru) : lookD "good" (rulesPs r) = some (tupI r.G) := by
  simp only [rulesPs, lookD, rne, if_true, if_false]
theorem lk_live (r : Ru) : lookD "live" (rulesPs r) = some (tupI r.L) := by
  simp only [rulesPs, lookD, rne, if_true, if_false]
theorem lk_hold (r : Ru) : lookD "hold" (rulesPs r) = some (.int r.h) := by
  simp only [rulesPs, lookD, rne, if_true, if_false]
theorem lk_ahead (r : Ru) : lookD "ahead" (rulesPs r) = some (.int r.a) := by
  simp only [rulesPs, lookD, rne, if_true, if_false]
theorem lk_loose (r : Ru) : lookD "loose" (rulesPs r) = some (tupI r.lo) := by
  simp only [rulesPs, lookD, rne, if_true, if_false]
theorem lk_tails (r : Ru) : lookD "tails" (rulesPs r) = some (tailsL r) := by
  simp only [rulesPs, lookD, rne, if_true, if_false]
theorem lm_good_tails (r : Ru) : lookD "good_tails" (rulesPs r) = none := by
  simp only [rulesPs, lookD, rne, if_false]
theorem lm_has_form (r : Ru) : lookD "has_form" (rulesPs r) = none := by
  simp only [rulesPs, lookD, rne, if_false]
theorem lm_can_be_held (r : Ru) : lookD "can_be_held" (rulesPs r) = none := by
  simp only [rulesPs, lookD, rne, if_false]
theorem lm_moves (r : Ru) : lookD "moves" (rulesPs r) = none := by
  simp only [rulesPs, lookD, rne, if_false]
theorem lm_moves_if_doomed (r : Ru) : lookD "moves_if_doomed" (rulesPs r) = none := by
  simp only [rulesPs, lookD, rne, if_false]
theorem lm_moves_if_ahead (r : Ru) : lookD "moves_if_ahead" (rulesPs r) = none := by
  simp only [rulesPs, lookD, rne, if_false]
theorem lm_moves_if_not_ahead (r : Ru) : lookD "moves_if_not_ahead" (rulesPs r) = none := by
  simp only [rulesPs, lookD, rne, if_false]
theorem tails_len {r : Ru} (K : RuOK r) {s : Int} (hs : GM.St r.T s) : (r.tails s).length ≤ 25 := by
  have h1 := tailsFrom_len K.w r.a.toNat hs
  have h2 : 5 ^ r.a.toNat ≤ 25 := Nat.le_trans (Nat.pow_le_pow_right (by decide) (show r.a.toNat ≤ 2 by have := K.k.a2; omega)) (by decide)
  have h3 := List.length_filter_le (fun p : List Int × Int => decide (p.2 ∈ r.G)) (tailsFrom r.T r.a.toNat s)
  show (goodTails r.T r.G r.a.toNat s).length ≤ 25
  unfold goodTails
  omega
end GP
namespace GP
open PySem L2 PyProof.Rows PySem.Spec PD GM
open Evl (Ex)
def W_answers : FE := fun ρ k => ∃ (r : Ru) (p : Po) (d : Int), ρ.sl = [.d (wishD r.q r.T r.G), .d (kindD r.h r.a r.lo), .d p.d, .d (.int d)] ∧ (RuOK r ∧ POK r p ∧ Dd r.q d) ∧ k (tupT ((movesM r p d).map (·.1))) ρ
end GP
namespace GA
open PySem L2 PyProof.Rows PySem.Spec PD GM GP
open Evl (Ex)
abbrev W_law_next := W_nextA
abbrev mW_law_next := mW_nextA
def W_law_want : FE := fun ρ k => ∃ (A B : Int), ρ.sl = [.st, .d (.int A), .d (.int B)] ∧ (1 ≤ A ∧ A ≤ 4 ∧ 1 ≤ B ∧ B ≤ 6) ∧ ρ.n + 100 ≤ 1000000000000 ∧ ∀ (q : Int) (T : List (List Int)) (G : List Int) (nn : Nat), (WOK q T G ∧ q ≤ A ∧ (T.length : Int) ≤ B) → nn ≤ ρ.n + 100 → k (wishD q T G) ⟨ρ.sl, nn⟩
def W_law_sort : FE := fun ρ k => ∃ (q h a : Int), ρ.sl = [.st, .d (.int q), .d (.int h), .d (.int a)] ∧ (1 ≤ q ∧ q ≤ 4 ∧ 0 ≤ h ∧ h ≤ 3 ∧ 0 ≤ a ∧ a ≤ 2) ∧ ρ.n + 10 ≤ 1000000000000 ∧ ∀ (h' a' : Int) (lo : List Int) (nn : Nat), (KOK q h' a' lo ∧ h' ≤ h ∧ a' ≤ a) → nn ≤ ρ.n + 10 → k (kindD h' a' lo) ⟨ρ.sl, nn⟩
structure Part (T : List (List Int)) (G F : List Int) : Prop where
  nd : F.Nodup
  rng : ∀ x ∈ F, 0 ≤ x ∧ x ≤ (T.length : Int) - 1
  sup : ∀ x ∈ G, x ∈ F
  min : ∀ A : Int → Prop, (∀ x ∈ G, A x) → (∀ (i : Nat) (h : i < T.length), (∃ b ∈ T[i], A b) → A i) → ∀ x ∈ F, A x
theorem Part.len {T : List (List Int)} {G F : List Int} (h : Part T G F) (ht : 1 ≤ T.length) : F.length ≤ T.length := by
  have h1 := asc_len (G := isort F) (lo := 0) (hi := (T.length : Int) - 1) (isort_strict h.nd) fun x hx => h.rng x ((isort_perm F).mem_iff.mp hx)
  rw [(isort_perm F).length_eq] at h1
  omega
theorem Part.add {T : List (List Int)} {G F : List Int} (h : Part T G F) {j : Nat} (hj : j < T.length) (hn : (j : Int) ∉ F) (hb : ∃ b ∈ T[j], b ∈ F) : Part T G (F ++ [(j : Int)]) := by
  refine ⟨List.nodup_append.mpr ⟨h.nd, by simp, fun a ha b hb e => ?_⟩, fun x hx => ?_, fun x hx => List.mem_append_left _ (h.sup x hx), fun A hA hc x hx => ?_⟩
  · rw [List.mem_singleton] at hb
    exact hn (by rw [← hb, ← e]; exact ha)
  · rcases List.mem_append.mp hx with z | z
    · exact h.rng x z
    · rw [List.mem_singleton] at z
      omega
  · rcases List.mem_append.mp hx with z | z
    · exact h.min A hA hc x z
    · rw [List.mem_singleton] at z
      subst z
      obtain ⟨b, h1, h2⟩ := hb
      exact hc j hj ⟨b, h1, h.min A hA hc b h2⟩
abbrev intsL (ns : List Int) : D := .list (ns.map .int)
def W_law_live : FE := fun ρ k => ∃ q T G, ρ.sl = [.d (wishD q T G)] ∧ WOK q T G ∧ ∀ S, IsLive T G S → k (intsL S) ρ
def more (m : Nat) (r : List Int) : List (List Int) := (List.range m).map fun i : Nat => r ++ [(i : Int)]
def rowsX (m : Nat) : Nat → List (List Int)
  | 0 => [[]]
  | c + 1 => (rowsX m c).flatMap (more m)
def rowsM (m : Nat) : Nat → List (List Int)
  | 0 => [[]]
  | c + 1 => rowsM m c ++ rowsX m (c + 1)
theorem len_more (m : Nat) : ∀ L : List (List Int), (L.flatMap (more m)).length = L.length * m
  | [] => by simp
  | r :: L => by
    rw [List.flatMap_cons, List.length_append, len_more m L, List.length_cons, Nat.succ_mul]
    unfold more
    rw [List.length_map, List.length_range]
    omega
theorem len_rowsX {m : Nat} (hm : m ≤ 4) : ∀ c, (rowsX m c).length ≤ 4 ^ c
  | 0 => by simp [rowsX]
  | c + 1 => by
    have := len_rowsX hm c
    show ((rowsX m c).flatMap (more m)).length ≤ _
    rw [len_more, Nat.pow_succ]
    exact Nat.mul_le_mul this hm
theorem len_rowsM {m : Nat} (hm : m ≤ 4) : ∀ c, (rowsM m c).length ≤ 2 * 4 ^ c
  | 0 => by simp [rowsM]
  | c + 1 => by
    have h1 := len_rowsM hm c
    have h2 := len_rowsX hm (c + 1)
    show (rowsM m c ++ rowsX m (c + 1)).length ≤ _
    rw [List.length_append]
    rw [Nat.pow_succ] at h2 ⊢
    omega
theorem mem_more {m : Nat} {r x : List Int} : x ∈ more m r ↔ ∃ i : Nat, i < m ∧ x = r ++ [(i : Int)] := by
  unfold more
  rw [List.mem_map]
  exact ⟨fun ⟨i, h, e⟩ => ⟨i, List.mem_range.mp h, e.symm⟩, fun ⟨i, h, e⟩ => ⟨i, List.mem_range.mpr h, e.symm⟩⟩
theorem mem_rowsX {m : Nat} : ∀ {c : Nat} {r : List Int}, r ∈ rowsX m c ↔ r.length = c ∧ ∀ d ∈ r, Dd m d
  | 0, r => by
    show r ∈ [[]] ↔ _
    rw [List.mem_singleton]
    exact ⟨fun h => by subst h; exact ⟨rfl, fun _ h => (List.not_mem_nil h).elim⟩, fun h => List.eq_nil_of_length_eq_zero h.1⟩
  | c + 1, r => by
    show r ∈ (rowsX m c).flatMap (more m) ↔ _
    rw [List.mem_flatMap]
    constructor
    · rintro ⟨u, hu, h⟩
      obtain ⟨i, hi, rfl⟩ := mem_more.mp h
      obtain ⟨h1, h2⟩ := mem_rowsX.mp hu
      refine ⟨by simp [h1], fun d hd => ?_⟩
      rcases List.mem_append.mp hd with z | z
      · exact h2 d z
      · rw [List.mem_singleton.mp z]; exact ⟨by omega, by omega⟩
    · rintro ⟨h1, h2⟩
      have hn : r ≠ [] := fun e => by subst e; simp at h1
      have e := List.dropLast_concat_getLast hn
      have hl := h2 (r.getLast hn) (List.getLast_mem hn)
      obtain ⟨i, hi⟩ := Int.eq_ofNat_of_zero_le hl.1
      refine ⟨r.dropLast, mem_rowsX.mpr ⟨by simp [h1], fun d hd => h2 d ((List.dropLast_sublist r).subset hd)⟩, mem_more.mpr ⟨i, by have := hl.2; omega, ?_⟩⟩
      rw [← hi, e]
theorem mem_rowsM {m : Nat} : ∀ {c : Nat} {r : List Int}, r ∈ rowsM m c ↔ r.length ≤ c ∧ ∀ d ∈ r, Dd m d
  | 0, r => by
    have := mem_rowsX (m := m) (c := 0) (r := r)
    show r ∈ [[]] ↔ _
    rw [show r ∈ ([[]] : List (List Int)) ↔ r.length = 0 ∧ ∀ d ∈ r, Dd m d from this]
    exact ⟨fun h => ⟨by omega, h.2⟩, fun h => ⟨by omega, h.2⟩⟩
  | c + 1, r => by
    show r ∈ rowsM m c ++ rowsX m (c + 1) ↔ _
    rw [List.mem_append, mem_rowsM, mem_rowsX]
    constructor
    · rintro (h | h)
      · exact ⟨by omega, h.2⟩
      · exact ⟨by omega, h.2⟩
    · rintro ⟨h1, h2⟩
      by_cases e : r.length = c + 1
      · exact .inr ⟨e, h2⟩
      · exact .inl ⟨by omega, h2⟩
theorem nodup_rowsX (m : Nat) : ∀ c, (rowsX m c).Nodup
  | 0 => by simp [rowsX]
  | c + 1 => by
    show List.Pairwise _ ((rowsX m c).flatMap (more m))
    rw [List.pairwise_flatMap]
    refine ⟨fun r _ => ?_, (nodup_rowsX m c).imp fun {r r'} h x hx y hy e => ?_⟩
    · unfold more
      rw [List.pairwise_map]
      exact List.nodup_range.imp fun {i j} h e => h (by
        have := List.append_cancel_left e
        injection this with h1
        omega)
    · obtain ⟨i, _, rfl⟩ := mem_more.mp hx
      obtain ⟨j, _, rfl⟩ := mem_more.mp hy
      exact h (List.append_inj_left' e rfl)
theorem nodup_rowsM (m : Nat) : ∀ c, (rowsM m c).Nodup
  | 0 => by simp [rowsM]
  | c + 1 => by
    show (rowsM m c ++ rowsX m (c + 1)).Nodup
    refine List.nodup_append.mpr ⟨nodup_rowsM m c, nodup_rowsX m _, fun a ha b hb e => ?_⟩
    subst e
    have h1 := (mem_rowsM.mp ha).1
    have h2 := (mem_rowsX.mp hb).1
    omega
def W_law_rows : FE := fun ρ k => ∃ (q n : Int), ρ.sl = [.d (.int q), .d (.int n)] ∧ (1 ≤ q ∧ q ≤ 4 ∧ 0 ≤ n ∧ n ≤ 8) ∧ k (.list ((rowsM q.toNat n.toNat).map tupI)) ρ
end GA
namespace GG
open PD PySem GM GP GA
section
variable {α : Type} [DecidableEq α]
def dfs (nx : α → List α) : Nat → List α → List α → List α
  | 0, tab, _ => tab
  | n + 1, tab, w => match w.getLast? with
    | none => tab
    | some p => if p ∈ tab then dfs nx n tab w.dropLast else dfs nx n (tab ++ [p]) (w.dropLast ++ nx p)
theorem dfs_nil (nx : α → List α) (n : Nat) (tab : List α) : dfs nx n tab [] = tab := by
  cases n <;> rfl
theorem dfs_snoc (nx : α → List α) (n : Nat) (tab w : List α) (p : α) : dfs nx (n + 1) tab (w ++ [p]) = if p ∈ tab then dfs nx n tab w else dfs nx n (tab ++ [p]) (w ++ nx p) := by
  show (match (w ++ [p]).getLast? with
    | none => tab
    | some p' => if p' ∈ tab then dfs nx n tab (w ++ [p]).dropLast else dfs nx n (tab ++ [p']) ((w ++ [p]).dropLast ++ nx p')) = _
  rw [List.getLast?_concat, List.dropLast_concat]
structure Uni (nx : α → List α) (P : α → Prop) (U B : Nat) : Prop where
  clo : ∀ p, P p → ∀ q ∈ nx p, P q
  len : ∀ p, P p → (nx p).length ≤ B
  bnd : ∀ l : List α, l.Nodup → (∀ x ∈ l, P x) → l.length ≤ U
abbrev fuel (U B : Nat) (tab w : List α) : Nat := (U - tab.length) * (B + 1) + w.length
variable {nx : α → List α} {P : α → Prop} {U B : Nat}
theorem Uni.new (h : Uni nx P U B) {tab : List α} (hn : tab.Nodup) (ht : ∀ x ∈ tab, P x) {p : α} (hp : P p) (hnp : p ∉ tab) : (tab ++ [p]).Nodup ∧ (∀ x ∈ tab ++ [p], P x) ∧ tab.length + 1 ≤ U := by
  have h1 : (tab ++ [p]).Nodup := List.nodup_append.mpr ⟨hn, by simp, fun a ha b hb e => hnp (by rw [List.mem_singleton] at hb; rw [← hb, ← e]; exact ha)⟩
  have h2 : ∀ x ∈ tab ++ [p], P x := fun x hx => by
    rcases List.mem_append.mp hx with z | z
    · exact ht x z
    · rw [List.mem_singleton.mp z]; exact hp
  refine ⟨h1, h2, ?_⟩
  have := h.bnd _ h1 h2
  rwa [List.length_append, List.length_singleton] at this
theorem Uni.step (h : Uni nx P U B) {tab w : List α} {p : α} {n : Nat} (hn : tab.Nodup) (ht : ∀ x ∈ tab, P x) (hp : P p) (hnp : p ∉ tab) (hf : fuel U B tab (w ++ [p]) ≤ n + 1) : fuel U B (tab ++ [p]) (w ++ nx p) ≤ n := by
  have h1 := (h.new hn ht hp hnp).2.2
  have h2 := h.len p hp
  unfold fuel at hf ⊢
  rw [List.length_append, List.length_singleton] at hf ⊢
  rw [List.length_append]
  obtain ⟨d, hd⟩ : ∃ d, U = tab.length + 1 + d := ⟨U - (tab.length + 1), by omega⟩
  subst hd
  rw [show tab.length + 1 + d - tab.length = d + 1 by omega, Nat.succ_mul] at hf
  rw [show tab.length + 1 + d - (tab.length + 1) = d by omega]
  omega
theorem Uni.fuel_one (h : Uni nx P U B) {p : α} : fuel U B ([] : List α) [p] ≤ U * (B + 1) + 1 := by
  unfold fuel
  simp
structure Came (nx : α → List α) (P : α → Prop) (tab w R : List α) : Prop where
  nd : R.Nodup
  all : ∀ x ∈ R, P x
  tb : ∀ x ∈ tab, x ∈ R
  wt : ∀ x ∈ w, x ∈ R
  clo : (∀ x ∈ tab, ∀ y ∈ nx x, y ∈ tab ∨ y ∈ w) → ∀ x ∈ R, ∀ y ∈ nx x, y ∈ R
  min : ∀ A : α → Prop, (∀ x ∈ tab, A x) → (∀ x ∈ w, A x) → (∀ x, A x → P x → ∀ y ∈ nx x, A y) → ∀ x ∈ R, A x
theorem dfs_came (h : Uni nx P U B) : ∀ (n : Nat) (tab w : List α), fuel U B tab w ≤ n → tab.Nodup → (∀ x ∈ tab, P x) → (∀ x ∈ w, P x) → Came nx P tab w (dfs nx n tab w) := by
  intro n
  induction n with
  | zero =>
    intro tab w hf hn ht hw
    have : w = [] := List.eq_nil_of_length_eq_zero (by unfold fuel at hf; omega)
    subst this
    exact ⟨hn, ht, fun _ h => h, fun _ h => (List.not_mem_nil h).elim, fun hc x hx y hy => by rcases hc x hx y hy with z | z; exact z; exact (List.not_mem_nil z).elim, fun A hA _ _ => hA⟩
  | succ n ih =>
    intro tab w hf hn ht hw
    rcases List.eq_nil_or_concat w with rfl | ⟨w, p, rfl⟩
    · rw [dfs_nil]
      exact ⟨hn, ht, fun _ h => h, fun _ h => (List.not_mem_nil h).elim, fun hc x hx y hy => by rcases hc x hx y hy with z | z; exact z; exact (List.not_mem_nil z).elim, fun A hA _ _ => hA⟩
    · rw [List.concat_eq_append] at *
      rw [dfs_snoc]
      have hp : P p := hw p (List.mem_append_right _ (List.mem_singleton.mpr rfl))
      have hw' : ∀ x ∈ w, P x := fun x hx => hw x (List.mem_append_left _ hx)
      by_cases hpt : p ∈ tab
      · rw [if_pos hpt]
        have c := ih tab w (by unfold fuel at hf ⊢; rw [List.length_append, List.length_singleton] at hf; omega) hn ht hw'
        refine ⟨c.nd, c.all, c.tb, fun x hx => ?_, fun hc => c.clo fun x hx y hy => ?_, fun A h1 h2 h3 => c.min A h1 (fun x hx => h2 x (List.mem_append_left _ hx)) h3⟩
        · rcases List.mem_append.mp hx with z | z
          · exact c.wt x z
          · rw [List.mem_singleton.mp z]; exact c.tb p hpt
        · rcases hc x hx y hy with z | z
          · exact .inl z
          · rcases List.mem_append.mp z with z | z
            · exact .inr z
            · rw [List.mem_singleton.mp z]; exact .inl hpt
      · rw [if_neg hpt]
        obtain ⟨n1, n2, n3⟩ := h.new hn ht hp hpt
        have c := ih (tab ++ [p]) (w ++ nx p) (h.step hn ht hp hpt hf) n1 n2 fun x hx => by
          rcases List.mem_append.mp hx with z | z
          · exact hw' x z
          · exact h.clo p hp x z
        refine ⟨c.nd, c.all, fun x hx => c.tb x (List.mem_append_left _ hx), fun x hx => ?_, fun hc => c.clo fun x hx y hy => ?_, fun A h1 h2 h3 => c.min A (fun x hx => ?_) (fun x hx => ?_) h3⟩
        · rcases List.mem_append.mp hx with z | z
          · exact c.wt x (List.mem_append_left _ z)
          · exact c.tb x (List.mem_append_right _ z)
        · rcases List.mem_append.mp hx with z | z
          · rcases hc x z y hy with u | u
            · exact .inl (List.mem_append_left _ u)
            · rcases List.mem_append.mp u with u | u
              · exact .inr (List.mem_append_left _ u)
              · exact .inl (List.mem_append_right _ u)
          · rw [List.mem_singleton.mp z] at hy
            exact .inr (List.mem_append_right _ hy)
        · rcases List.mem_append.mp hx with z | z
          · exact h1 x z
          · rw [List.mem_singleton.mp z]; exact h2 p (List.mem_append_right _ (List.mem_singleton.mpr rfl))
        · rcases List.mem_append.mp hx with z | z
          · exact h2 x (List.mem_append_left _ z)
          · exact h3 p (h2 p (List.mem_append_right _ (List.mem_singleton.mpr rfl))) hp x z
/-- the whole of it, from one -/
def comes (nx : α → List α) (N : Nat) (p : α) : List α := dfs nx N [] [p]
structure Table (nx : α → List α) (P : α → Prop) (p : α) (R : List α) : Prop where
  nd : R.Nodup
  all : ∀ x ∈ R, P x
  st : p ∈ R
  clo : ∀ x ∈ R, ∀ y ∈ nx x, y ∈ R
  min : ∀ A : α → Prop, A p → (∀ x, A x → P x → ∀ y ∈ nx x, A y) → ∀ x ∈ R, A x
theorem comes_table (h : Uni nx P U B) {p : α} (hp : P p) {N : Nat} (hN : U * (B + 1) + 1 ≤ N) : Table nx P p (comes nx N p) := by
  have c := dfs_came h N [] [p] (Nat.le_trans h.fuel_one hN) List.nodup_nil (fun _ h => (List.not_mem_nil h).elim) fun x hx => by rw [List.mem_singleton.mp hx]; exact hp
  exact ⟨c.nd, c.all, c.wt p (List.mem_singleton.mpr rfl), c.clo fun _ h => (List.not_mem_nil h).elim, fun A h1 h2 => c.min A (fun _ h => (List.not_mem_nil h).elim) (fun x hx => by rw [List.mem_singleton.mp hx]; exact h1) h2⟩
end
def deedsL (q : Int) : List Int := (List.range q.toNat).map fun i : Nat => (i : Int)
theorem mem_deedsL {q d : Int} : d ∈ deedsL q ↔ Dd q d := by
  unfold deedsL
  rw [List.mem_map]
  constructor
  · rintro ⟨i, hi, rfl⟩
    have := List.mem_range.mp hi
    exact ⟨by omega, by omega⟩
  · rintro ⟨h1, h2⟩
    obtain ⟨i, rfl⟩ := Int.eq_ofNat_of_zero_le h1
    exact ⟨i, List.mem_range.mpr (by omega), rfl⟩
theorem len_deedsL (q : Int) : (deedsL q).length = q.toNat := by
  unfold deedsL
  rw [List.length_map, List.length_range]
def seatsAt (R : List (List Int)) (s : Int) : List Po := [.even s, .off s] ++ R.map (.behind s) ++ R.map (.ahead s)
def seats (r : Ru) : List Po := (List.range r.T.length).flatMap fun j : Nat => seatsAt (rowsM r.q.toNat 3) (j : Int)
theorem len_seats {r : Ru} (K : RuOK r) : (seats r).length ≤ 1600 := by
  have q4 := K.w.q4
  have hR : (rowsM r.q.toNat 3).length ≤ 2 * 4 ^ 3 := len_rowsM (by omega) 3
  have h2 : 2 * 4 ^ 3 = 128 := by decide
  rw [h2] at hR
  unfold seats
  generalize rowsM r.q.toNat 3 = R at hR
  have : ∀ L : List Nat, (L.flatMap fun j : Nat => seatsAt R (j : Int)).length ≤ L.length * 260 := by
    intro L
    induction L with
    | nil => simp
    | cons j L ih =>
      rw [List.flatMap_cons, List.length_append, List.length_cons, Nat.succ_mul]
      have : (seatsAt R (j : Int)).length ≤ 260 := by unfold seatsAt; simp; omega
      omega
  have := this (List.range r.T.length)
  rw [List.length_range] at this
  have := K.w.t6
  omega
theorem mem_seats {r : Ru} (K : RuOK r) : ∀ {p : Po}, POK r p → p ∈ seats r := by
  have h3 := K.k.h3
  have a2 := K.k.a2
  have q1 := K.w.q1
  have at_ : ∀ {s : Int} {p : Po}, GM.St r.T s → p ∈ seatsAt (rowsM r.q.toNat 3) s → p ∈ seats r := fun {s p} hs hp => by
    obtain ⟨i, rfl⟩ := Int.eq_ofNat_of_zero_le hs.1
    exact List.mem_flatMap.mpr ⟨i, List.mem_range.mpr (by have := hs.2; omega), hp⟩
  intro p hp
  cases p with
  | even s => exact at_ (K.st_g hp) (by unfold seatsAt; simp)
  | off s => exact at_ (K.st_g hp) (by unfold seatsAt; simp)
  | behind s x =>
    refine at_ (K.st_g hp.1) ?_
    have hx : x ∈ rowsM r.q.toNat 3 := mem_rowsM.mpr ⟨by have := hp.2.2.1; omega, fun d hd => by have := (hp.2.2.2.1 d hd).1; exact ⟨this.1, by have := this.2; omega⟩⟩
    unfold seatsAt
    simp [hx]
  | ahead s x =>
    refine at_ hp.1 ?_
    have hx : x ∈ rowsM r.q.toNat 3 := mem_rowsM.mpr ⟨by have := hp.2.2.1; omega, fun d hd => by have := hp.2.2.2.1 d hd; exact ⟨this.1, by have := this.2; omega⟩⟩
    unfold seatsAt
    simp [hx]
theorem len_sub {α : Type} [DecidableEq α] : ∀ {l m : List α}, l.Nodup → (∀ x ∈ l, x ∈ m) → l.length ≤ m.length
  | [], m, _, _ => Nat.zero_le _
  | x :: l, m, hn, h => by
    have h1 := List.nodup_cons.mp hn
    have hx := h x List.mem_cons_self
    have h2 := len_sub (m := m.erase x) h1.2 fun y hy => (List.mem_erase_of_ne fun e => h1.1 (by rw [← e]; exact hy)).mpr (h y (List.mem_cons_of_mem _ hy))
    rw [List.length_erase_of_mem hx] at h2
    have := List.length_pos_of_mem hx
    rw [List.length_cons]
    omega
theorem few_seats {r : Ru} (K : RuOK r) {l : List Po} (hn : l.Nodup) (h : ∀ p ∈ l, POK r p) : l.length ≤ 1600 := by
  have h1 := len_sub hn (m := seats r) fun p hp => mem_seats K (h p hp)
  have := len_seats K
  omega
theorem len_off {r : Ru} (K : RuOK r) {s d : Int} (hs : GM.St r.T s) (hd : Dd r.q d) : (movesOff r s d).length ≤ 25 := by
  unfold movesOff
  split
  · simp
  · rw [List.length_map]
    exact tails_len K (K.w.stp hs hd)
theorem len_movesM {r : Ru} (K : RuOK r) {p : Po} (hp : POK r p) {d : Int} (hd : Dd r.q d) : (movesM r p d).length ≤ 26 := by
  have notA : ∀ {s : Int} {x : List Int}, s ∈ r.G → (∀ y ∈ x, Dd r.q y) → (movesNot r s x d).length ≤ 26 := fun {s x} hs hx => by
    have hss := K.st_g hs
    have hw : GM.St r.T (walkT r.T s (x ++ [d])) := K.w.walk _ hss fun y hy => by
      rcases List.mem_append.mp hy with u | u
      · exact hx y u
      · rw [List.mem_singleton.mp u]; exact hd
    have := tails_len K hw
    have := len_off K hss hd
    unfold movesNot
    split
    · omega
    · split
      · simp
      · split
        · simp
        · rw [List.length_append, List.length_map]
          split <;> simp <;> omega
  cases p with
  | even s => exact notA hp fun _ h => (List.not_mem_nil h).elim
  | behind s x => exact notA hp.1 fun y hy => (hp.2.2.2.1 y hy).1
  | off s => have := len_off K (K.st_g hp) hd; show (movesOff r s d).length ≤ 26; omega
  | ahead s t =>
    show (movesAhead r s t d).length ≤ 26
    have := len_off K (K.st_g hp.2.2.2.2) hd
    have h1 := tails_len K (K.w.stp hp.1 hd)
    unfold movesAhead
    split
    · omega
    · split
      · simp
      · dsimp only
        split
        · generalize (if d ∈ r.lo then t.tail ++ [d] else t.tail) = b
          split <;> simp
        · rw [List.length_map]
          have := List.length_filter_le (fun p : List Int × Int => decide (p.1.take (if d ∈ r.lo then t.tail ++ [d] else t.tail).length = (if d ∈ r.lo then t.tail ++ [d] else t.tail))) (r.tails (stp r.T s d))
          omega
abbrev Row := List (List Int × Po)
def rowsP (r : Ru) (p : Po) : List Row := (deedsL r.q).map (movesM r p)
def nexts (r : Ru) (p : Po) : List Po := (rowsP r p).flatMap fun l => l.map (·.2)
theorem mem_nexts {r : Ru} {p q : Po} : q ∈ nexts r p ↔ ∃ d, Dd r.q d ∧ ∃ x, (x, q) ∈ movesM r p d := by
  unfold nexts rowsP
  rw [List.mem_flatMap]
  constructor
  · rintro ⟨l, hl, h⟩
    obtain ⟨d, hd, rfl⟩ := List.mem_map.mp hl
    obtain ⟨⟨x, y⟩, hm, rfl⟩ := List.mem_map.mp h
    exact ⟨d, mem_deedsL.mp hd, x, hm⟩
  · rintro ⟨d, hd, x, hm⟩
    exact ⟨_, List.mem_map.mpr ⟨d, mem_deedsL.mpr hd, rfl⟩, List.mem_map.mpr ⟨(x, q), hm, rfl⟩⟩
theorem uni_nexts {r : Ru} (K : RuOK r) : Uni (nexts r) (POK r) 1600 104 := by
  refine ⟨fun p hp q hq => ?_, fun p hp => ?_, fun l hn h => few_seats K hn h⟩
  · obtain ⟨d, hd, x, hm⟩ := mem_nexts.mp hq
    exact (moves_row K hp hd hm).2
  · unfold nexts
    have key : ∀ L : List Row, (∀ l ∈ L, l.length ≤ 26) → (L.flatMap fun l => l.map (·.2)).length ≤ L.length * 26 := by
      intro L
      induction L with
      | nil => intro _; simp
      | cons l L ih =>
        intro h
        rw [List.flatMap_cons, List.length_append, List.length_map, List.length_cons, Nat.succ_mul]
        have := h l List.mem_cons_self
        have := ih fun l hl => h l (List.mem_cons_of_mem _ hl)
        omega
    have h1 := key (rowsP r p) fun l hl => by
      obtain ⟨d, hd, rfl⟩ := List.mem_map.mp hl
      exact len_movesM K hp (mem_deedsL.mp hd)
    have h2 : (rowsP r p).length ≤ 4 := by
      unfold rowsP
      rw [List.length_map, len_deedsL]
      have := K.w.q4
      omega
    omega
abbrev NN : Nat := 1600 * 105 + 1
def tab0 (r : Ru) : List Po := comes (nexts r) NN (.even 0)
theorem tab0_ok {r : Ru} (K : RuOK r) : Table (nexts r) (POK r) (.even 0) (tab0 r) := comes_table (uni_nexts K) (show POK r (.even 0) from K.w.g0) (Nat.le_refl _)
end GG
namespace GB
open PD PySem GM GG
section
variable {α : Type} [DecidableEq α]
/-- places with the first run to each -/
abbrev RL (α : Type) := List (α × List Int)
def keysR (L : RL α) : List α := L.map (·.1)
variable {nx : α → List α} {P : α → Prop} {U B : Nat}
/-- L holds no place twice, each of them is a place; F is its end -/
structure Holds (P : α → Prop) (U : Nat) (L0 : RL α) (st : RL α × RL α) : Prop where
  nd : (keysR st.1).Nodup
  all : ∀ p ∈ st.1, P p.1
  eq : st.1 = L0 ++ st.2
theorem keysR_app (L M : RL α) : keysR (L ++ M) = keysR L ++ keysR M := List.map_append
theorem Holds.len (h : Uni nx P U B) {L0 : RL α} {st : RL α × RL α} (H : Holds P U L0 st) : st.1.length ≤ U := by
  have := h.bnd (keysR st.1) H.nd fun x hx => by
    obtain ⟨p, hp, rfl⟩ := List.mem_map.mp hx
    exact H.all p hp
  unfold keysR at this
  rwa [List.length_map] at this
theorem Holds.put {L0 : RL α} {st : RL α × RL α} (H : Holds P U L0 st) {y : α} (hy : P y) (hn : y ∉ keysR st.1) (r : List Int) : Holds P U L0 (st.1 ++ [(y, r)], st.2 ++ [(y, r)]) := by
  refine ⟨?_, fun p hp => ?_, ?_⟩
  · show (keysR (st.1 ++ [(y, r)])).Nodup
    rw [keysR_app]
    exact List.nodup_append.mpr ⟨H.nd, by simp [keysR], fun a ha b hb e => hn (by
      rw [show keysR [(y, r)] = [y] from rfl, List.mem_singleton] at hb
      rw [← hb, ← e]
      exact ha)⟩
  · rcases List.mem_append.mp hp with z | z
    · exact H.all p z
    · rw [List.mem_singleton.mp z]
      exact hy
  · show st.1 ++ _ = _
    rw [H.eq, List.append_assoc]
/-- a run leads from one place to another -/
def leads (nx : α → List α) : α → List Int → α → Prop
  | x, [], y => y = x
  | x, d :: r, y => 0 ≤ d ∧ ∃ z, (nx x)[d.toNat]? = some z ∧ leads nx z r y
/-- all that comes from x0, each place once -/
structure Runs (nx : α → List α) (P : α → Prop) (x0 : α) (R : RL α) : Prop where
  nd : (keysR R).Nodup
  all : ∀ p ∈ R, P p.1
  st : (x0, []) ∈ R
  clo : ∀ p ∈ R, ∀ y ∈ nx p.1, y ∈ keysR R
  lead : ∀ p ∈ R, leads nx x0 p.2 p.1
end
end GB
namespace PD
open PySem L2 PyProof.Rows PySem.Spec
open Evl (Ex)
end PD
namespace GB
open PySem L2 PyProof.Rows PySem.Spec PD GM GP GA GG
open Evl (Ex)
end GB
namespace GG
open PD PySem GM GP GA
abbrev LostL := List (Po × (Int × Int))
def fallsB (l : LostL) (row : Row) : Bool := row.all fun m => hasK l m.2
def firstFall (r : Ru) (l : LostL) (p : Po) : Option Int := (deedsL r.q).find? fun d => fallsB l (movesM r p d)
def foundM (r : Ru) (tab : List Po) (l : LostL) : List (Po × Int) := tab.filterMap fun p => if hasK l p = true then none else (firstFall r l p).map fun d => (p, d)
def addL (l : LostL) (f : List (Po × Int)) (k : Int) : LostL := l ++ f.map fun x => (x.1, (x.2, k))
def lostM (r : Ru) (tab : List Po) : Nat → LostL → Int → LostL
  | 0, l, _ => l
  | n + 1, l, k => if foundM r tab l = [] then l else lostM r tab n (addL l (foundM r tab l) k) (k + 1)
structure LInv (r : Ru) (tab : List Po) (l : LostL) (k : Int) : Prop where
  nd : (l.map (·.1)).Nodup
  sub : ∀ e ∈ l, e.1 ∈ tab
  ok : ∀ e ∈ l, Dd r.q e.2.1 ∧ 0 ≤ e.2.2 ∧ e.2.2 < k ∧ ∀ m ∈ movesM r e.1 e.2.1, ∃ e' ∈ l, e'.1 = m.2 ∧ e'.2.2 < e.2.2
  k0 : 0 ≤ k
structure LDone (r : Ru) (tab : List Po) (l : LostL) : Prop where
  nd : (l.map (·.1)).Nodup
  sub : ∀ e ∈ l, e.1 ∈ tab
  ok : ∀ e ∈ l, Dd r.q e.2.1 ∧ 0 ≤ e.2.2 ∧ ∀ m ∈ movesM r e.1 e.2.1, ∃ e' ∈ l, e'.1 = m.2 ∧ e'.2.2 < e.2.2
  full : ∀ p ∈ tab, p ∉ l.map (·.1) → ∀ d, Dd r.q d → ∃ m ∈ movesM r p d, m.2 ∉ l.map (·.1)
section
variable {r : Ru} {tab : List Po} {l : LostL} {k : Int}
theorem mem_found {p : Po} {d : Int} (h : (p, d) ∈ foundM r tab l) : p ∈ tab ∧ p ∉ l.map (·.1) ∧ Dd r.q d ∧ ∀ m ∈ movesM r p d, m.2 ∈ l.map (·.1) := by
  obtain ⟨q, hq, e⟩ := List.mem_filterMap.mp h
  split at e
  · cases e
  · rename_i hh
    cases hf : firstFall r l q with
    | none => rw [hf] at e; cases e
    | some d' =>
      rw [hf] at e
      cases e
      have h1 := List.find?_some hf
      have h2 := List.mem_of_find?_eq_some hf
      refine ⟨hq, fun z => hh (hasK_iff.mpr z), mem_deedsL.mp h2, fun m hm => hasK_iff.mp (List.all_eq_true.mp h1 m hm)⟩
theorem found_keys : (foundM r tab l).map (·.1) = tab.filter fun p => !hasK l p && (firstFall r l p).isSome := by
  unfold foundM
  induction tab with
  | nil => rfl
  | cons p tab ih =>
    rw [List.filterMap_cons, List.filter_cons]
    cases h1 : hasK l p with
    | true => simpa [h1] using ih
    | false =>
      cases h2 : firstFall r l p with
      | none => simpa [h1, h2] using ih
      | some d => simp [h1, h2] at ih ⊢; exact ih
theorem LInv.add (h : LInv r tab l k) (hn : tab.Nodup) : LInv r tab (addL l (foundM r tab l) k) (k + 1) := by
  have em : (addL l (foundM r tab l) k).map (·.1) = l.map (·.1) ++ (foundM r tab l).map (·.1) := by
    unfold addL
    rw [List.map_append, List.map_map]
    rfl
  have k0 := h.k0
  refine ⟨?_, fun e he => ?_, fun e he => ?_, by omega⟩
  · rw [em]
    refine List.nodup_append.mpr ⟨h.nd, ?_, fun a ha b hb e => ?_⟩
    · rw [found_keys]
      exact hn.filter _
    · subst e
      obtain ⟨⟨p, d⟩, hx, rfl⟩ := List.mem_map.mp hb
      exact (mem_found hx).2.1 ha
  · rcases List.mem_append.mp he with z | z
    · exact h.sub e z
    · obtain ⟨⟨p, d⟩, hx, rfl⟩ := List.mem_map.mp z
      exact (mem_found hx).1
  · rcases List.mem_append.mp he with z | z
    · obtain ⟨a, b, c, d⟩ := h.ok e z
      refine ⟨a, b, by omega, fun m hm => ?_⟩
      obtain ⟨e', h1, h2⟩ := d m hm
      exact ⟨e', List.mem_append_left _ h1, h2⟩
    · obtain ⟨⟨p, d⟩, hx, rfl⟩ := List.mem_map.mp z
      obtain ⟨_, _, hd, hm⟩ := mem_found hx
      refine ⟨hd, h.k0, by show k < k + 1; omega, fun m hm' => ?_⟩
      obtain ⟨e', h1, h2⟩ := List.mem_map.mp (hm m hm')
      exact ⟨e', List.mem_append_left _ h1, h2, (h.ok e' h1).2.2.1⟩
theorem LInv.len (h : LInv r tab l k) : l.length ≤ tab.length := by
  have := len_sub h.nd (m := tab) fun x hx => by
    obtain ⟨e, he, rfl⟩ := List.mem_map.mp hx
    exact h.sub e he
  rwa [List.length_map] at this
theorem LInv.done (h : LInv r tab l k) (hf : foundM r tab l = []) : LDone r tab l := by
  refine ⟨h.nd, h.sub, fun e he => ⟨(h.ok e he).1, (h.ok e he).2.1, (h.ok e he).2.2.2⟩, fun p hp hn d hd => ?_⟩
  have h1 := congrArg (List.map (·.1)) hf
  rw [found_keys] at h1
  have h2 := List.filter_eq_nil_iff.mp h1 p hp
  have h3 : hasK l p = false := hasK_no.mpr hn
  rw [h3] at h2
  have h4 : firstFall r l p = none := by
    cases q : firstFall r l p with
    | none => rfl
    | some d => rw [q] at h2; simp at h2
  have h5 := List.find?_eq_none.mp h4 d (mem_deedsL.mpr hd)
  unfold fallsB at h5
  rw [List.all_eq_true] at h5
  apply Classical.byContradiction
  intro hc
  apply h5
  intro m hm
  rw [hasK_iff]
  apply Classical.byContradiction
  intro hm2
  exact hc ⟨m, hm, hm2⟩
theorem lostM_done (hn : tab.Nodup) : ∀ (n : Nat) (l : LostL) (k : Int), LInv r tab l k → tab.length + 1 ≤ n + l.length → LDone r tab (lostM r tab n l k)
  | 0, l, k, h, hl => by have := h.len; omega
  | n + 1, l, k, h, hl => by
    unfold lostM
    by_cases hf : foundM r tab l = []
    · rw [if_pos hf]
      exact h.done hf
    · rw [if_neg hf]
      refine lostM_done hn n _ _ (h.add hn) ?_
      unfold addL
      rw [List.length_append, List.length_map]
      have := List.length_pos_iff.mpr hf
      omega
theorem inv_0 : LInv r tab [] 0 := ⟨List.nodup_nil, fun _ h => (List.not_mem_nil h).elim, fun _ h => (List.not_mem_nil h).elim, Int.le_refl _⟩
end
def lostR (r : Ru) : LostL := lostM r (tab0 r) 1601 [] 0
theorem tab0_len {r : Ru} (K : RuOK r) : (tab0 r).length ≤ 1600 := few_seats K (tab0_ok K).nd (tab0_ok K).all
theorem lostR_done {r : Ru} (K : RuOK r) : LDone r (tab0 r) (lostR r) := lostM_done (tab0_ok K).nd _ _ _ inv_0 (by have := tab0_len K; simp; omega)
def safe (l : LostL) (row : Row) : List Int × Po := (row.filter fun m => !hasK l m.2).headD ([], .even 0)
def SafeP (r : Ru) (p : Po) : Prop := p ∈ tab0 r ∧ p ∉ (lostR r).map (·.1)
theorem safe_mem {l : LostL} {row : Row} (h : ∃ m ∈ row, m.2 ∉ l.map (·.1)) : safe l row ∈ row ∧ (safe l row).2 ∉ l.map (·.1) := by
  unfold safe
  cases e : row.filter fun m => !hasK l m.2 with
  | nil =>
    obtain ⟨m, h1, h2⟩ := h
    have := List.filter_eq_nil_iff.mp e m h1
    rw [hasK_no.mpr h2] at this
    exact absurd rfl this
  | cons x xs =>
    have hx : x ∈ row.filter fun m => !hasK l m.2 := by rw [e]; exact List.mem_cons_self
    obtain ⟨h1, h2⟩ := List.mem_filter.mp hx
    exact ⟨h1, hasK_no.mp (by simpa using h2)⟩
theorem SafeP.row {r : Ru} (K : RuOK r) {p : Po} (h : SafeP r p) {row : Row} (hr : row ∈ rowsP r p) : safe (lostR r) row ∈ row ∧ SafeP r (safe (lostR r) row).2 := by
  obtain ⟨d, hd, rfl⟩ := List.mem_map.mp hr
  have hd := mem_deedsL.mp hd
  have h1 := safe_mem ((lostR_done K).full p h.1 h.2 d hd)
  exact ⟨h1.1, (tab0_ok K).clo p h.1 _ (mem_nexts.mpr ⟨d, hd, _, h1.1⟩), h1.2⟩
end GG
namespace GB
open PD PySem GM GP GA GG
theorem isort_perm (l : List Int) : (isort l).Perm l := List.mergeSort_perm _ _
end GB
namespace GB
open PySem L2 PyProof.Rows PySem.Spec PD GM GP GA GG
open Evl (Ex)
end GB
namespace GB
open PySem L2 PyProof.Rows PySem.Spec PD GM GP GA GG
open Evl (Ex)
structure LOK (q : Int) (lo : List Int) : Prop where
  s : lo.Pairwise (· < ·)
  r : ∀ x ∈ lo, Dd q x
theorem LOK.len {q : Int} {lo : List Int} (h : LOK q lo) (hq : q ≤ 4) : lo.length ≤ 4 := by
  have := asc_len h.s h.r
  omega
end GB
namespace GB
open PD PySem GM GP GA GG
section
variable {α : Type} [DecidableEq α] {nx : α → List α} {P : α → Prop} {x0 : α} {R : RL α}
/-- what holds at the start and goes on holds everywhere -/
theorem leads_inv {A : α → Prop} (h : ∀ x, A x → ∀ y ∈ nx x, A y) : ∀ {r : List Int} {x y : α}, A x → leads nx x r y → A y
  | [], x, y, hx, e => by
    have e : y = x := e
    rw [e]
    exact hx
  | d :: r, x, y, hx, ⟨_, z, h1, h2⟩ => leads_inv h (h x hx z (List.mem_of_getElem? h1)) h2
theorem Runs.inv (h : Runs nx P x0 R) {A : α → Prop} (h0 : A x0) (hs : ∀ x, A x → ∀ y ∈ nx x, A y) : ∀ p ∈ R, A p.1 := fun p hp => leads_inv hs h0 (h.lead p hp)
end
section
variable {q : Int} {T : List (List Int)} {G lo S L : List Int}
/-- the state that stands at a place of the part -/
abbrev atM (L : List Int) (i : Int) : Int := L.getD i.toNat 0
end
end GB
namespace GB
open PySem L2 PyProof.Rows PySem.Spec PD GM GP GA GG
open Evl (Ex)
/-- a loop's turn, whatever it goes on with -/
theorem forD_step {g : FG} {fb : FS} {x : D} {xs : List D} {ρ : Rho} {P : Post} (h : ∀ N : Rho → Prop, (∀ ρ', forD g fb xs ρ' P → N ρ') → g x ρ fun ρ1 => fb ρ1 { nx := N, ct := N, bk := P.nx, rt := P.rt }) : forD g fb (x :: xs) ρ P := h _ fun _ z => z
end GB
namespace GB
open PD PySem GM GP GA GG
end GB
namespace GB
open PD PySem GM GP GA GG
end GB
namespace GB
open PD PySem GM GP GA GG
end GB
namespace GG
open PySem L2 PyProof.Rows PySem.Spec PD GM GP GA
open Evl (Ex)
end GG
namespace GN
open PySem L2 PyProof.Rows PySem.Spec PD GM GP GA GG GB
open Evl (Ex)
end GN
namespace GK
open PySem L2 PyProof.Rows PySem.Spec PD GM GP GA GG GB
open Evl (Ex)
def okN : Nat → D → Prop
  | 0, d => noInst d = true
  | n + 1, .tuple xs => xs.length ≤ 100000 ∧ ∀ x ∈ xs, okN n x
  | _ + 1, d => noInst d = true
end GK
namespace GK
open PD PySem GM GP GA GG GB
end GK
namespace GN
open PySem L2 PyProof.Rows PySem.Spec PD GM GP GA GG GB GK
open Evl (Ex)
def runB (q : Int) (d : D) : Bool := numsB d q && decide ((intsOfD d).length ≤ 400)
end GN
namespace GW
open PySem L2 PyProof.Rows PySem.Spec PD GM GP GA GG GB GK GN
open Evl (Ex)
def lenD : D → Nat
  | .tuple xs => xs.length
  | _ => 0
def elsD : D → List D
  | .tuple xs => xs
  | _ => []
def memB (q : Int) : D → Bool
  | .tuple xs => decide ((xs.length : Int) = q)
  | _ => false
def memsB (d : D) (q : Int) : Bool := match d with
  | .tuple ms => decide (1 ≤ ms.length ∧ ms.length ≤ 8) && ms.all (memB q)
  | _ => false
def prB (n : Int) : D → Bool
  | .tuple [x, _] => intB x 0 (n - 1)
  | _ => false
def shB (q : Int) (s : D) : Bool := numsB s q && decide ((lenD s : Int) ≤ 6)
def sndD : D → D
  | .tuple [_, s] => s
  | _ => .none
def pairsD (d : D) : List D := (elsD d).flatMap elsD
def gErr (q : Int) (d : D) : Option Str :=
  if memsB d q = true then (if (pairsD d).all (prB (lenD d)) = true then (if (pairsD d).all (fun p => shB q (sndD p)) = true then none else some "shown") else some "next") else some "form"
/-- a thing that is drawn -/
def Fair (d : D) : Prop := Fr 1000 50 50000 d
theorem Fair.no {d : D} (h : Fair d) : noInst d = true := Fr.no h
theorem Fair.len {ds : List D} (h : Fair (.tuple ds)) : ds.length ≤ 50000 := (Fr.elsT (a := 49) h).len
def bg (C : Addr) (p : Str) (k : XC) (ρ : Rho) : Prop := k (.ref C) [(.str "part", .str p)] ρ
/-- what a call on a guard refuses -/
def BadG (C_BadGuard C_OutOfPlace : Addr) (c d : D) (k : XC) (ρ : Rho) : Prop := (noInst c = true ∧ intB c 1 4 = false ∧ k (.ref C_OutOfPlace) [] ρ) ∨ ∃ q p, c = .int q ∧ (1 ≤ q ∧ q ≤ 4) ∧ Fair d ∧ gErr q d = some p ∧ bg C_BadGuard p k ρ
theorem BadG.mono {C C' : Addr} {c d : D} {k k' : XC} {ρ : Rho} (hM : ∀ c fl ρ', k c fl ρ' → k' c fl ρ') (h : BadG C C' c d k ρ) : BadG C C' c d k' ρ := by
  rcases h with ⟨h1, h2, h3⟩ | ⟨q, p, h1, h2, h3, h4, h5⟩
  · exact .inl ⟨h1, h2, hM _ _ _ h3⟩
  · exact .inr ⟨q, p, h1, h2, h3, h4, hM _ _ _ h5⟩
def stepG (g : List (List (Int × List Int))) (m a : Int) : Int × List Int := (g.getD m.toNat []).getD a.toNat (0, [])
def walkG (g : List (List (Int × List Int))) : Int → List Int → List Int → Int × List Int
  | m, s, [] => (m, s)
  | m, s, a :: r => walkG g (stepG g m a).1 (s ++ (stepG g m a).2) r
def BadO (C C' : Addr) (c d r : D) (k : XC) (ρ : Rho) : Prop := BadG C C' c d k ρ ∨ ∃ q, c = .int q ∧ (1 ≤ q ∧ q ≤ 4) ∧ Fair d ∧ gErr q d = none ∧ okN 1 r ∧ runB q r = false ∧ k (.ref C') [] ρ
theorem BadO.mono {C C' : Addr} {c d r : D} {k k' : XC} {ρ : Rho} (hM : ∀ c fl ρ', k c fl ρ' → k' c fl ρ') (h : BadO C C' c d r k ρ) : BadO C C' c d r k' ρ := by
  rcases h with h | ⟨q, h1, h2, h3, h4, h5, h6, h7⟩
  · exact .inl (h.mono hM)
  · exact .inr ⟨q, h1, h2, h3, h4, h5, h6, hM _ _ _ h7⟩
end GW
namespace GW
open PySem L2 PyProof.Rows PySem.Spec PD GM GP GA GG GB GK GN
open Evl (Ex)
end GW
namespace GA
open PySem L2 PyProof.Rows PySem.Spec PD GM GP
open Evl (Ex)
def W_law_spots : FE := fun ρ k => ∃ r : Ru, ρ.sl = [.d (wishD r.q r.T r.G), .d (kindD r.h r.a r.lo), .d (intsL r.L)] ∧ RuOK r ∧ ∀ ps : List Po, ps ≠ [] → ps.length ≤ 100000 → (∀ p ∈ ps, POK r p) → k (.list (ps.map Po.d)) ρ
end GA
namespace GA
open PySem L2 PyProof.Rows PySem.Spec PD GM GP
open Evl (Ex)
/-- all rows that can be shown -/
structure AllRows (r : Ru) (R : List (List Int)) : Prop where
  nd : R.Nodup
  len : R.length ≤ 2000
  ne : R ≠ []
  ok : ∀ x ∈ R, x.length ≤ 10 ∧ ∀ y ∈ x, Dd r.q y
  all : ∀ x, RowOK r x → x ∈ R
def W_law_spot_right : FE := fun ρ k => ∃ (r : Ru) (p : Po) (R : List (List Int)), ρ.sl = [.st, .d (wishD r.q r.T r.G), .d (kindD r.h r.a r.lo), .d (intsL r.L), .d p.d, .d (.list (R.map tupI))] ∧ (RuOK r ∧ POK r p ∧ AllRows r R) ∧ ρ.n + 20 ≤ 1000000000000 ∧ ∀  (nn : Nat), (True) → nn ≤ ρ.n + 20 → k (.bool true) ⟨ρ.sl, nn⟩
def W_law_forms_right : FE := fun ρ k => ∃ (r : Ru), ρ.sl = [.st, .d (wishD r.q r.T r.G), .d (kindD r.h r.a r.lo), .d (intsL r.L)] ∧ (RuOK r) ∧ ρ.n + 20 ≤ 1000000000000 ∧ ∀  (nn : Nat), (True) → nn ≤ ρ.n + 20 → k (.bool true) ⟨ρ.sl, nn⟩
def b_law_1 : FS := fsIf (ftNot (ftT (fCall 6 W_law_spot_right (faSt 1 (flCons (fVar 3) (flCons (fVar 4) (flCons (fVar 5) (flCons (fOp gIx (fVar 7) (fCall 2 W_law_next (faSt 1 (flCons (fUn gLen (fVar 7)) (flNil))))) (flCons (fVar 6) (flNil)))))))))) (fsRet (fC (.bool false))) (fsNext)
def b_law_2 : FS := fsSeq (fsAsg (fCall 3 W_law_want (faSt 1 (flCons (fC (.int 3)) (flCons (fC (.int 4)) (flNil))))) (fgN 3))
  (fsSeq (fsPar2 4 5 (flCons (fCall 4 W_law_sort (faSt 1 (flCons (fOp gIx (fVar 3) (fC (.int 0))) (flCons (fC (.int 2)) (flCons (fC (.int 1)) (flNil)))))) (flCons (fCall 1 W_law_live (faD (flCons (fVar 3) (flNil)))) (flNil))))
  (fsSeq (fsPar2 6 7 (flCons (fCall 2 W_law_rows (faD (flCons (fOp gIx (fVar 3) (fC (.int 0))) (flCons (fOp gAdd (fOp gAdd (fOp gIx (fVar 4) (fC (.int 0))) (fOp gIx (fVar 4) (fC (.int 1)))) (fC (.int 1))) (flNil))))) (flCons (fCall 3 W_law_spots (faD (flCons (fVar 3) (flCons (fVar 4) (flCons (fVar 5) (flNil)))))) (flNil))))
  (fsSeq (fsIf (ftNot (ftT (fCall 4 W_law_forms_right (faSt 1 (flCons (fVar 3) (flCons (fVar 4) (flCons (fVar 5) (flNil)))))))) (fsRet (fC (.bool false))) (fsNext))
  (fsFor (fiRange1 (flCons (fC (.int 8)) (flNil))) (fgN 8) (b_law_1)))))
def w_law : FS := fsBegin 1 1 B_law (flCons (fVar 0) (flNil))
  (fsSeq (fsFor (fiRange1 (flCons (fOp gAdd (fC (.int 1)) (fOp gMin2 (fUn gLen (fVar 0)) (fC (.int 4)))) (flNil))) (fgN 2) (b_law_2))
  (fsSeq (fsAsg (fTup (flCons (fC (.int 2)) (flCons (fTup (flCons (fTup (flCons (fC (.int 1)) (flCons (fC (.int 0)) (flNil)))) (flCons (fTup (flCons (fC (.int 1)) (flCons (fC (.int 2)) (flNil)))) (flCons (fTup (flCons (fC (.int 2)) (flCons (fC (.int 2)) (flNil)))) (flNil))))) (flCons (fTup (flCons (fC (.int 0)) (flCons (fC (.int 2)) (flNil)))) (flNil))))) (fgN 9))
  (fsRet (fAnd (fOp gEqA (fCall 4 W_answers (faD (flCons (fVar 9) (flCons (fTup (flCons (fC (.int 1)) (flCons (fC (.int 1)) (flCons (fTup (flNil)) (flNil))))) (flCons (fTup (flCons (fC (.str "even")) (flCons (fC (.int 0)) (flNil)))) (flCons (fC (.int 0)) (flNil))))))) (fTup (flCons (fTup (flNil)) (flCons (fTup (flCons (fC (.int 0)) (flCons (fC (.int 1)) (flNil)))) (flNil))))) (fOp gEqA (fCall 4 W_answers (faD (flCons (fVar 9) (flCons (fTup (flCons (fC (.int 0)) (flCons (fC (.int 0)) (flCons (fTup (flNil)) (flNil))))) (flCons (fTup (flCons (fC (.str "even")) (flCons (fC (.int 0)) (flNil)))) (flCons (fC (.int 0)) (flNil))))))) (fTup (flNil)))))))
theorem allRows {r : Ru} (K : RuOK r) (q3 : r.q ≤ 3) (h2 : r.h ≤ 2) (a1 : r.a ≤ 1) : AllRows r (rowsM r.q.toNat (r.h + r.a + 1).toNat) := by
  have q1 := K.w.q1
  have h0 := K.k.h0
  have a0 := K.k.a0
  have e : ((r.q.toNat : Nat) : Int) = r.q := Int.toNat_of_nonneg (by omega)
  refine ⟨nodup_rowsM _ _, ?_, fun z => ?_, fun x hx => ?_, fun x hx => mem_rowsM.mpr ⟨?_, ?_⟩⟩
  · have l1 := len_rowsM (m := r.q.toNat) (by omega) (r.h + r.a + 1).toNat
    have p1 : 4 ^ (r.h + r.a + 1).toNat ≤ 4 ^ 4 := Nat.pow_le_pow_right (by omega) (by omega)
    have p2 : (4 : Nat) ^ 4 = 256 := by decide
    omega
  · have : [] ∈ rowsM r.q.toNat (r.h + r.a + 1).toNat := mem_rowsM.mpr ⟨Nat.zero_le _, fun _ h => (List.not_mem_nil h).elim⟩
    rw [z] at this
    cases this
  · obtain ⟨g1, g2⟩ := mem_rowsM.mp hx
    rw [e] at g2
    exact ⟨by omega, g2⟩
  · have := hx.2
    omega
  · rw [e]
    exact hx.1
theorem law_spots {r : Ru} (K : RuOK r) {ps : List Po} (hps : ∀ p ∈ ps, POK r p) (hne : ps ≠ []) (hpl : ps.length ≤ 100000) {R : List (List Int)} (hR : AllRows r R) (s0 s2 s9 : Sl) : ∀ (js : List Nat) (n : Nat) (x8 : Sl) (P : Post), n + js.length * 30 ≤ 900000000000 →
    (∀ (n' : Nat) (x8 : Sl), n' ≤ n + js.length * 30 → P.nx ⟨[s0, .st, s2, .d (wishD r.q r.T r.G), .d (kindD r.h r.a r.lo), .d (intsL r.L), .d (.list (R.map tupI)), .d (.list (ps.map Po.d)), x8, s9], n'⟩) →
    forD (fgN 8) b_law_1 (js.map fun i : Nat => PyData.int (i : Int)) ⟨[s0, .st, s2, .d (wishD r.q r.T r.G), .d (kindD r.h r.a r.lo), .d (intsL r.L), .d (.list (R.map tupI)), .d (.list (ps.map Po.d)), x8, s9], n⟩ P := by
  have h0 := List.length_pos_iff.mpr hne
  intro js
  induction js with
  | nil => intro n x8 P _ h; exact h n x8 (by simp)
  | cons j js ih =>
    intro n x8 P hn h
    rw [List.length_cons, Nat.succ_mul] at hn
    rw [List.map_cons]
    unfold forD
    simp [and_assoc, Rho.set, dropOwn, ftLend, fLend, lendR, frz, ow, nList, -forall_exists_index, fBody, fsSeq, fsIf, fsRet, fsNext, fsDrop, fsAsg, fsNever, fsFor, fsOwn, fsPar2, fsPar3, fsPar_od, fsPar_do, fsPar_oo, fVar, fC, fUn, fOp, fChain, fTup, fLst, fCall, faD, faSt, flCons, flNil, fSl, foSome, foNone, fAnd, fOr, fNot, fIf, fOfN, fn1, fnLst, fnCat, fgN, fgTup, fgCons, fgNil, fiSeq, fiRange1, fiRange2, fiEnumA, fiZip, ftOr, ftAnd, ftNot, ftB, ftT, ftYes, truD_b, truD_i, truD_l, truD_t, truD_n, gIx_t0, gIx_t1, gIx_t2, gSl_t, gSl_l, gIsT, notDict, isT, isN, tyName, gLen_t, gLen_l, gTuple_l, gCmp, gAdd_ii, gAdd_ll, PD.gSub, gNeg, gMod, seqD, forD, wipeR, gEqA, gNeA, gEq_ii, gNe_ii, gEq_tt, gIn_ints, gIn_intsL, gNotIn_ints, gNotIn_intsL, fM0, fM1, fJoined, fJ, flStar, starD, fCall0, gIsTX, noInst_n, noInst_b, noInst_i, noInst_s, noInst_l, noInst_t, fFld, fMeth, fMake, faNil, fsFld, fLendO, fDisp, fpCons, fpNil, fDict0, fiAny, walkD, fiOver, dKeys, dVals, dPairs, fsOwnD, fsPut, fOwnIx, fPop, fsExt, fDc, compK, gInX, gNotInX, gIxX, fGet, lk_deeds, lk_steps, lk_good, lk_live, lk_hold, lk_ahead, lk_loose, lk_tails, lm_good_tails, lm_has_form, lm_can_be_held, lm_moves, lm_moves_if_doomed, lm_moves_if_ahead, lm_moves_if_not_ahead]
    show b_law_1 _ _
    unfold b_law_1
    simp [and_assoc, Rho.set, dropOwn, ftLend, fLend, lendR, frz, ow, nList, -forall_exists_index, fBody, fsSeq, fsIf, fsRet, fsNext, fsDrop, fsAsg, fsNever, fsFor, fsOwn, fsPar2, fsPar3, fsPar_od, fsPar_do, fsPar_oo, fVar, fC, fUn, fOp, fChain, fTup, fLst, fCall, faD, faSt, flCons, flNil, fSl, foSome, foNone, fAnd, fOr, fNot, fIf, fOfN, fn1, fnLst, fnCat, fgN, fgTup, fgCons, fgNil, fiSeq, fiRange1, fiRange2, fiEnumA, fiZip, ftOr, ftAnd, ftNot, ftB, ftT, ftYes, truD_b, truD_i, truD_l, truD_t, truD_n, gIx_t0, gIx_t1, gIx_t2, gSl_t, gSl_l, gIsT, notDict, isT, isN, tyName, gLen_t, gLen_l, gTuple_l, gCmp, gAdd_ii, gAdd_ll, PD.gSub, gNeg, gMod, seqD, forD, wipeR, gEqA, gNeA, gEq_ii, gNe_ii, gEq_tt, gIn_ints, gIn_intsL, gNotIn_ints, gNotIn_intsL, fM0, fM1, fJoined, fJ, flStar, starD, fCall0, gIsTX, noInst_n, noInst_b, noInst_i, noInst_s, noInst_l, noInst_t, fFld, fMeth, fMake, faNil, fsFld, fLendO, fDisp, fpCons, fpNil, fDict0, fiAny, walkD, fiOver, dKeys, dVals, dPairs, fsOwnD, fsPut, fOwnIx, fPop, fsExt, fDc, compK, gInX, gNotInX, gIxX, fGet, lk_deeds, lk_steps, lk_good, lk_live, lk_hold, lk_ahead, lk_loose, lk_tails, lm_good_tails, lm_has_form, lm_can_be_held, lm_moves, lm_moves_if_doomed, lm_moves_if_ahead, lm_moves_if_not_ahead]
    refine ⟨ps.length, rfl, by omega, by omega, by simp; omega, fun i i0 i1 => ?_⟩
    obtain ⟨i, rfl⟩ := Int.eq_ofNat_of_zero_le i0
    have hi : i < ps.length := by omega
    refine ⟨_, gIx_lst (by rw [List.getElem?_map, List.getElem?_eq_getElem hi]; rfl), ?_⟩
    refine ⟨r, ps[i], R, rfl, ⟨K, hps _ (List.getElem_mem hi), hR⟩, by simp; omega, fun n' _ hn' => ?_⟩
    simp [and_assoc, Rho.set, dropOwn, ftLend, fLend, lendR, frz, ow, nList, -forall_exists_index, fBody, fsSeq, fsIf, fsRet, fsNext, fsDrop, fsAsg, fsNever, fsFor, fsOwn, fsPar2, fsPar3, fsPar_od, fsPar_do, fsPar_oo, fVar, fC, fUn, fOp, fChain, fTup, fLst, fCall, faD, faSt, flCons, flNil, fSl, foSome, foNone, fAnd, fOr, fNot, fIf, fOfN, fn1, fnLst, fnCat, fgN, fgTup, fgCons, fgNil, fiSeq, fiRange1, fiRange2, fiEnumA, fiZip, ftOr, ftAnd, ftNot, ftB, ftT, ftYes, truD_b, truD_i, truD_l, truD_t, truD_n, gIx_t0, gIx_t1, gIx_t2, gSl_t, gSl_l, gIsT, notDict, isT, isN, tyName, gLen_t, gLen_l, gTuple_l, gCmp, gAdd_ii, gAdd_ll, PD.gSub, gNeg, gMod, seqD, forD, wipeR, gEqA, gNeA, gEq_ii, gNe_ii, gEq_tt, gIn_ints, gIn_intsL, gNotIn_ints, gNotIn_intsL, fM0, fM1, fJoined, fJ, flStar, starD, fCall0, gIsTX, noInst_n, noInst_b, noInst_i, noInst_s, noInst_l, noInst_t, fFld, fMeth, fMake, faNil, fsFld, fLendO, fDisp, fpCons, fpNil, fDict0, fiAny, walkD, fiOver, dKeys, dVals, dPairs, fsOwnD, fsPut, fOwnIx, fPop, fsExt, fDc, compK, gInX, gNotInX, gIxX, fGet, lk_deeds, lk_steps, lk_good, lk_live, lk_hold, lk_ahead, lk_loose, lk_tails, lm_good_tails, lm_has_form, lm_can_be_held, lm_moves, lm_moves_if_doomed, lm_moves_if_ahead, lm_moves_if_not_ahead]
    have hn' : n' ≤ n + 1 + 20 := hn'
    exact ih n' _ P (by omega) fun n'' x8 h1 => h n'' x8 (by rw [List.length_cons, Nat.succ_mul]; omega)
theorem law_turns (s0 s9 : Sl) : ∀ (js : List Nat) (n : Nat) (x2 x3 x4 x5 x6 x7 x8 : Sl) (P : Post), n + js.length * 1000 ≤ 800000000000 →
    (∀ (n' : Nat) (x2 x3 x4 x5 x6 x7 x8 : Sl), P.nx ⟨[s0, .st, x2, x3, x4, x5, x6, x7, x8, s9], n'⟩) →
    forD (fgN 2) b_law_2 (js.map fun i : Nat => PyData.int (i : Int)) ⟨[s0, .st, x2, x3, x4, x5, x6, x7, x8, s9], n⟩ P := by
  intro js
  induction js with
  | nil => intro n x2 x3 x4 x5 x6 x7 x8 P _ h; exact h n x2 x3 x4 x5 x6 x7 x8
  | cons j js ih =>
    intro n x2 x3 x4 x5 x6 x7 x8 P hn h
    rw [List.length_cons, Nat.succ_mul] at hn
    rw [List.map_cons]
    unfold forD
    simp [and_assoc, Rho.set, dropOwn, ftLend, fLend, lendR, frz, ow, nList, -forall_exists_index, fBody, fsSeq, fsIf, fsRet, fsNext, fsDrop, fsAsg, fsNever, fsFor, fsOwn, fsPar2, fsPar3, fsPar_od, fsPar_do, fsPar_oo, fVar, fC, fUn, fOp, fChain, fTup, fLst, fCall, faD, faSt, flCons, flNil, fSl, foSome, foNone, fAnd, fOr, fNot, fIf, fOfN, fn1, fnLst, fnCat, fgN, fgTup, fgCons, fgNil, fiSeq, fiRange1, fiRange2, fiEnumA, fiZip, ftOr, ftAnd, ftNot, ftB, ftT, ftYes, truD_b, truD_i, truD_l, truD_t, truD_n, gIx_t0, gIx_t1, gIx_t2, gSl_t, gSl_l, gIsT, notDict, isT, isN, tyName, gLen_t, gLen_l, gTuple_l, gCmp, gAdd_ii, gAdd_ll, PD.gSub, gNeg, gMod, seqD, forD, wipeR, gEqA, gNeA, gEq_ii, gNe_ii, gEq_tt, gIn_ints, gIn_intsL, gNotIn_ints, gNotIn_intsL, fM0, fM1, fJoined, fJ, flStar, starD, fCall0, gIsTX, noInst_n, noInst_b, noInst_i, noInst_s, noInst_l, noInst_t, fFld, fMeth, fMake, faNil, fsFld, fLendO, fDisp, fpCons, fpNil, fDict0, fiAny, walkD, fiOver, dKeys, dVals, dPairs, fsOwnD, fsPut, fOwnIx, fPop, fsExt, fDc, compK, gInX, gNotInX, gIxX, fGet, lk_deeds, lk_steps, lk_good, lk_live, lk_hold, lk_ahead, lk_loose, lk_tails, lm_good_tails, lm_has_form, lm_can_be_held, lm_moves, lm_moves_if_doomed, lm_moves_if_ahead, lm_moves_if_not_ahead]
    show b_law_2 _ _
    unfold b_law_2
    simp [and_assoc, Rho.set, dropOwn, ftLend, fLend, lendR, frz, ow, nList, -forall_exists_index, fBody, fsSeq, fsIf, fsRet, fsNext, fsDrop, fsAsg, fsNever, fsFor, fsOwn, fsPar2, fsPar3, fsPar_od, fsPar_do, fsPar_oo, fVar, fC, fUn, fOp, fChain, fTup, fLst, fCall, faD, faSt, flCons, flNil, fSl, foSome, foNone, fAnd, fOr, fNot, fIf, fOfN, fn1, fnLst, fnCat, fgN, fgTup, fgCons, fgNil, fiSeq, fiRange1, fiRange2, fiEnumA, fiZip, ftOr, ftAnd, ftNot, ftB, ftT, ftYes, truD_b, truD_i, truD_l, truD_t, truD_n, gIx_t0, gIx_t1, gIx_t2, gSl_t, gSl_l, gIsT, notDict, isT, isN, tyName, gLen_t, gLen_l, gTuple_l, gCmp, gAdd_ii, gAdd_ll, PD.gSub, gNeg, gMod, seqD, forD, wipeR, gEqA, gNeA, gEq_ii, gNe_ii, gEq_tt, gIn_ints, gIn_intsL, gNotIn_ints, gNotIn_intsL, fM0, fM1, fJoined, fJ, flStar, starD, fCall0, gIsTX, noInst_n, noInst_b, noInst_i, noInst_s, noInst_l, noInst_t, fFld, fMeth, fMake, faNil, fsFld, fLendO, fDisp, fpCons, fpNil, fDict0, fiAny, walkD, fiOver, dKeys, dVals, dPairs, fsOwnD, fsPut, fOwnIx, fPop, fsExt, fDc, compK, gInX, gNotInX, gIxX, fGet, lk_deeds, lk_steps, lk_good, lk_live, lk_hold, lk_ahead, lk_loose, lk_tails, lm_good_tails, lm_has_form, lm_can_be_held, lm_moves, lm_moves_if_doomed, lm_moves_if_ahead, lm_moves_if_not_ahead]
    refine ⟨3, 4, rfl, ⟨by decide, by decide, by decide, by decide⟩, by simp; omega, fun q T G n1 ⟨w, q3, t4⟩ hn1 => ?_⟩
    have hn1 : n1 ≤ n + 100 := hn1
    simp [and_assoc, Rho.set, dropOwn, ftLend, fLend, lendR, frz, ow, nList, -forall_exists_index, fBody, fsSeq, fsIf, fsRet, fsNext, fsDrop, fsAsg, fsNever, fsFor, fsOwn, fsPar2, fsPar3, fsPar_od, fsPar_do, fsPar_oo, fVar, fC, fUn, fOp, fChain, fTup, fLst, fCall, faD, faSt, flCons, flNil, fSl, foSome, foNone, fAnd, fOr, fNot, fIf, fOfN, fn1, fnLst, fnCat, fgN, fgTup, fgCons, fgNil, fiSeq, fiRange1, fiRange2, fiEnumA, fiZip, ftOr, ftAnd, ftNot, ftB, ftT, ftYes, truD_b, truD_i, truD_l, truD_t, truD_n, gIx_t0, gIx_t1, gIx_t2, gSl_t, gSl_l, gIsT, notDict, isT, isN, tyName, gLen_t, gLen_l, gTuple_l, gCmp, gAdd_ii, gAdd_ll, PD.gSub, gNeg, gMod, seqD, forD, wipeR, gEqA, gNeA, gEq_ii, gNe_ii, gEq_tt, gIn_ints, gIn_intsL, gNotIn_ints, gNotIn_intsL, fM0, fM1, fJoined, fJ, flStar, starD, fCall0, gIsTX, noInst_n, noInst_b, noInst_i, noInst_s, noInst_l, noInst_t, fFld, fMeth, fMake, faNil, fsFld, fLendO, fDisp, fpCons, fpNil, fDict0, fiAny, walkD, fiOver, dKeys, dVals, dPairs, fsOwnD, fsPut, fOwnIx, fPop, fsExt, fDc, compK, gInX, gNotInX, gIxX, fGet, lk_deeds, lk_steps, lk_good, lk_live, lk_hold, lk_ahead, lk_loose, lk_tails, lm_good_tails, lm_has_form, lm_can_be_held, lm_moves, lm_moves_if_doomed, lm_moves_if_ahead, lm_moves_if_not_ahead]
    refine ⟨q, 2, 1, rfl, ⟨w.q1, w.q4, by decide, by decide, by decide, by decide⟩, by simp; omega, fun h' a' lo n2 ⟨kk, h2, a1⟩ hn2 => ?_⟩
    have hn2 : n2 ≤ n1 + 10 := hn2
    simp [and_assoc, Rho.set, dropOwn, ftLend, fLend, lendR, frz, ow, nList, -forall_exists_index, fBody, fsSeq, fsIf, fsRet, fsNext, fsDrop, fsAsg, fsNever, fsFor, fsOwn, fsPar2, fsPar3, fsPar_od, fsPar_do, fsPar_oo, fVar, fC, fUn, fOp, fChain, fTup, fLst, fCall, faD, faSt, flCons, flNil, fSl, foSome, foNone, fAnd, fOr, fNot, fIf, fOfN, fn1, fnLst, fnCat, fgN, fgTup, fgCons, fgNil, fiSeq, fiRange1, fiRange2, fiEnumA, fiZip, ftOr, ftAnd, ftNot, ftB, ftT, ftYes, truD_b, truD_i, truD_l, truD_t, truD_n, gIx_t0, gIx_t1, gIx_t2, gSl_t, gSl_l, gIsT, notDict, isT, isN, tyName, gLen_t, gLen_l, gTuple_l, gCmp, gAdd_ii, gAdd_ll, PD.gSub, gNeg, gMod, seqD, forD, wipeR, gEqA, gNeA, gEq_ii, gNe_ii, gEq_tt, gIn_ints, gIn_intsL, gNotIn_ints, gNotIn_intsL, fM0, fM1, fJoined, fJ, flStar, starD, fCall0, gIsTX, noInst_n, noInst_b, noInst_i, noInst_s, noInst_l, noInst_t, fFld, fMeth, fMake, faNil, fsFld, fLendO, fDisp, fpCons, fpNil, fDict0, fiAny, walkD, fiOver, dKeys, dVals, dPairs, fsOwnD, fsPut, fOwnIx, fPop, fsExt, fDc, compK, gInX, gNotInX, gIxX, fGet, lk_deeds, lk_steps, lk_good, lk_live, lk_hold, lk_ahead, lk_loose, lk_tails, lm_good_tails, lm_has_form, lm_can_be_held, lm_moves, lm_moves_if_doomed, lm_moves_if_ahead, lm_moves_if_not_ahead]
    refine ⟨q, T, G, rfl, w, fun L hL => ?_⟩
    have K : RuOK ⟨q, T, G, L, h', a', lo⟩ := ⟨w, hL, kk⟩
    simp [and_assoc, Rho.set, dropOwn, ftLend, fLend, lendR, frz, ow, nList, -forall_exists_index, fBody, fsSeq, fsIf, fsRet, fsNext, fsDrop, fsAsg, fsNever, fsFor, fsOwn, fsPar2, fsPar3, fsPar_od, fsPar_do, fsPar_oo, fVar, fC, fUn, fOp, fChain, fTup, fLst, fCall, faD, faSt, flCons, flNil, fSl, foSome, foNone, fAnd, fOr, fNot, fIf, fOfN, fn1, fnLst, fnCat, fgN, fgTup, fgCons, fgNil, fiSeq, fiRange1, fiRange2, fiEnumA, fiZip, ftOr, ftAnd, ftNot, ftB, ftT, ftYes, truD_b, truD_i, truD_l, truD_t, truD_n, gIx_t0, gIx_t1, gIx_t2, gSl_t, gSl_l, gIsT, notDict, isT, isN, tyName, gLen_t, gLen_l, gTuple_l, gCmp, gAdd_ii, gAdd_ll, PD.gSub, gNeg, gMod, seqD, forD, wipeR, gEqA, gNeA, gEq_ii, gNe_ii, gEq_tt, gIn_ints, gIn_intsL, gNotIn_ints, gNotIn_intsL, fM0, fM1, fJoined, fJ, flStar, starD, fCall0, gIsTX, noInst_n, noInst_b, noInst_i, noInst_s, noInst_l, noInst_t, fFld, fMeth, fMake, faNil, fsFld, fLendO, fDisp, fpCons, fpNil, fDict0, fiAny, walkD, fiOver, dKeys, dVals, dPairs, fsOwnD, fsPut, fOwnIx, fPop, fsExt, fDc, compK, gInX, gNotInX, gIxX, fGet, lk_deeds, lk_steps, lk_good, lk_live, lk_hold, lk_ahead, lk_loose, lk_tails, lm_good_tails, lm_has_form, lm_can_be_held, lm_moves, lm_moves_if_doomed, lm_moves_if_ahead, lm_moves_if_not_ahead]
    refine ⟨q, h' + a' + 1, rfl, ⟨w.q1, w.q4, by have := kk.h0; have := kk.a0; omega, by omega⟩, ?_⟩
    refine ⟨⟨q, T, G, L, h', a', lo⟩, rfl, K, fun ps p0 pl pok => ?_⟩
    refine ⟨⟨q, T, G, L, h', a', lo⟩, rfl, K, by simp; omega, fun n3 _ hn3 => .inr ⟨rfl, ?_⟩⟩
    have hn3 : n3 ≤ n2 + 20 := hn3
    rw [show rangeD 0 8 = (List.range 8).map fun i : Nat => PyData.int (i : Int) from rangeD_nat 8]
    refine law_spots K pok p0 pl (allRows K q3 h2 a1) s0 _ s9 (List.range 8) n3 x8 _ (by rw [List.length_range]; omega) fun n4 x8 hn4 => ?_
    rw [List.length_range] at hn4
    exact ih n4 _ _ _ _ _ _ _ P (by omega) h
abbrev pairT : List (List Int) := [[1, 0], [1, 2], [2, 2]]
theorem pair_ok : WOK 2 pairT [0, 2] := by
  refine ⟨by decide, by decide, by decide, by decide, ?_, by decide, ?_, by decide⟩
  · intro r hr
    simp at hr
    rcases hr with h | h | h <;> subst h <;> simp
  · intro x hx
    simp at hx
    rcases hx with h | h <;> subst h <;> simp
theorem pair_live : IsLive pairT [0, 2] [0, 1, 2] := by
  refine ⟨by decide, ?_, ?_, ?_, ?_⟩
  · intro x hx
    simp at hx
    rcases hx with h | h | h <;> subst h <;> simp
  · intro x hx
    simp at hx
    rcases hx with h | h <;> subst h <;> simp
  · intro i hi _
    have hi : i < 3 := hi
    match i, hi with
    | 0, _ => simp
    | 1, _ => simp
    | 2, _ => simp
  · intro A hA hc x hx
    have a0 : A 0 := hA 0 (by simp)
    have a2 : A 2 := hA 2 (by simp)
    have a1 : A 1 := hc 1 (by decide) ⟨2, by simp, a2⟩
    simp at hx
    rcases hx with h | h | h <;> subst h <;> assumption
abbrev pairR (h a : Int) : Ru := ⟨2, pairT, [0, 2], [0, 1, 2], h, a, []⟩
theorem pair_rok {h a : Int} (h0 : 0 ≤ h) (h3 : h ≤ 3) (a0 : 0 ≤ a) (a2 : a ≤ 2) : RuOK (pairR h a) := ⟨pair_ok, pair_live, ⟨h0, h3, a0, a2, List.Pairwise.nil, fun x h => (List.not_mem_nil h).elim⟩⟩
theorem pair_11 : (movesM (pairR 1 1) (.even 0) 0).map (·.1) = [[], [0, 1]] := by decide +kernel
theorem pair_00 : (movesM (pairR 0 0) (.even 0) 0).map (·.1) = [] := by decide +kernel
def W_law : FE := fun ρ k => ∃ ns : List Int, ρ.sl = [.d (.list (ns.map .int))] ∧ ns.length ≤ 63 ∧ ∀ n', k (.bool true) ⟨ρ.sl, n'⟩
theorem ok_law : ∀ ρ k, W_law ρ k → fBody 10 w_law ρ k := by
  rintro ⟨sl, n⟩ k ⟨ns, e, hl, z⟩
  simp only at e z
  subst e
  simp [w_law]
  simp [and_assoc, Rho.set, dropOwn, ftLend, fLend, lendR, frz, ow, nList, -forall_exists_index, fBody, fsSeq, fsIf, fsRet, fsNext, fsDrop, fsAsg, fsNever, fsFor, fsOwn, fsPar2, fsPar_od, fsPar_do, fsPar_oo, fVar, fC, fUn, fOp, fChain, fTup, fLst, fCall, faD, faSt, flCons, flNil, fSl, foSome, foNone, fAnd, fOr, fNot, fIf, fOfN, fn1, fnLst, fnCat, fgN, fgTup, fgCons, fgNil, fiSeq, fiRange1, fiRange2, fiEnumA, fiZip, ftOr, ftAnd, ftNot, ftB, ftT, ftYes, truD_b, truD_i, truD_l, truD_t, truD_n, gIx_t0, gIx_t1, gIx_t2, gSl_t, gSl_l, gIsT, notDict, isT, isN, tyName, gLen_t, gLen_l, gTuple_l, gCmp, gAdd_ii, gAdd_ss, gAdd_tt, gAdd_ll, PD.gSub, gNeg, gMod, seqD, forD, wipeR, gEqA, gNeA, gEq_ii, gNe_ii, gEq_tt, gIn_ints, gIn_intsL, gNotIn_ints, gNotIn_intsL]
  unfold fsBegin
  simp [and_assoc, Rho.set, dropOwn, ftLend, fLend, lendR, frz, ow, nList, -forall_exists_index, fBody, fsSeq, fsIf, fsRet, fsNext, fsDrop, fsAsg, fsNever, fsFor, fsOwn, fsPar2, fsPar_od, fsPar_do, fsPar_oo, fVar, fC, fUn, fOp, fChain, fTup, fLst, fCall, faD, faSt, flCons, flNil, fSl, foSome, foNone, fAnd, fOr, fNot, fIf, fOfN, fn1, fnLst, fnCat, fgN, fgTup, fgCons, fgNil, fiSeq, fiRange1, fiRange2, fiEnumA, fiZip, ftOr, ftAnd, ftNot, ftB, ftT, ftYes, truD_b, truD_i, truD_l, truD_t, truD_n, gIx_t0, gIx_t1, gIx_t2, gSl_t, gSl_l, gIsT, notDict, isT, isN, tyName, gLen_t, gLen_l, gTuple_l, gCmp, gAdd_ii, gAdd_ss, gAdd_tt, gAdd_ll, PD.gSub, gNeg, gMod, seqD, forD, wipeR, gEqA, gNeA, gEq_ii, gNe_ii, gEq_tt, gIn_ints, gIn_intsL, gNotIn_ints, gNotIn_intsL]
  refine ⟨?_, ⟨ns, rfl, hl⟩, ?_⟩
  · intro j
    match j with
    | 0 => simp
    | 1 => simp
    | 2 => simp
    | 3 => simp
    | 4 => simp
    | 5 => simp
    | 6 => simp
    | 7 => simp
    | 8 => simp
    | 9 => simp
    | j + 10 => simp
  · obtain ⟨m, hm, hm5⟩ : ∃ m : Nat, gMin2 (PyData.int (ns.length : Int)) (PyData.int 4) = some (.int (m : Int)) ∧ m ≤ 4 := by
      by_cases h : ns.length ≤ 4
      · refine ⟨ns.length, ?_, h⟩
        simp [gMin2]
        omega
      · refine ⟨4, ?_, Nat.le_refl _⟩
        simp [gMin2]
        omega
    refine ⟨_, hm, _, rfl, _, rfl, by omega, by omega, ?_⟩
    rw [show (1 : Int) + (m : Int) = ((1 + m : Nat) : Int) by omega, rangeD_nat]
    refine law_turns _ _ (List.range (1 + m)) 0 .no .no .no .no .no .no .no _ (by rw [List.length_range]; omega) fun n' x2 x3 x4 x5 x6 x7 x8 => ?_
    dsimp only
    refine ⟨_, rfl, pairR 1 1, .even 0, 0, rfl, ⟨pair_rok (by decide) (by decide) (by decide) (by decide), (by decide : (0 : Int) ∈ [0, 2]), by decide⟩, ?_⟩
    rw [pair_11]
    refine ⟨.bool true, by rfl, .inr ⟨rfl, _, rfl, pairR 0 0, .even 0, 0, rfl, ⟨pair_rok (by decide) (by decide) (by decide) (by decide), (by decide : (0 : Int) ∈ [0, 2]), by decide⟩, ?_⟩⟩
    rw [pair_00]
    exact ⟨.bool true, by rfl, z _⟩
end GA
namespace GC
open PySem L2 PyProof.Rows PySem.Spec PD GM GP GA
open Evl (Ex)
/-- what is seen from a place so far: the first ones wholly -/
structure SeenOK (q : Int) (T : List (List Int)) (s : Int) (seen : List Int) (at_ : Nat) : Prop where
  nd : seen.Nodup
  rng : ∀ x ∈ seen, GM.St T x
  st : s ∈ seen
  rch : ∀ x ∈ seen, ∃ row : List Int, (∀ d ∈ row, Dd q d) ∧ walkT T s row = x
  clo : ∀ i, (h : i < seen.length) → i < at_ → ∀ d, Dd q d → stp T seen[i] d ∈ seen
  le : at_ ≤ seen.length
theorem SeenOK.len {q : Int} {T : List (List Int)} {s : Int} {seen : List Int} {n : Nat} (h : SeenOK q T s seen n) (t1 : 1 ≤ T.length) : seen.length ≤ T.length := by
  have h1 := asc_len (G := isort seen) (lo := 0) (hi := (T.length : Int) - 1) (isort_strict h.nd) fun x hx => h.rng x ((isort_perm seen).mem_iff.mp hx)
  rw [(isort_perm seen).length_eq] at h1
  omega
end GC
namespace GK
open PD PySem GM GP GA GG GB GN
end GK
namespace GB
open PySem L2 PyProof.Rows PySem.Spec PD GM GP GA GG
end GB
namespace GV
open PySem L2 PyProof.Rows PySem.Spec PD GM GP GA GC GG GB GK GN
end GV
namespace GF
open PySem L2 PyProof.Rows PySem.Spec PD GM GP GA GG GN GW GV GK
open Evl (Ex)
abbrev W_law_next := W_nextB
abbrev mW_law_next := mW_nextB
def w_law_of : FS := fsRet (fOp gIx (fVar 1) (fCall 2 W_law_next (faSt 0 (flCons (fUn gLen (fVar 1)) (flNil)))))
def W_law_of : FE := fun ρ k => ∃ xs : List D, ρ.sl = [.st, .d (.list xs)] ∧ xs ≠ [] ∧ xs.length ≤ 1000 ∧ ρ.n + 1 ≤ 1000000000000 ∧ ∀ x ∈ xs, ∀ nn, nn ≤ ρ.n + 1 → k x ⟨ρ.sl, nn⟩
theorem mW_law_of (ρ : Rho) (k k' : KD) (h : ∀ d ρ', k d ρ' → k' d ρ') (q : W_law_of ρ k) : W_law_of ρ k' := by
  obtain ⟨xs, e1, e2, e3, e4, e5⟩ := q
  exact ⟨xs, e1, e2, e3, e4, fun x hx nn hn => h _ _ (e5 x hx nn hn)⟩
theorem ok_law_of : ∀ ρ k, W_law_of ρ k → fBody 2 w_law_of ρ k := by
  rintro ⟨sl, n⟩ k ⟨xs, e, h1, h2, h3, z⟩
  simp only at e h3 z
  subst e
  have hp := List.length_pos_iff.mpr h1
  simp [w_law_of]
  simp [and_assoc, Rho.set, dropOwn, ftLend, fLend, lendR, frz, ow, nList, -forall_exists_index, fBody, fsSeq, fsIf, fsRet, fsNext, fsDrop, fsAsg, fsNever, fsFor, fsOwn, fsPar2, fsPar3, fsPar_od, fsPar_do, fsPar_oo, fVar, fC, fUn, fOp, fChain, fTup, fLst, fCall, faD, faSt, flCons, flNil, fSl, foSome, foNone, fAnd, fOr, fNot, fIf, fOfN, fn1, fnLst, fnCat, fgN, fgTup, fgCons, fgNil, fiSeq, fiRange1, fiRange2, fiEnumA, fiZip, ftOr, ftAnd, ftNot, ftB, ftT, ftYes, truD_b, truD_i, truD_l, truD_t, truD_n, gIx_t0, gIx_t1, gIx_t2, gSl_t, gSl_l, gIsT, notDict, isT, isN, tyName, gLen_t, gLen_l, gTuple_l, gCmp, gAdd_ii, gAdd_ll, PD.gSub, gNeg, gMod, seqD, forD, wipeR, gEqA, gNeA, gEq_ii, gNe_ii, gEq_tt, gIn_ints, gIn_intsL, gNotIn_ints, gNotIn_intsL, fM0, fM1, fJoined, fJ, flStar, starD, fCall0, gIsTX, noInst_n, noInst_b, noInst_i, noInst_s, noInst_l, noInst_t, fFld, fMeth, fMake, faNil, fsFld, fLendO, fDisp, fpCons, fpNil, fDict0, fiAny, walkD, fiOver, dKeys, dVals, dPairs, fsOwnD, fsPut, fOwnIx, fPop, fsExt, fDc, compK, gInX, gNotInX, gIxX, fGet]
  refine ⟨xs.length, rfl, by omega, by omega, by simp; omega, fun r r0 r1 => ?_⟩
  obtain ⟨i, rfl⟩ := Int.eq_ofNat_of_zero_le r0
  have hi : i < xs.length := by omega
  exact ⟨_, gIx_lst (List.getElem?_eq_getElem hi), z _ (List.getElem_mem hi) _ (Nat.le_refl _)⟩
def W_law_sort : FE := fun ρ k => ∃ (q : Int) (T : List (List Int)) (G : List Int) (ho : Int), ρ.sl = [.st, .d (wishD q T G), .d (.int ho)] ∧ (WOK q T G ∧ 0 ≤ ho ∧ ho ≤ 3) ∧ ρ.n + 20 ≤ 1000000000000 ∧ ∀ (h' a' : Int) (lo : List Int) (nn : Nat), (KOK q h' a' lo ∧ h' ≤ ho ∧ a' ≤ 2) → nn ≤ ρ.n + 20 → k (kindD h' a' lo) ⟨ρ.sl, nn⟩
end GF
namespace K87
open PySem L2 PyProof.Rows PySem.Spec PD GM GP GF
open Evl (Ex)
def top (i : Nat) : Stmt := PySem.Challenge.pw_guardkeeps_k87_errors.main.body.getD i (.Pass ⟨0, 0, 0, 0⟩)
abbrev M := MB
structure Txt (mg : Str → Option Value) : Prop where
  IndexError : mg "IndexError" = none
  KeyError : mg "KeyError" = none
  LookupError : mg "LookupError" = none
  OverflowError : mg "OverflowError" = none
  RuntimeError : mg "RuntimeError" = none
  ValueError : mg "ValueError" = none
  int : mg "int" = none
  isinstance : mg "isinstance" = none
  len : mg "len" = none
  list : mg "list" = none
  min : mg "min" = none
  range : mg "range" = none
  repr : mg "repr" = none
section
variable {P : Program} {w : World} {K : PySem.W.Frag} {mg : Str → Option Value} {base : Heap}
abbrev s_law_next : Stmt := top 11
theorem sc_law_next : FnScope ["m", "total", "rest", "k", "cell", "mixed"] ["m", "total"] (defScope s_law_next) := ⟨rfl, rfl, rfl, by decide +kernel, rfl, by decide +kernel, by decide +kernel⟩
theorem ok_law_next {f : Addr} {fd : FuncData} (F : Fun K "_law_next" "_law_next" s_law_next f fd) (T : Txt mg) : FnG P w K mg base (L2.CX P w) 1 f fd ["m", "total"] (spD ⟨K, w, P⟩ M 2 W_nextB) := by
  refine fnG_of F sc_law_next (fun vs H Q E h => spD_len vs H Q E h) fun cdv A outer s H vs Q E hgd hr ⟨P', F', L, ρ, r, hb, hl, hw⟩ => ?_
  have nd := sc_law_next.nd
  have hu : (A.deeper (envOfC "_law_next" (defScope s_law_next) s.heap.objs.size f cdv)).units + 64 < cLine := hr.units
  have hu1 : (A.deeper (envOfC "_law_next" (defScope s_law_next) s.heap.objs.size f cdv)).units + 1 < cLine := by omega
  refine ⟨_, PSs.nox (C8.pss_cut (ps_while PassesOwn.never (PW.pt (pw_and (pt_cmpR (op_neD hu) (pe_dget hu1 (pv 0) pe_str (fun _ _ => rfl)) (pe_lst pa_nil) (nomark _)) (pw_and1 (pt_cmpR op_eq (pe_ix ix_list (pe_dget hu1 (pv 0) pe_str (fun _ _ => rfl)) pe_int (fun _ _ => rfl)) pe_int (nomark _)))))
      (pss_one (ps_dput hu1 (pv 0) pe_str (pe_slice sl_list (pe_dget hu1 (pv 0) pe_str (fun _ _ => rfl)) (po_some pe_int) po_none) rfl)))
    (pss_cons (ps_if (pt_cmpR (op_neD hu) (pe_dget hu1 (pv 0) pe_str (fun _ _ => rfl)) (pe_lst pa_nil) (nomark _))
      (pss_cons (ps_set (i := 2) nd rfl (Or.inl rfl) (pe_callTy call_int1 (by rfl) T.int (by decide +kernel) (pa_cons (pe_ix ix_list (pe_dget hu1 (pv 0) pe_str (fun _ _ => rfl)) pe_int (fun _ _ => rfl)) pa_nil) (by decide) (by decide)))
      (pss_cons (ps_asg (pe_op op_fdiv (pv 2) (pv 1)) (pg_sub (pe_dget hu1 (pv 0) pe_str (fun _ _ => rfl)) pe_int set_list))
      (pss_one (ps_ret (pe_op op_mod (pv 2) (pv 1))))))
      pss_nil)
    (pss_cons (ps_set (i := 3) nd rfl (Or.inl rfl) (pe_op op_add (pe_dget hu1 (pv 0) pe_str (fun _ _ => rfl)) pe_int))
    (pss_cons (ps_dput hu1 (pv 0) pe_str (pv 3) rfl)
    (C8.pss_cut (ps_set (i := 4) nd rfl (Or.inl rfl) (pe_ifExp (pt_cmpR (op_neD hu) (pe_dget hu1 (pv 0) pe_str (fun _ _ => rfl)) (pe_lst pa_nil) (nomark _)) (pe_ix ix_list (pe_dget hu1 (pv 0) pe_str (fun _ _ => rfl)) (pe_op op_mod (pe_callTy call_int1 (by rfl) T.int (by decide +kernel) (pa_cons (pv 3) pa_nil) (by decide) (by decide)) (pe_callB call_len_seq (by rfl) T.len (by decide +kernel) (pa_cons (pe_dget hu1 (pv 0) pe_str (fun _ _ => rfl)) pa_nil) (by decide) (by decide))) (fun _ _ => rfl)) pe_int))
    (pss_cons (ps_set (i := 5) nd rfl (Or.inl rfl) (pe_op op_mul (pe_callTy call_int1 (by rfl) T.int (by decide +kernel) (pa_cons (pe_op op_add (pe_op op_add (pe_op op_mod (pe_callTy call_int1 (by rfl) T.int (by decide +kernel) (pa_cons (pv 4) pa_nil) (by decide) (by decide)) pe_int) (pe_op op_mul pe_int (pv 3))) (pe_op op_mul (pe_op op_mul pe_int (pv 3)) (pv 3))) pa_nil) (by decide) (by decide)) pe_int))
    (pss_cons (ps_set (i := 5) nd rfl (Or.inl rfl) (pe_op op_mul (pe_callTy call_int1 (by rfl) T.int (by decide +kernel) (pa_cons (pe_op op_add (pe_op op_mod (pe_callTy call_int1 (by rfl) T.int (by decide +kernel) (pa_cons (pv 5) pa_nil) (by decide) (by decide)) pe_int) (pe_op op_mul pe_int (pv 3))) pa_nil) (by decide) (by decide)) pe_int))
    (pss_one (ps_ret (pe_op op_mod (pe_callTy call_int1 (by rfl) T.int (by decide +kernel) (pa_cons (pe_op op_fdiv (pe_op op_mod (pe_callTy call_int1 (by rfl) T.int (by decide +kernel) (pa_cons (pv 5) pa_nil) (by decide) (by decide)) pe_int) pe_int) pa_nil) (by decide) (by decide)) (pv 1))))))))))), ?_⟩
  obtain ⟨t, e0, ht, ht2, hn, hk⟩ := hw
  obtain ⟨sl, n⟩ := ρ
  simp only at e0
  subst e0
  obtain ⟨p, eP, e1⟩ := r.getSt (i := 0) rfl
  subst eP
  obtain ⟨c, l0, cs, ls0, k0, eA, ncl, hp, hc, hl0, hk0, hkn, hc63, hl63⟩ : ∃ (c l0 : Addr) (cs ls0 : List Int) (k0 : Int), ((∀ a ∈ [p, c, l0], a ∈ L ∧ F' a = none) ∧ ∀ (i : Nat) (xs : Ow) (l : Addr), ([.st, .d (.int t)] : List Sl)[i]? = some (.own xs) → (vs.map some)[i]? = some (some (.ref l)) → l ∉ [p, c, l0]) ∧ c ≠ l0 ∧ H p = some (.dK (kvB c l0 k0)) ∧ H c = some (.lst (cs.map V.int)) ∧ H l0 = some (.lst (ls0.map V.int)) ∧ 0 ≤ k0 ∧ k0 ≤ n ∧ cs.length ≤ 63 ∧ ls0.length ≤ 63 := by
    obtain ⟨A, ⟨c, l, cs, ls, k, eA, n1, h1, h2, h3, a, b, r1, r2⟩, g1, g2⟩ := r.m p rfl
    subst eA
    exact ⟨c, l, cs, ls, k, ⟨g1, g2⟩, n1, h1, h2, h3, a, b, r1, r2⟩
  have hlen : vs.length = 2 := by have := r.len; simpa using this
  obtain ⟨v1, v2, rfl⟩ : ∃ v1 v2, vs = [v1, v2] := by
    match vs, hlen with
    | [a, b], _ => exact ⟨a, b, rfl⟩
  obtain rfl : v1 = .ref p := by simpa using e1
  obtain ⟨v3, e2, e3⟩ := r.sl 1 (.d (.int t)) (some v2) rfl rfl
  obtain rfl := Option.some.inj e2
  obtain rfl := rp_int e3
  have nl0p : l0 ≠ p := fun e => by rw [e, hp] at hl0; cases hl0
  have SA0 : SB H p c l0 cs l0 ls0 k0 H := ⟨hp, hc, hl0, ncl, .inl rfl, fun a o h _ _ => h, ⟨_, hl0⟩, ncl, hl63⟩
  refine ⟨fun σ H1 => σ = [some (.ref p), some (.int t), none, none, none, none] ∧ ∃ l ls, SB H p c l0 cs l ls k0 H1, ?_, ?_⟩
  · -- the loop
    refine ⟨fun m σ H1 => σ = [some (.ref p), some (.int t), none, none, none, none] ∧ ∃ l ls, ls.length = m ∧ SB H p c l0 cs l ls k0 H1, ⟨_, rfl, l0, ls0, rfl, SA0⟩, ?_⟩
    rintro m σ H1 ⟨rfl, l, ls, hm, S⟩
    refine t_neNil w rfl S.hp kvB_great S.hl fun t1 ht1 => ?_
    have S1 := S.new (o := HO.lst []) ht1
    cases ls with
    | nil => exact ⟨rfl, l, [], S1⟩
    | cons x xs =>
      refine iteT (t_get rfl S1.hp kvB_great ⟨l, _, 0, .int x, rfl, rfl, .inl (.inl S1.hl), at0, rfl, _, rfl, ?_⟩)
      by_cases hx : x = 0
      · subst hx
        rw [decide_eq_true rfl]
        refine iteT ⟨fun σ H1 => σ = [some (.ref p), some (.int t), none, none, none, none] ∧ ∃ l, SB H p c l0 cs l xs k0 H1, ?_, ?_⟩
        · rintro σ' H' ⟨rfl, l', S'⟩
          exact ⟨xs.length, by rw [← hm]; exact Nat.lt_succ_self _, rfl, l', xs, rfl, S'⟩
        · refine t_get rfl S1.hp kvB_great ⟨1, rfl, l, _, rfl, .inl (.inl S1.hl), fun t2 ht2' => ?_⟩
          have S2 := S1.new (o := HO.lst (cutV (((0 : Int) :: xs).map V.int) (some 1) none)) ht2'
          refine ⟨_, rfl, ?_⟩
          have hput := DPut.k (k := (.inr "great" : Key)) (v := .ref t2) S2.hp (by show 3 < sizeLine; rw [sizeLine_eq]; omega)
          rw [kvB_pgreat] at hput
          refine ⟨p, _, rfl, hput, rfl, t2, ?_⟩
          have ntp : t2 ≠ p := (ne_of_none S1.hp ht2').symm
          have ntc : t2 ≠ c := (ne_of_none S1.hc ht2').symm
          refine ⟨upd_same, by rw [upd_ne S2.np.2.symm]; exact S2.hc, by rw [upd_ne ntp, upd_same]; exact congrArg (fun z => some (HO.lst z)) cut1, ntc.symm, .inr ?_, fun a o h n1 n2 => by rw [upd_ne n1]; exact S2.same a o h n1 n2, ?_, S.cn, by have := S.ln; simp at this; omega⟩
          · cases z : H t2 with
            | none => rfl
            | some o =>
              have := S1.same t2 o z ntp (fun e => by obtain ⟨o', h'⟩ := S1.h0; rw [← e, ht2'] at h'; cases h')
              rw [ht2'] at this
              cases this
          · obtain ⟨o, ho⟩ := S2.h0
            exact ⟨o, by rw [upd_ne nl0p]; exact ho⟩
      · rw [decide_eq_false (fun e => hx (V.int.inj e))]
        exact ⟨rfl, l, _, S1⟩
  · -- behind it
    rintro σ H1 ⟨rfl, l, ls, S⟩
    refine t_neNil w rfl S.hp kvB_great S.hl fun t1 ht1 => ?_
    have S1 := S.new (o := HO.lst []) ht1
    cases ls with
    | cons x xs =>
      refine iteT (t_get rfl S1.hp kvB_great ⟨l, _, 0, .int x, rfl, rfl, .inl (.inl S1.hl), at0, .inl ⟨x, rfl, ?_⟩⟩)
      refine ⟨_, rfl, _, rfl, x, t, rfl, rfl, ⟨ht, ht2⟩, t_get rfl S1.hp kvB_great ⟨l, _, 0, 0, rfl, rfl, S1.hl, by unfold ixN; simp, ?_⟩⟩
      refine ⟨_, rfl, _, rfl, x, t, rfl, rfl, ht, ?_⟩
      have S2 : SB H p c l0 cs l ((x / t) :: xs) k0 (upd (upd H1 t1 (.lst [])) l (.lst (((x :: xs).map V.int).set 0 (.int (x / t))))) :=
        ⟨by rw [upd_ne S1.np.1]; exact S1.hp, by rw [upd_ne S1.ncl]; exact S1.hc, by rw [upd_same]; rfl, S1.ncl, S1.fresh, fun a o h n1 n2 => ?_, ?_, S1.cn, by have := S1.ln; simpa using this⟩
      · exact endB r eA S2 (nt3 hp hc hl0) hc63 hk0 (by show k0 ≤ ((n + 1 : Nat) : Int); omega) ht hk
      · have := S1.same a o h n1 n2
        rw [upd_ne (fun e => by
          rcases S1.fresh with f | f
          · exact n2 (e.trans f)
          · rw [e, f] at h; cases h)]
        exact this
      · by_cases e : l0 = l
        · exact ⟨_, by rw [e]; exact upd_same⟩
        · obtain ⟨o, ho⟩ := S1.h0
          exact ⟨o, by rw [upd_ne e]; exact ho⟩
    | nil =>
      refine iteF ?_
      refine t_get rfl S1.hp kvB_spot ⟨_, _, rfl, rfl, ?_⟩
      have hput := DPut.k (k := (.inr "spot" : Key)) (v := .int (k0 + 1)) S1.hp (by show 3 < sizeLine; rw [sizeLine_eq]; omega)
      rw [kvB_pspot] at hput
      refine ⟨_, rfl, _, rfl, p, _, rfl, hput, ?_⟩
      have S2 : SB H p c l0 cs l [] (k0 + 1) (upd (upd H1 t1 (.lst [])) p (.dK (kvB c l (k0 + 1)))) :=
        ⟨upd_same, by rw [upd_ne S1.np.2.symm]; exact S1.hc, by rw [upd_ne S1.np.1.symm]; exact S1.hl, S1.ncl, S1.fresh, fun a o h n1 n2 => by rw [upd_ne n1]; exact S1.same a o h n1 n2, by
          obtain ⟨o, ho⟩ := S1.h0
          exact ⟨o, by rw [upd_ne nl0p]; exact ho⟩, S1.cn, by simp⟩
      refine ⟨fun σ H1 => ∃ cl : Int, σ = [some (.ref p), some (.int t), none, some (.int (k0 + 1)), some (.int cl), none] ∧ SB H p c l0 cs l [] (k0 + 1) H1, ?_, ?_⟩
      · refine t_neNil w rfl S2.hp kvB_cells S2.hc fun t2 ht2' => ?_
        have S3 := S2.new (o := HO.lst []) ht2'
        by_cases hcs : cs = []
        · rw [decide_eq_true hcs]
          exact iteF ⟨61, rfl, S3⟩
        · rw [decide_eq_false hcs]
          have hpos : 0 < cs.length := List.length_pos_iff.mpr hcs
          have g0 : 0 ≤ (k0 + 1) % (cs.length : Int) := Int.emod_nonneg _ (by omega)
          have g1 : (k0 + 1) % (cs.length : Int) < cs.length := Int.emod_lt_of_pos _ (by omega)
          obtain ⟨j, hj⟩ := Int.eq_ofNat_of_zero_le g0
          have hjl : j < cs.length := by omega
          refine iteT (t_get rfl S3.hp kvB_cells ⟨_, rfl, .inl ⟨_, rfl, t_get rfl S3.hp kvB_cells ⟨c, _, rfl, .inl (.inl (.inl S3.hc)), _, _, rfl, rfl, ?_, ?_⟩⟩⟩)
          · show (0 : Int) < ((cs.map V.int).length : Int)
            rw [List.length_map]
            omega
          · refine ⟨c, _, _, .int cs[j], rfl, rfl, .inl (.inl S3.hc), ?_, cs[j], rfl, S3⟩
            show atI (cs.map V.int) ((k0 + 1) % ((cs.map V.int).length : Int)) = some (V.int cs[j])
            rw [List.length_map, hj]
            exact atI_nat (by rw [List.getElem?_map, List.getElem?_eq_getElem hjl]; rfl)
      · rintro σ H2 ⟨cl, rfl, S⟩
        have hkb : -(2 ^ 64) < k0 + 1 ∧ k0 + 1 < 2 ^ 64 := by
          have hn' : n < 1000000000000 := hn
          constructor
          · have : (0 : Int) ≤ 2 ^ 64 := by decide
            omega
          · have : (1000000000001 : Int) < 2 ^ 64 := by decide
            omega
        refine ⟨_, rfl, .inl ⟨cl, rfl, cl, 2147483563, rfl, rfl, (by decide : (0 : Int) < 2147483563), _, rfl, 6089, k0 + 1, rfl, rfl, .inr hkb, _, _, rfl, rfl, _, rfl, 71, k0 + 1, rfl, rfl, .inr hkb, _, rfl, _, k0 + 1, rfl, rfl, .inr hkb, _, _, rfl, rfl, .inl ⟨_, rfl, ?_⟩⟩⟩
        refine ⟨_, 40014, rfl, rfl, .inr (by decide), ?_⟩
        refine ⟨_, rfl, .inl ⟨_, rfl, _, 2147483563, rfl, rfl, (by decide : (0 : Int) < 2147483563), _, rfl, 89017, k0 + 1, rfl, rfl, .inr hkb, _, _, rfl, rfl, .inl ⟨_, rfl, ?_⟩⟩⟩
        refine ⟨_, 742938285, rfl, rfl, .inr (by decide), ?_⟩
        refine ⟨_, rfl, .inl ⟨_, rfl, _, 2147483549, rfl, rfl, (by decide : (0 : Int) < 2147483549), _, 17, rfl, rfl, (by decide : (0 : Int) < 17 ∧ (17 : Int) < 1073741824), .inl ⟨_, rfl, ?_⟩⟩⟩
        refine ⟨_, rfl, _, t, rfl, rfl, ht, ?_⟩
        exact endB r eA S (nt3 hp hc hl0) hc63 (by omega) (by show k0 + 1 ≤ ((n + 1 : Nat) : Int); omega) ht hk
abbrev s_law_begun : Stmt := top 10
theorem sc_law_begun : FnScope ["script", "great", "cell"] ["script"] (defScope s_law_begun) := ⟨rfl, rfl, rfl, by decide +kernel, rfl, by decide +kernel, by decide +kernel⟩
theorem ok_law_begun {f : Addr} {fd : FuncData} (F : Fun K "_law_begun" "_law_begun" s_law_begun f fd) (T : Txt mg) : FnG P w K mg base (L2.CX P w) 1 f fd ["script"] (spB ⟨K, w, P⟩ M 1 B_law) := by
  refine fnG_of F sc_law_begun (fun vs H Q E h => h.1) fun cdv A outer s H vs Q E hgd hr ⟨hlen, ds, hd, ⟨ns, e, h63⟩, q⟩ => ?_
  have nd := sc_law_begun.nd
  refine ⟨_, PSs.nox (pss_cons (pds_ownLc (M := MB) (i := 1) (own := [("cell", 2)]) (vs := [2]) rfl nd rfl rfl (sw_true rfl rfl rfl (by decide +kernel)) (pdi_seq (pd_var (pv 0))) (blkOk_by (own := [("cell", 2)]) (N := ["script", "great", "cell"]) (sc := defScope s_law_begun) (by decide +kernel)) rfl (fun _ _ _ _ _ => pg1_name (i := 2) (pg_name (i := 2) nd rfl (by first | exact Or.inl rfl | exact Or.inr rfl))) (fun _ _ _ _ _ => ptn_one (pdt_cmp op_ge rd_cmp (pd_var (pv 2)) (pd_op op_pow rd_pow (pd_int) (pd_int)) (by first | exact nomark _ | rfl))) (fun _ _ _ _ _ => pd_var (pv 2)) s).ps
    (pss_one (ps_ret (pe_disp (pps_cons pe_str (pe_callTy call_list_of (by rfl) T.list (by decide +kernel) (pa_cons (pv 0) pa_nil) (by decide) (by decide))
    (pps_cons pe_str (pv 1)
    (pps_cons pe_str pe_int pps_nil))) rfl rfl (by simp) (by decide))))), ?_⟩
  subst e
  cases hd with
  | cons h1 h2 =>
    cases h2
    obtain ⟨a, us, rfl, g1, g2⟩ : ∃ a us, _ = V.ref a ∧ SqL K H a us ∧ RpAll ⟨K, w, P⟩ H us (ns.map .int) := by
      have h3 := h1
      rw [← hide_nil H] at h3
      have := rp_list h3
      rw [hide_nil] at this
      exact this
    have eu := dpa_ints_eq g2
    subst eu
    have sg : R ⟨K, w, P⟩ MB none (fun _ => none) [] ⟨[.d (.list (ns.map .int)), .no, .no], 0⟩ [some (.ref a), none, none] H := by
      refine ⟨rfl, fun i s o e1 e2 => ?_, fun a o z => (by cases z), fun a z => absurd z List.not_mem_nil, fun i j xs ys l _ z => ?_, fun i xs l z => ?_, fun q z => (by cases z), fun t z => absurd z List.not_mem_nil, fun i _ _ _ _ z => ?_⟩
      · match i, e1, e2 with
        | 0, e1, e2 => cases e1; cases e2; exact ⟨_, rfl, by rw [hide_nil]; exact h1⟩
        | 1, e1, e2 => cases e1; trivial
        | 2, e1, e2 => cases e1; trivial
      · match i, z with
        | 0, z => cases z
        | 1, z => cases z
        | 2, z => cases z
      · match i, z with
        | 0, z => cases z
        | 1, z => cases z
        | 2, z => cases z
      · match i, z with
        | 0, z => cases z
        | 1, z => cases z
        | 2, z => cases z
    refine ⟨none, fun _ => none, [], _, sg, ⟨.list (ns.map .int), rfl, ns.map .int, rfl, by rw [List.length_map]; omega, comp_bigB ns [] _ _ _ _ _ rfl fun ms hm => ?_⟩⟩
    intro σ' L' H' e3 r3
    rw [hide_nil] at e3
    have x3 : Ex H H' := fun a o ho => (hide_some.mp (e3 a o ho)).2
    obtain ⟨v0, ev0, _⟩ := r3.get (i := 0) (x := .list (ns.map .int)) rfl
    obtain ⟨l, u, ev1, hlL, hl, u0, eu, du⟩ := r3.getOwn (i := 1) (xs := .l (ms.map .int)) rfl
    subst eu
    obtain rfl := dpa_ints_eq du
    have hlH : H l = none := by
      cases z : H l with
      | none => rfl
      | some o => exact absurd hlL (hide_some.mp (e3 l o z)).1
    obtain ⟨v0', ev0', dv0⟩ := r3.get (i := 0) (x := .list (ns.map .int)) rfl
    obtain ⟨a2, us2, rfl, g3, g4⟩ := rp_list dv0
    have eu2 := dpa_ints_eq g4
    subst eu2
    intro p hp
    have x1 : Ex H' (upd H' p (.dK [])) := Ex.new hp
    refine ⟨_, ev0', a2, _, rfl, .inl (Evl.ex_l x1 g3), fun c hc => ?_⟩
    have x2 := Ex.new (o := HO.lst (ns.map V.int)) hc
    generalize hH2 : upd (upd H' p (.dK [])) c (.lst (ns.map V.int)) = H2 at x2
    have hp2 : H2 p = some (.dK []) := x2 _ _ upd_same
    have hc2 : H2 c = some (.lst (ns.map V.int)) := by rw [← hH2]; exact upd_same
    have hl2 : H2 l = some (.lst (ms.map V.int)) := x2 _ _ (x1 _ _ hl)
    have npc : p ≠ c := ne_of_none upd_same hc
    have npl : p ≠ l := (ne_of_none hl hp).symm
    have ncl : c ≠ l := (ne_of_none (x1 _ _ hl) hc).symm
    have hcH : H c = none := by
      cases z : H c with
      | none => rfl
      | some o => rw [x1 _ _ (x3 _ _ z)] at hc; cases hc
    have hpH : H p = none := by
      cases z : H p with
      | none => rfl
      | some o => rw [x3 _ _ z] at hp; cases hp
    refine ⟨_, ev1, hp2, [(.inr "cells", .ref c), (.inr "great", .ref l), (.inr "spot", .int 0)], rfl, (by show 3 ≤ 15; omega), ?_⟩
    refine q p [p, c, l] _ (fun b o hb => ?_) (fun b hb => ?_) ⟨c, l, ns, ms, 0, rfl, ncl, upd_same, by rw [upd_ne npc.symm]; exact hc2, by rw [upd_ne npl.symm]; exact hl2, Int.le_refl _, by omega, h63, by simpa using Nat.le_trans hm (by simpa using h63)⟩
    · rw [upd_ne (ne_of_none hb hpH)]
      exact x2 _ _ (x1 _ _ (x3 _ _ hb))
    · have hz := hb
      rcases List.mem_cons.mp hz with z | hz
      · subst z; exact ⟨hpH, _, upd_same⟩
      · rcases List.mem_cons.mp hz with z | hz
        · subst z
          exact ⟨hcH, _, by rw [upd_ne npc.symm]; exact hc2⟩
        · rcases List.mem_cons.mp hz with z | hz
          · subst z
            exact ⟨hlH, _, by rw [upd_ne npl.symm]; exact hl2⟩
          · cases hz
abbrev W_law_next := W_nextB
abbrev mW_law_next := mW_nextB
/-- what is known of the eight classes -/
structure ErF (K : PySem.W.Frag) (C_BadGuard C_BadKind C_BadPaper C_BadText C_BadWish C_Nothing C_OutOfPlace C_TooMany : Addr) : Prop where
  exBadWish : ExcC K C_BadWish
  xfBadWish : XfC K C_BadWish
  fiBadWish : PySem.W.findIn K (.ref C_BadWish) "part" = some none
  kBadWishBadWish : PySem.W.kitOne K (.ref C_BadWish) (.ref C_BadWish) = some true
  kBadWishBadKind : PySem.W.kitOne K (.ref C_BadWish) (.ref C_BadKind) = some false
  kBadWishBadGuard : PySem.W.kitOne K (.ref C_BadWish) (.ref C_BadGuard) = some false
  kBadWishBadPaper : PySem.W.kitOne K (.ref C_BadWish) (.ref C_BadPaper) = some false
  kBadWishBadText : PySem.W.kitOne K (.ref C_BadWish) (.ref C_BadText) = some false
  kBadWishOutOfPlace : PySem.W.kitOne K (.ref C_BadWish) (.ref C_OutOfPlace) = some false
  kBadWishNothing : PySem.W.kitOne K (.ref C_BadWish) (.ref C_Nothing) = some false
  kBadWishTooMany : PySem.W.kitOne K (.ref C_BadWish) (.ref C_TooMany) = some false
  kBadWishValueError : PySem.W.kitOne K (.ref C_BadWish) (.type "ValueError") = some true
  kBadWishLookupError : PySem.W.kitOne K (.ref C_BadWish) (.type "LookupError") = some false
  kBadWishOverflowError : PySem.W.kitOne K (.ref C_BadWish) (.type "OverflowError") = some false
  kBadWishKeyError : PySem.W.kitOne K (.ref C_BadWish) (.type "KeyError") = some false
  kBadWishIndexError : PySem.W.kitOne K (.ref C_BadWish) (.type "IndexError") = some false
  kBadWishRuntimeError : PySem.W.kitOne K (.ref C_BadWish) (.type "RuntimeError") = some false
  aBadWish : PySem.W.exmAny K (.ref C_BadWish) [.ref C_BadWish, .ref C_BadKind, .ref C_BadGuard, .ref C_BadPaper, .ref C_BadText, .ref C_OutOfPlace] = some true
  exBadKind : ExcC K C_BadKind
  xfBadKind : XfC K C_BadKind
  fiBadKind : PySem.W.findIn K (.ref C_BadKind) "part" = some none
  kBadKindBadWish : PySem.W.kitOne K (.ref C_BadKind) (.ref C_BadWish) = some false
  kBadKindBadKind : PySem.W.kitOne K (.ref C_BadKind) (.ref C_BadKind) = some true
  kBadKindBadGuard : PySem.W.kitOne K (.ref C_BadKind) (.ref C_BadGuard) = some false
  kBadKindBadPaper : PySem.W.kitOne K (.ref C_BadKind) (.ref C_BadPaper) = some false
  kBadKindBadText : PySem.W.kitOne K (.ref C_BadKind) (.ref C_BadText) = some false
  kBadKindOutOfPlace : PySem.W.kitOne K (.ref C_BadKind) (.ref C_OutOfPlace) = some false
  kBadKindNothing : PySem.W.kitOne K (.ref C_BadKind) (.ref C_Nothing) = some false
  kBadKindTooMany : PySem.W.kitOne K (.ref C_BadKind) (.ref C_TooMany) = some false
  kBadKindValueError : PySem.W.kitOne K (.ref C_BadKind) (.type "ValueError") = some true
  kBadKindLookupError : PySem.W.kitOne K (.ref C_BadKind) (.type "LookupError") = some false
  kBadKindOverflowError : PySem.W.kitOne K (.ref C_BadKind) (.type "OverflowError") = some false
  kBadKindKeyError : PySem.W.kitOne K (.ref C_BadKind) (.type "KeyError") = some false
  kBadKindIndexError : PySem.W.kitOne K (.ref C_BadKind) (.type "IndexError") = some false
  kBadKindRuntimeError : PySem.W.kitOne K (.ref C_BadKind) (.type "RuntimeError") = some false
  aBadKind : PySem.W.exmAny K (.ref C_BadKind) [.ref C_BadWish, .ref C_BadKind, .ref C_BadGuard, .ref C_BadPaper, .ref C_BadText, .ref C_OutOfPlace] = some true
  exBadGuard : ExcC K C_BadGuard
  xfBadGuard : XfC K C_BadGuard
  fiBadGuard : PySem.W.findIn K (.ref C_BadGuard) "part" = some none
  kBadGuardBadWish : PySem.W.kitOne K (.ref C_BadGuard) (.ref C_BadWish) = some false
  kBadGuardBadKind : PySem.W.kitOne K (.ref C_BadGuard) (.ref C_BadKind) = some false
  kBadGuardBadGuard : PySem.W.kitOne K (.ref C_BadGuard) (.ref C_BadGuard) = some true
  kBadGuardBadPaper : PySem.W.kitOne K (.ref C_BadGuard) (.ref C_BadPaper) = some false
  kBadGuardBadText : PySem.W.kitOne K (.ref C_BadGuard) (.ref C_BadText) = some false
  kBadGuardOutOfPlace : PySem.W.kitOne K (.ref C_BadGuard) (.ref C_OutOfPlace) = some false
  kBadGuardNothing : PySem.W.kitOne K (.ref C_BadGuard) (.ref C_Nothing) = some false
  kBadGuardTooMany : PySem.W.kitOne K (.ref C_BadGuard) (.ref C_TooMany) = some false
  kBadGuardValueError : PySem.W.kitOne K (.ref C_BadGuard) (.type "ValueError") = some true
  kBadGuardLookupError : PySem.W.kitOne K (.ref C_BadGuard) (.type "LookupError") = some false
  kBadGuardOverflowError : PySem.W.kitOne K (.ref C_BadGuard) (.type "OverflowError") = some false
  kBadGuardKeyError : PySem.W.kitOne K (.ref C_BadGuard) (.type "KeyError") = some false
  kBadGuardIndexError : PySem.W.kitOne K (.ref C_BadGuard) (.type "IndexError") = some false
  kBadGuardRuntimeError : PySem.W.kitOne K (.ref C_BadGuard) (.type "RuntimeError") = some false
  aBadGuard : PySem.W.exmAny K (.ref C_BadGuard) [.ref C_BadWish, .ref C_BadKind, .ref C_BadGuard, .ref C_BadPaper, .ref C_BadText, .ref C_OutOfPlace] = some true
  exBadPaper : ExcC K C_BadPaper
  xfBadPaper : XfC K C_BadPaper
  fiBadPaper : PySem.W.findIn K (.ref C_BadPaper) "part" = some none
  kBadPaperBadWish : PySem.W.kitOne K (.ref C_BadPaper) (.ref C_BadWish) = some false
  kBadPaperBadKind : PySem.W.kitOne K (.ref C_BadPaper) (.ref C_BadKind) = some false
  kBadPaperBadGuard : PySem.W.kitOne K (.ref C_BadPaper) (.ref C_BadGuard) = some false
  kBadPaperBadPaper : PySem.W.kitOne K (.ref C_BadPaper) (.ref C_BadPaper) = some true
  kBadPaperBadText : PySem.W.kitOne K (.ref C_BadPaper) (.ref C_BadText) = some false
  kBadPaperOutOfPlace : PySem.W.kitOne K (.ref C_BadPaper) (.ref C_OutOfPlace) = some false
  kBadPaperNothing : PySem.W.kitOne K (.ref C_BadPaper) (.ref C_Nothing) = some false
  kBadPaperTooMany : PySem.W.kitOne K (.ref C_BadPaper) (.ref C_TooMany) = some false
  kBadPaperValueError : PySem.W.kitOne K (.ref C_BadPaper) (.type "ValueError") = some true
  kBadPaperLookupError : PySem.W.kitOne K (.ref C_BadPaper) (.type "LookupError") = some false
  kBadPaperOverflowError : PySem.W.kitOne K (.ref C_BadPaper) (.type "OverflowError") = some false
  kBadPaperKeyError : PySem.W.kitOne K (.ref C_BadPaper) (.type "KeyError") = some false
  kBadPaperIndexError : PySem.W.kitOne K (.ref C_BadPaper) (.type "IndexError") = some false
  kBadPaperRuntimeError : PySem.W.kitOne K (.ref C_BadPaper) (.type "RuntimeError") = some false
  aBadPaper : PySem.W.exmAny K (.ref C_BadPaper) [.ref C_BadWish, .ref C_BadKind, .ref C_BadGuard, .ref C_BadPaper, .ref C_BadText, .ref C_OutOfPlace] = some true
  exBadText : ExcC K C_BadText
  xfBadText : XfC K C_BadText
  fiBadText : PySem.W.findIn K (.ref C_BadText) "line" = some none
  kBadTextBadWish : PySem.W.kitOne K (.ref C_BadText) (.ref C_BadWish) = some false
  kBadTextBadKind : PySem.W.kitOne K (.ref C_BadText) (.ref C_BadKind) = some false
  kBadTextBadGuard : PySem.W.kitOne K (.ref C_BadText) (.ref C_BadGuard) = some false
  kBadTextBadPaper : PySem.W.kitOne K (.ref C_BadText) (.ref C_BadPaper) = some false
  kBadTextBadText : PySem.W.kitOne K (.ref C_BadText) (.ref C_BadText) = some true
  kBadTextOutOfPlace : PySem.W.kitOne K (.ref C_BadText) (.ref C_OutOfPlace) = some false
  kBadTextNothing : PySem.W.kitOne K (.ref C_BadText) (.ref C_Nothing) = some false
  kBadTextTooMany : PySem.W.kitOne K (.ref C_BadText) (.ref C_TooMany) = some false
  kBadTextValueError : PySem.W.kitOne K (.ref C_BadText) (.type "ValueError") = some true
  kBadTextLookupError : PySem.W.kitOne K (.ref C_BadText) (.type "LookupError") = some false
  kBadTextOverflowError : PySem.W.kitOne K (.ref C_BadText) (.type "OverflowError") = some false
  kBadTextKeyError : PySem.W.kitOne K (.ref C_BadText) (.type "KeyError") = some false
  kBadTextIndexError : PySem.W.kitOne K (.ref C_BadText) (.type "IndexError") = some false
  kBadTextRuntimeError : PySem.W.kitOne K (.ref C_BadText) (.type "RuntimeError") = some false
  aBadText : PySem.W.exmAny K (.ref C_BadText) [.ref C_BadWish, .ref C_BadKind, .ref C_BadGuard, .ref C_BadPaper, .ref C_BadText, .ref C_OutOfPlace] = some true
  exOutOfPlace : ExcC K C_OutOfPlace
  xfOutOfPlace : XfC K C_OutOfPlace
  kOutOfPlaceBadWish : PySem.W.kitOne K (.ref C_OutOfPlace) (.ref C_BadWish) = some false
  kOutOfPlaceBadKind : PySem.W.kitOne K (.ref C_OutOfPlace) (.ref C_BadKind) = some false
  kOutOfPlaceBadGuard : PySem.W.kitOne K (.ref C_OutOfPlace) (.ref C_BadGuard) = some false
  kOutOfPlaceBadPaper : PySem.W.kitOne K (.ref C_OutOfPlace) (.ref C_BadPaper) = some false
  kOutOfPlaceBadText : PySem.W.kitOne K (.ref C_OutOfPlace) (.ref C_BadText) = some false
  kOutOfPlaceOutOfPlace : PySem.W.kitOne K (.ref C_OutOfPlace) (.ref C_OutOfPlace) = some true
  kOutOfPlaceNothing : PySem.W.kitOne K (.ref C_OutOfPlace) (.ref C_Nothing) = some false
  kOutOfPlaceTooMany : PySem.W.kitOne K (.ref C_OutOfPlace) (.ref C_TooMany) = some false
  kOutOfPlaceValueError : PySem.W.kitOne K (.ref C_OutOfPlace) (.type "ValueError") = some true
  kOutOfPlaceLookupError : PySem.W.kitOne K (.ref C_OutOfPlace) (.type "LookupError") = some false
  kOutOfPlaceOverflowError : PySem.W.kitOne K (.ref C_OutOfPlace) (.type "OverflowError") = some false
  kOutOfPlaceKeyError : PySem.W.kitOne K (.ref C_OutOfPlace) (.type "KeyError") = some false
  kOutOfPlaceIndexError : PySem.W.kitOne K (.ref C_OutOfPlace) (.type "IndexError") = some false
  kOutOfPlaceRuntimeError : PySem.W.kitOne K (.ref C_OutOfPlace) (.type "RuntimeError") = some false
  aOutOfPlace : PySem.W.exmAny K (.ref C_OutOfPlace) [.ref C_BadWish, .ref C_BadKind, .ref C_BadGuard, .ref C_BadPaper, .ref C_BadText, .ref C_OutOfPlace] = some true
  exNothing : ExcC K C_Nothing
  xfNothing : XfC K C_Nothing
  kNothingBadWish : PySem.W.kitOne K (.ref C_Nothing) (.ref C_BadWish) = some false
  kNothingBadKind : PySem.W.kitOne K (.ref C_Nothing) (.ref C_BadKind) = some false
  kNothingBadGuard : PySem.W.kitOne K (.ref C_Nothing) (.ref C_BadGuard) = some false
  kNothingBadPaper : PySem.W.kitOne K (.ref C_Nothing) (.ref C_BadPaper) = some false
  kNothingBadText : PySem.W.kitOne K (.ref C_Nothing) (.ref C_BadText) = some false
  kNothingOutOfPlace : PySem.W.kitOne K (.ref C_Nothing) (.ref C_OutOfPlace) = some false
  kNothingNothing : PySem.W.kitOne K (.ref C_Nothing) (.ref C_Nothing) = some true
  kNothingTooMany : PySem.W.kitOne K (.ref C_Nothing) (.ref C_TooMany) = some false
  kNothingValueError : PySem.W.kitOne K (.ref C_Nothing) (.type "ValueError") = some false
  kNothingLookupError : PySem.W.kitOne K (.ref C_Nothing) (.type "LookupError") = some true
  kNothingOverflowError : PySem.W.kitOne K (.ref C_Nothing) (.type "OverflowError") = some false
  kNothingKeyError : PySem.W.kitOne K (.ref C_Nothing) (.type "KeyError") = some false
  kNothingIndexError : PySem.W.kitOne K (.ref C_Nothing) (.type "IndexError") = some false
  kNothingRuntimeError : PySem.W.kitOne K (.ref C_Nothing) (.type "RuntimeError") = some false
  aNothing : PySem.W.exmAny K (.ref C_Nothing) [.ref C_BadWish, .ref C_BadKind, .ref C_BadGuard, .ref C_BadPaper, .ref C_BadText, .ref C_OutOfPlace] = some false
  bNothing : PySem.W.exmAny K (.ref C_Nothing) [.ref C_Nothing, .ref C_TooMany] = some true
  exTooMany : ExcC K C_TooMany
  xfTooMany : XfC K C_TooMany
  fiTooMany : PySem.W.findIn K (.ref C_TooMany) "most" = some none
  kTooManyBadWish : PySem.W.kitOne K (.ref C_TooMany) (.ref C_BadWish) = some false
  kTooManyBadKind : PySem.W.kitOne K (.ref C_TooMany) (.ref C_BadKind) = some false
  kTooManyBadGuard : PySem.W.kitOne K (.ref C_TooMany) (.ref C_BadGuard) = some false
  kTooManyBadPaper : PySem.W.kitOne K (.ref C_TooMany) (.ref C_BadPaper) = some false
  kTooManyBadText : PySem.W.kitOne K (.ref C_TooMany) (.ref C_BadText) = some false
  kTooManyOutOfPlace : PySem.W.kitOne K (.ref C_TooMany) (.ref C_OutOfPlace) = some false
  kTooManyNothing : PySem.W.kitOne K (.ref C_TooMany) (.ref C_Nothing) = some false
  kTooManyTooMany : PySem.W.kitOne K (.ref C_TooMany) (.ref C_TooMany) = some true
  kTooManyValueError : PySem.W.kitOne K (.ref C_TooMany) (.type "ValueError") = some false
  kTooManyLookupError : PySem.W.kitOne K (.ref C_TooMany) (.type "LookupError") = some false
  kTooManyOverflowError : PySem.W.kitOne K (.ref C_TooMany) (.type "OverflowError") = some true
  kTooManyKeyError : PySem.W.kitOne K (.ref C_TooMany) (.type "KeyError") = some false
  kTooManyIndexError : PySem.W.kitOne K (.ref C_TooMany) (.type "IndexError") = some false
  kTooManyRuntimeError : PySem.W.kitOne K (.ref C_TooMany) (.type "RuntimeError") = some false
  aTooMany : PySem.W.exmAny K (.ref C_TooMany) [.ref C_BadWish, .ref C_BadKind, .ref C_BadGuard, .ref C_BadPaper, .ref C_BadText, .ref C_OutOfPlace] = some false
  bTooMany : PySem.W.exmAny K (.ref C_TooMany) [.ref C_Nothing, .ref C_TooMany] = some true
/-- the class by its place -/
def cl8 (C_BadGuard C_BadKind C_BadPaper C_BadText C_BadWish C_Nothing C_OutOfPlace C_TooMany : Addr) : Nat → Addr
  | 0 => C_BadWish
  | 1 => C_BadKind
  | 2 => C_BadGuard
  | 3 => C_BadPaper
  | 4 => C_BadText
  | 5 => C_OutOfPlace
  | 6 => C_Nothing
  | _ => C_TooMany
def fl8 (d : D) : Nat → List (D × D)
  | 0 => [(.str "part", d)]
  | 1 => [(.str "part", d)]
  | 2 => [(.str "part", d)]
  | 3 => [(.str "part", d)]
  | 4 => [(.str "line", d)]
  | 5 => []
  | 6 => []
  | _ => [(.str "most", d)]
abbrev er8 (C_BadGuard C_BadKind C_BadPaper C_BadText C_BadWish C_Nothing C_OutOfPlace C_TooMany : Addr) (d : D) (i : Nat) : D := errD (cl8 C_BadGuard C_BadKind C_BadPaper C_BadText C_BadWish C_Nothing C_OutOfPlace C_TooMany i) (fl8 d i)
def due8 (i : Nat) : D := .list ((List.range 14).map fun k => .bool (decide (k = i) || decide (k = if i < 6 then 8 else if i = 6 then 9 else 10)))
abbrev all8 (C_BadGuard C_BadKind C_BadPaper C_BadText C_BadWish C_Nothing C_OutOfPlace C_TooMany : Addr) (d : D) : D := .list ((List.range 8).map (er8 C_BadGuard C_BadKind C_BadPaper C_BadText C_BadWish C_Nothing C_OutOfPlace C_TooMany d))
def W_law_all (C_BadGuard C_BadKind C_BadPaper C_BadText C_BadWish C_Nothing C_OutOfPlace C_TooMany : Addr) : FE := fun ρ k => ∃ (d : D), ρ.sl = [.d d] ∧ (True) ∧ k (all8 C_BadGuard C_BadKind C_BadPaper C_BadText C_BadWish C_Nothing C_OutOfPlace C_TooMany d) ρ
theorem mW_law_all (C_BadGuard C_BadKind C_BadPaper C_BadText C_BadWish C_Nothing C_OutOfPlace C_TooMany : Addr) (ρ : Rho) (k k' : KD) (hM : ∀ d ρ', k d ρ' → k' d ρ') (q : W_law_all C_BadGuard C_BadKind C_BadPaper C_BadText C_BadWish C_Nothing C_OutOfPlace C_TooMany ρ k) : W_law_all C_BadGuard C_BadKind C_BadPaper C_BadText C_BadWish C_Nothing C_OutOfPlace C_TooMany ρ k' := by
  obtain ⟨a, e1, e2, e3⟩ := q
  exact ⟨a, e1, e2, hM _ _ e3⟩
def W_law_named (C_BadGuard C_BadKind C_BadPaper C_BadText C_BadWish C_Nothing C_OutOfPlace C_TooMany : Addr) : FE := fun ρ k => ∃ (d : D), ρ.sl = [.d d] ∧ (True) ∧ k (all8 C_BadGuard C_BadKind C_BadPaper C_BadText C_BadWish C_Nothing C_OutOfPlace C_TooMany d) ρ
theorem mW_law_named (C_BadGuard C_BadKind C_BadPaper C_BadText C_BadWish C_Nothing C_OutOfPlace C_TooMany : Addr) (ρ : Rho) (k k' : KD) (hM : ∀ d ρ', k d ρ' → k' d ρ') (q : W_law_named C_BadGuard C_BadKind C_BadPaper C_BadText C_BadWish C_Nothing C_OutOfPlace C_TooMany ρ k) : W_law_named C_BadGuard C_BadKind C_BadPaper C_BadText C_BadWish C_Nothing C_OutOfPlace C_TooMany ρ k' := by
  obtain ⟨a, e1, e2, e3⟩ := q
  exact ⟨a, e1, e2, hM _ _ e3⟩
def W_law_fields (C_BadGuard C_BadKind C_BadPaper C_BadText C_BadWish C_Nothing C_OutOfPlace C_TooMany : Addr) : FE := fun ρ k => ∃ (d : D), ρ.sl = [.d (all8 C_BadGuard C_BadKind C_BadPaper C_BadText C_BadWish C_Nothing C_OutOfPlace C_TooMany d)] ∧ (True) ∧ k (.list (List.replicate 6 d)) ρ
theorem mW_law_fields (C_BadGuard C_BadKind C_BadPaper C_BadText C_BadWish C_Nothing C_OutOfPlace C_TooMany : Addr) (ρ : Rho) (k k' : KD) (hM : ∀ d ρ', k d ρ' → k' d ρ') (q : W_law_fields C_BadGuard C_BadKind C_BadPaper C_BadText C_BadWish C_Nothing C_OutOfPlace C_TooMany ρ k) : W_law_fields C_BadGuard C_BadKind C_BadPaper C_BadText C_BadWish C_Nothing C_OutOfPlace C_TooMany ρ k' := by
  obtain ⟨a, e1, e2, e3⟩ := q
  exact ⟨a, e1, e2, hM _ _ e3⟩
def W_law_marks (C_BadGuard C_BadKind C_BadPaper C_BadText C_BadWish C_Nothing C_OutOfPlace C_TooMany : Addr) : FE := fun ρ k => ∃ (i : Nat) (f : List (D × D)), ρ.sl = [.d (errD (cl8 C_BadGuard C_BadKind C_BadPaper C_BadText C_BadWish C_Nothing C_OutOfPlace C_TooMany i) f)] ∧ (i < 8) ∧ k (due8 i) ρ
theorem mW_law_marks (C_BadGuard C_BadKind C_BadPaper C_BadText C_BadWish C_Nothing C_OutOfPlace C_TooMany : Addr) (ρ : Rho) (k k' : KD) (hM : ∀ d ρ', k d ρ' → k' d ρ') (q : W_law_marks C_BadGuard C_BadKind C_BadPaper C_BadText C_BadWish C_Nothing C_OutOfPlace C_TooMany ρ k) : W_law_marks C_BadGuard C_BadKind C_BadPaper C_BadText C_BadWish C_Nothing C_OutOfPlace C_TooMany ρ k' := by
  obtain ⟨a, b, e1, e2, e3⟩ := q
  exact ⟨a, b, e1, e2, hM _ _ e3⟩
def W_law_due : FE := fun ρ k => ∃ (i : Nat), ρ.sl = [.d (.int i)] ∧ (i < 8) ∧ k (due8 i) ρ
theorem mW_law_due (ρ : Rho) (k k' : KD) (hM : ∀ d ρ', k d ρ' → k' d ρ') (q : W_law_due ρ k) : W_law_due ρ k' := by
  obtain ⟨a, e1, e2, e3⟩ := q
  exact ⟨a, e1, e2, hM _ _ e3⟩
def W_law_raised : FE := fun ρ k => ∃ (d : D), ρ.sl = [.d d] ∧ (False) ∧ k (.none) ρ
theorem mW_law_raised (ρ : Rho) (k k' : KD) (hM : ∀ d ρ', k d ρ' → k' d ρ') (q : W_law_raised ρ k) : W_law_raised ρ k' := by
  obtain ⟨a, e1, e2, e3⟩ := q
  exact ⟨a, e1, e2, hM _ _ e3⟩
def U_law_raised (C_BadGuard C_BadKind C_BadPaper C_BadText C_BadWish C_Nothing C_OutOfPlace C_TooMany : Addr) : FX := fun ρ k => ∃ (i : Nat) (d : D), ρ.sl = [.d (.int i), .d d] ∧ i < 8 ∧ k (.ref (cl8 C_BadGuard C_BadKind C_BadPaper C_BadText C_BadWish C_Nothing C_OutOfPlace C_TooMany i)) (fl8 d i) ρ
theorem mU_law_raised (C_BadGuard C_BadKind C_BadPaper C_BadText C_BadWish C_Nothing C_OutOfPlace C_TooMany : Addr) (ρ : Rho) (k k' : Value → List (D × D) → Rho → Prop) (hM : ∀ c fl ρ', k c fl ρ' → k' c fl ρ') (q : U_law_raised C_BadGuard C_BadKind C_BadPaper C_BadText C_BadWish C_Nothing C_OutOfPlace C_TooMany ρ k) : U_law_raised C_BadGuard C_BadKind C_BadPaper C_BadText C_BadWish C_Nothing C_OutOfPlace C_TooMany ρ k' := by
  obtain ⟨a, b, e1, e2, e3⟩ := q
  exact ⟨a, b, e1, e2, hM _ _ _ e3⟩
def W_law_caught (C_BadGuard C_BadKind C_BadPaper C_BadText C_BadWish C_Nothing C_OutOfPlace C_TooMany : Addr) : FE := fun ρ k => ∃ (i : Nat) (d : D), ρ.sl = [.d (.int i), .d d] ∧ (i < 8) ∧ k (due8 i) ρ
theorem mW_law_caught (C_BadGuard C_BadKind C_BadPaper C_BadText C_BadWish C_Nothing C_OutOfPlace C_TooMany : Addr) (ρ : Rho) (k k' : KD) (hM : ∀ d ρ', k d ρ' → k' d ρ') (q : W_law_caught C_BadGuard C_BadKind C_BadPaper C_BadText C_BadWish C_Nothing C_OutOfPlace C_TooMany ρ k) : W_law_caught C_BadGuard C_BadKind C_BadPaper C_BadText C_BadWish C_Nothing C_OutOfPlace C_TooMany ρ k' := by
  obtain ⟨a, b, e1, e2, e3⟩ := q
  exact ⟨a, b, e1, e2, hM _ _ e3⟩
/-- a thing that the law makes errors of -/
def Th (d : D) : Prop := fitsP (.list (List.replicate 6 d)) = true
abbrev s_law_of : Stmt := top 12
theorem sc_law_of : FnScope ["m", "some"] ["m", "some"] (defScope s_law_of) := ⟨rfl, rfl, rfl, by decide +kernel, rfl, by decide +kernel, by decide +kernel⟩
theorem raw_law_of {f : Addr} {fd : FuncData} {a_law_next : Addr} {d_law_next : FuncData} (F : Fun K "_law_of" "_law_of" s_law_of f fd) (T : Txt mg) (g_law_next : mg "_law_next" = some (.ref a_law_next)) (G_law_next : FnG P w K mg base (L2.CX P w) 1 a_law_next d_law_next ["m", "total"] (spD ⟨K, w, P⟩ M 2 W_law_next)) (b_law_next : Binds K d_law_next ["m", "total"] []) (k_law_next : PySem.W.keepIn K (.ref a_law_next) = true) : FnG P w K mg base (L2.CX P w) (2) f fd ["m", "some"] (spD ⟨K, w, P⟩ M 2 (fBody 2 w_law_of)) := by
  refine fnD F sc_law_of fun cdv A outer s H E hgd hr => ?_
  have nd := (sc_law_of).nd
  have hu : (A.deeper (envOfC "_law_of" (defScope s_law_of) s.heap.objs.size f cdv)).units + 64 < cLine := hr.units
  exact pds_one (pds_ret (pd_ix ix_any rd_ix (pd_var (pv 1)) (pd_call mW_law_next (G_law_next.mono (by decide)) hgd hr (by rfl) g_law_next k_law_next b_law_next (pda_st (pv 0) (pdl_cons (pd_b1 call_lenA r1_len (by rfl) T.len (by decide +kernel) (pd_var (pv 1))) (pdl_nil)))) (fun _ _ => rfl)))
def W_law_thing : FE := fun ρ k => ρ.sl = [.st] ∧ (True) ∧ ρ.n + 10 ≤ 1000000000000 ∧ ∀ (d : D) (nn : Nat), Th d → nn ≤ ρ.n + 10 → k d ⟨ρ.sl, nn⟩
theorem mW_law_thing (ρ : Rho) (k k' : KD) (hM : ∀ d ρ', k d ρ' → k' d ρ') (q : W_law_thing ρ k) : W_law_thing ρ k' := by
  obtain ⟨e1, e2, e3, e4⟩ := q
  exact ⟨e1, e2, e3, fun d nn a b => hM _ _ (e4 d nn a b)⟩
def W_law : FE := fun ρ k => ∃ ns : List Int, ρ.sl = [.d (.list (ns.map .int))] ∧ ns.length ≤ 63 ∧ ∀ n', k (.bool true) ⟨ρ.sl, n'⟩
abbrev s_law_thing : Stmt := top 13
theorem sc_law_thing : FnScope ["m", "some"] ["m"] (defScope s_law_thing) := ⟨rfl, rfl, rfl, by decide +kernel, rfl, by decide +kernel, by decide +kernel⟩
def w_law_thing : FS := fsSeq (fsAsg (fLst (flCons (fC .none) (flCons (fC (.int 0)) (flCons (fUn gNeg (fC (.int 1))) (flCons (fC (.bool true)) (flCons (fC (.bool false)) (flCons (fC (.str "")) (flCons (fC (.str "hold")) (flCons (fTup (flNil)) (flCons (fTup (flCons (fC (.int 0)) (flCons (fTup (flCons (fC (.int 1)) (flNil))) (flNil)))) (flCons (fLst (flNil)) (flCons (fLst (flCons (fC (.int 2)) (flNil))) (flCons (fDict0) (flCons (fDisp false (fpCons (fC (.str "a")) (fC (.int 1)) (fpNil))) (flCons (fOp gPow (fC (.int 10)) (fC (.int 30))) (flNil)))))))))))))))) (fgN 1))
  (fsRet (fCall 2 W_law_of (faSt 0 (flCons (fOp gAdd (fVar 1) (fLst (flCons (fCall 2 W_law_next (faSt 0 (flCons (fC (.int 5000)) (flNil)))) (flCons (fOp gMulY (fC (.str "w")) (fCall 2 W_law_next (faSt 0 (flCons (fC (.int 9)) (flNil))))) (flNil))))) (flNil)))))
theorem raw_law_thing {f : Addr} {fd : FuncData} {a_law_next : Addr} {d_law_next : FuncData} {a_law_of : Addr} {d_law_of : FuncData} (F : Fun K "_law_thing" "_law_thing" s_law_thing f fd) (T : Txt mg) (g_law_next : mg "_law_next" = some (.ref a_law_next)) (g_law_of : mg "_law_of" = some (.ref a_law_of)) (G_law_next : FnG P w K mg base (L2.CX P w) 1 a_law_next d_law_next ["m", "total"] (spD ⟨K, w, P⟩ M 2 W_law_next)) (b_law_next : Binds K d_law_next ["m", "total"] []) (k_law_next : PySem.W.keepIn K (.ref a_law_next) = true) (G_law_of : FnG P w K mg base (L2.CX P w) 2 a_law_of d_law_of ["m", "some"] (spD ⟨K, w, P⟩ M 2 W_law_of)) (b_law_of : Binds K d_law_of ["m", "some"] []) (k_law_of : PySem.W.keepIn K (.ref a_law_of) = true) : FnG P w K mg base (L2.CX P w) (3) f fd ["m"] (spD ⟨K, w, P⟩ M 1 (fBody 2 w_law_thing)) := by
  refine fnD F sc_law_thing fun cdv A outer s H E hgd hr => ?_
  have nd := (sc_law_thing).nd
  have hu : (A.deeper (envOfC "_law_thing" (defScope s_law_thing) s.heap.objs.size f cdv)).units + 64 < cLine := hr.units
  exact pds_cons (pds_asg (pd_lst (pdl_cons (pd_non) (pdl_cons (pd_int) (pdl_cons (pd_un un_neg r1_neg (pd_int)) (pdl_cons (pd_bl) (pdl_cons (pd_bl) (pdl_cons (pd_str) (pdl_cons (pd_str) (pdl_cons (pd_tup (pdl_nil)) (pdl_cons (pd_tup (pdl_cons (pd_int) (pdl_cons (pd_tup (pdl_cons (pd_int) (pdl_nil))) (pdl_nil)))) (pdl_cons (pd_lst (pdl_nil)) (pdl_cons (pd_lst (pdl_cons (pd_int) (pdl_nil))) (pdl_cons (pd_dict0) (pdl_cons (pd_disp false hu (pdp_cons (pd_str) (pd_int) (pdp_nil)) rfl rfl (by decide) (by decide)) (pdl_cons (pd_op op_pow rd_pow (pd_int) (pd_int)) (pdl_nil)))))))))))))))) (pg1_name (i := 1) (pg_name (i := 1) nd rfl (by first | exact Or.inl rfl | exact Or.inr rfl))))
    (pds_one (pds_ret (pd_call mW_law_of (G_law_of.mono (by decide)) hgd hr (by rfl) g_law_of k_law_of b_law_of (pda_st (pv 0) (pdl_cons (pd_op op_addA rd_add (pd_var (pv 1)) (pd_lst (pdl_cons (pd_call mW_law_next (G_law_next.mono (by decide)) hgd hr (by rfl) g_law_next k_law_next b_law_next (pda_st (pv 0) (pdl_cons (pd_int) (pdl_nil)))) (pdl_cons (pd_op op_mulY rd_mulY (pd_str) (pd_call mW_law_next (G_law_next.mono (by decide)) hgd hr (by rfl) g_law_next k_law_next b_law_next (pda_st (pv 0) (pdl_cons (pd_int) (pdl_nil))))) (pdl_nil))))) (pdl_nil))))))
abbrev s_law_all : Stmt := top 14
theorem sc_law_all : FnScope ["thing", "found"] ["thing"] (defScope s_law_all) := ⟨rfl, rfl, rfl, by decide +kernel, rfl, by decide +kernel, by decide +kernel⟩
def w_law_all (K : PySem.W.Frag) (C_BadGuard : Addr) (C_BadKind : Addr) (C_BadPaper : Addr) (C_BadText : Addr) (C_BadWish : Addr) (C_Nothing : Addr) (C_OutOfPlace : Addr) (C_TooMany : Addr) : FS := fsSeq (fsAsg (fLst (flCons (fMkE C_BadWish (some "part") (fVar 0)) (flCons (fMkE C_BadKind (some "part") (fVar 0)) (flCons (fMkE C_BadGuard (some "part") (fVar 0)) (flCons (fMkE C_BadPaper (some "part") (fVar 0)) (flCons (fMkE C_BadText (some "line") (fVar 0)) (flNil))))))) (fgN 1))
  (fsRet (fOp gAdd (fVar 1) (fLst (flCons (fMkE C_OutOfPlace (none) (fVar 0)) (flCons (fMkE C_Nothing (none) (fVar 0)) (flCons (fMkE C_TooMany (some "most") (fVar 0)) (flNil)))))))
theorem raw_law_all {f : Addr} {fd : FuncData} {C_BadGuard : Addr} {C_BadKind : Addr} {C_BadPaper : Addr} {C_BadText : Addr} {C_BadWish : Addr} {C_Nothing : Addr} {C_OutOfPlace : Addr} {C_TooMany : Addr} {I_BadGuard : Addr} {D_BadGuard : FuncData} {I_BadKind : Addr} {D_BadKind : FuncData} {I_BadPaper : Addr} {D_BadPaper : FuncData} {I_BadText : Addr} {D_BadText : FuncData} {I_BadWish : Addr} {D_BadWish : FuncData} {I_Nothing : Addr} {D_Nothing : FuncData} {I_OutOfPlace : Addr} {D_OutOfPlace : FuncData} {I_TooMany : Addr} {D_TooMany : FuncData} (F : Fun K "_law_all" "_law_all" s_law_all f fd) (T : Txt mg) (m_BadGuard : mg "BadGuard" = some (.ref C_BadGuard)) (m_BadKind : mg "BadKind" = some (.ref C_BadKind)) (m_BadPaper : mg "BadPaper" = some (.ref C_BadPaper)) (m_BadText : mg "BadText" = some (.ref C_BadText)) (m_BadWish : mg "BadWish" = some (.ref C_BadWish)) (m_Nothing : mg "Nothing" = some (.ref C_Nothing)) (m_OutOfPlace : mg "OutOfPlace" = some (.ref C_OutOfPlace)) (m_TooMany : mg "TooMany" = some (.ref C_TooMany)) (Z_BadGuard : ExC K C_BadGuard I_BadGuard) (N_BadGuard : FnOk P w K mg base (L2.CX P w) 1 I_BadGuard D_BadGuard ["self", "part"] (spExA C_BadGuard "part")) (B_BadGuard : Binds K D_BadGuard ["self", "part"] []) (Z_BadKind : ExC K C_BadKind I_BadKind) (N_BadKind : FnOk P w K mg base (L2.CX P w) 1 I_BadKind D_BadKind ["self", "part"] (spExA C_BadKind "part")) (B_BadKind : Binds K D_BadKind ["self", "part"] []) (Z_BadPaper : ExC K C_BadPaper I_BadPaper) (N_BadPaper : FnOk P w K mg base (L2.CX P w) 1 I_BadPaper D_BadPaper ["self", "part"] (spExA C_BadPaper "part")) (B_BadPaper : Binds K D_BadPaper ["self", "part"] []) (Z_BadText : ExC K C_BadText I_BadText) (N_BadText : FnOk P w K mg base (L2.CX P w) 1 I_BadText D_BadText ["self", "line"] (spExA C_BadText "line")) (B_BadText : Binds K D_BadText ["self", "line"] []) (Z_BadWish : ExC K C_BadWish I_BadWish) (N_BadWish : FnOk P w K mg base (L2.CX P w) 1 I_BadWish D_BadWish ["self", "part"] (spExA C_BadWish "part")) (B_BadWish : Binds K D_BadWish ["self", "part"] []) (Z_Nothing : ExB bsLookupError K C_Nothing I_Nothing) (N_Nothing : FnOk P w K mg base (L2.CX P w) 1 I_Nothing D_Nothing ["self", "text"] (spExN C_Nothing)) (B_Nothing : Binds K D_Nothing ["self", "text"] []) (Z_OutOfPlace : ExC K C_OutOfPlace I_OutOfPlace) (N_OutOfPlace : FnOk P w K mg base (L2.CX P w) 1 I_OutOfPlace D_OutOfPlace ["self", "text"] (spExN C_OutOfPlace)) (B_OutOfPlace : Binds K D_OutOfPlace ["self", "text"] []) (Z_TooMany : ExB bsOverflowError K C_TooMany I_TooMany) (N_TooMany : FnOk P w K mg base (L2.CX P w) 1 I_TooMany D_TooMany ["self", "most"] (spExA C_TooMany "most")) (B_TooMany : Binds K D_TooMany ["self", "most"] []) : FnG P w K mg base (L2.CX P w) (3) f fd ["thing"] (spD ⟨K, w, P⟩ M 1 (fBody 2 (w_law_all K C_BadGuard C_BadKind C_BadPaper C_BadText C_BadWish C_Nothing C_OutOfPlace C_TooMany))) := by
  refine fnD F sc_law_all fun cdv A outer s H E hgd hr => ?_
  have nd := (sc_law_all).nd
  have hu : (A.deeper (envOfC "_law_all" (defScope s_law_all) s.heap.objs.size f cdv)).units + 64 < cLine := hr.units
  exact pds_cons (pds_asg (pd_lst (pdl_cons (pd_mkO Z_BadWish N_BadWish (hr.mono (by decide)) B_BadWish (by rfl) m_BadWish (pd_var (pv 0))) (pdl_cons (pd_mkO Z_BadKind N_BadKind (hr.mono (by decide)) B_BadKind (by rfl) m_BadKind (pd_var (pv 0))) (pdl_cons (pd_mkO Z_BadGuard N_BadGuard (hr.mono (by decide)) B_BadGuard (by rfl) m_BadGuard (pd_var (pv 0))) (pdl_cons (pd_mkO Z_BadPaper N_BadPaper (hr.mono (by decide)) B_BadPaper (by rfl) m_BadPaper (pd_var (pv 0))) (pdl_cons (pd_mkO Z_BadText N_BadText (hr.mono (by decide)) B_BadText (by rfl) m_BadText (pd_var (pv 0))) (pdl_nil))))))) (pg1_name (i := 1) (pg_name (i := 1) nd rfl (by first | exact Or.inl rfl | exact Or.inr rfl))))
    (pds_one (pds_ret (pd_op op_addA rd_add (pd_var (pv 1)) (pd_lst (pdl_cons (pd_mkO0 Z_OutOfPlace N_OutOfPlace (hr.mono (by decide)) B_OutOfPlace (by rfl) m_OutOfPlace (pd_var (pv 0))) (pdl_cons (pd_mkB0 okLookupError Z_Nothing N_Nothing (hr.mono (by decide)) B_Nothing (by rfl) m_Nothing (pd_var (pv 0))) (pdl_cons (pd_mkB okOverflowError Z_TooMany N_TooMany (hr.mono (by decide)) B_TooMany (by rfl) m_TooMany (pd_var (pv 0))) (pdl_nil))))))))
abbrev s_law_named : Stmt := top 15
theorem sc_law_named : FnScope ["thing", "found"] ["thing"] (defScope s_law_named) := ⟨rfl, rfl, rfl, by decide +kernel, rfl, by decide +kernel, by decide +kernel⟩
def w_law_named (K : PySem.W.Frag) (C_BadGuard : Addr) (C_BadKind : Addr) (C_BadPaper : Addr) (C_BadText : Addr) (C_BadWish : Addr) (C_Nothing : Addr) (C_OutOfPlace : Addr) (C_TooMany : Addr) : FS := fsSeq (fsAsg (fLst (flCons (fMkE C_BadWish (some "part") (fVar 0)) (flCons (fMkE C_BadKind (some "part") (fVar 0)) (flCons (fMkE C_BadGuard (some "part") (fVar 0)) (flCons (fMkE C_BadPaper (some "part") (fVar 0)) (flNil)))))) (fgN 1))
  (fsRet (fOp gAdd (fVar 1) (fLst (flCons (fMkE C_BadText (some "line") (fVar 0)) (flCons (fMkE C_OutOfPlace (none) (fVar 0)) (flCons (fMkE C_Nothing (none) (fVar 0)) (flCons (fMkE C_TooMany (some "most") (fVar 0)) (flNil))))))))
theorem raw_law_named {f : Addr} {fd : FuncData} {C_BadGuard : Addr} {C_BadKind : Addr} {C_BadPaper : Addr} {C_BadText : Addr} {C_BadWish : Addr} {C_Nothing : Addr} {C_OutOfPlace : Addr} {C_TooMany : Addr} {I_BadGuard : Addr} {D_BadGuard : FuncData} {I_BadKind : Addr} {D_BadKind : FuncData} {I_BadPaper : Addr} {D_BadPaper : FuncData} {I_BadText : Addr} {D_BadText : FuncData} {I_BadWish : Addr} {D_BadWish : FuncData} {I_Nothing : Addr} {D_Nothing : FuncData} {I_OutOfPlace : Addr} {D_OutOfPlace : FuncData} {I_TooMany : Addr} {D_TooMany : FuncData} (F : Fun K "_law_named" "_law_named" s_law_named f fd) (T : Txt mg) (m_BadGuard : mg "BadGuard" = some (.ref C_BadGuard)) (m_BadKind : mg "BadKind" = some (.ref C_BadKind)) (m_BadPaper : mg "BadPaper" = some (.ref C_BadPaper)) (m_BadText : mg "BadText" = some (.ref C_BadText)) (m_BadWish : mg "BadWish" = some (.ref C_BadWish)) (m_Nothing : mg "Nothing" = some (.ref C_Nothing)) (m_OutOfPlace : mg "OutOfPlace" = some (.ref C_OutOfPlace)) (m_TooMany : mg "TooMany" = some (.ref C_TooMany)) (Z_BadGuard : ExC K C_BadGuard I_BadGuard) (N_BadGuard : FnOk P w K mg base (L2.CX P w) 1 I_BadGuard D_BadGuard ["self", "part"] (spExA C_BadGuard "part")) (B_BadGuard : Binds K D_BadGuard ["self", "part"] []) (KI_BadGuard : KwI K D_BadGuard ["self", "part"] "part") (Z_BadKind : ExC K C_BadKind I_BadKind) (N_BadKind : FnOk P w K mg base (L2.CX P w) 1 I_BadKind D_BadKind ["self", "part"] (spExA C_BadKind "part")) (B_BadKind : Binds K D_BadKind ["self", "part"] []) (KI_BadKind : KwI K D_BadKind ["self", "part"] "part") (Z_BadPaper : ExC K C_BadPaper I_BadPaper) (N_BadPaper : FnOk P w K mg base (L2.CX P w) 1 I_BadPaper D_BadPaper ["self", "part"] (spExA C_BadPaper "part")) (B_BadPaper : Binds K D_BadPaper ["self", "part"] []) (KI_BadPaper : KwI K D_BadPaper ["self", "part"] "part") (Z_BadText : ExC K C_BadText I_BadText) (N_BadText : FnOk P w K mg base (L2.CX P w) 1 I_BadText D_BadText ["self", "line"] (spExA C_BadText "line")) (B_BadText : Binds K D_BadText ["self", "line"] []) (KI_BadText : KwI K D_BadText ["self", "line"] "line") (Z_BadWish : ExC K C_BadWish I_BadWish) (N_BadWish : FnOk P w K mg base (L2.CX P w) 1 I_BadWish D_BadWish ["self", "part"] (spExA C_BadWish "part")) (B_BadWish : Binds K D_BadWish ["self", "part"] []) (KI_BadWish : KwI K D_BadWish ["self", "part"] "part") (Z_Nothing : ExB bsLookupError K C_Nothing I_Nothing) (N_Nothing : FnOk P w K mg base (L2.CX P w) 1 I_Nothing D_Nothing ["self", "text"] (spExN C_Nothing)) (B_Nothing : Binds K D_Nothing ["self", "text"] []) (KI_Nothing : KwI K D_Nothing ["self", "text"] "text") (Z_OutOfPlace : ExC K C_OutOfPlace I_OutOfPlace) (N_OutOfPlace : FnOk P w K mg base (L2.CX P w) 1 I_OutOfPlace D_OutOfPlace ["self", "text"] (spExN C_OutOfPlace)) (B_OutOfPlace : Binds K D_OutOfPlace ["self", "text"] []) (KI_OutOfPlace : KwI K D_OutOfPlace ["self", "text"] "text") (Z_TooMany : ExB bsOverflowError K C_TooMany I_TooMany) (N_TooMany : FnOk P w K mg base (L2.CX P w) 1 I_TooMany D_TooMany ["self", "most"] (spExA C_TooMany "most")) (B_TooMany : Binds K D_TooMany ["self", "most"] []) (KI_TooMany : KwI K D_TooMany ["self", "most"] "most") : FnG P w K mg base (L2.CX P w) (3) f fd ["thing"] (spD ⟨K, w, P⟩ M 1 (fBody 2 (w_law_named K C_BadGuard C_BadKind C_BadPaper C_BadText C_BadWish C_Nothing C_OutOfPlace C_TooMany))) := by
  refine fnD F sc_law_named fun cdv A outer s H E hgd hr => ?_
  have nd := (sc_law_named).nd
  have hu : (A.deeper (envOfC "_law_named" (defScope s_law_named) s.heap.objs.size f cdv)).units + 64 < cLine := hr.units
  exact pds_cons (pds_asg (pd_lst (pdl_cons (pd_mkK (ExC.k Z_BadWish).choose_spec N_BadWish (hr.mono (by decide)) KI_BadWish (by rfl) m_BadWish (pd_var (pv 0))) (pdl_cons (pd_mkK (ExC.k Z_BadKind).choose_spec N_BadKind (hr.mono (by decide)) KI_BadKind (by rfl) m_BadKind (pd_var (pv 0))) (pdl_cons (pd_mkK (ExC.k Z_BadGuard).choose_spec N_BadGuard (hr.mono (by decide)) KI_BadGuard (by rfl) m_BadGuard (pd_var (pv 0))) (pdl_cons (pd_mkK (ExC.k Z_BadPaper).choose_spec N_BadPaper (hr.mono (by decide)) KI_BadPaper (by rfl) m_BadPaper (pd_var (pv 0))) (pdl_nil)))))) (pg1_name (i := 1) (pg_name (i := 1) nd rfl (by first | exact Or.inl rfl | exact Or.inr rfl))))
    (pds_one (pds_ret (pd_op op_addA rd_add (pd_var (pv 1)) (pd_lst (pdl_cons (pd_mkK (ExC.k Z_BadText).choose_spec N_BadText (hr.mono (by decide)) KI_BadText (by rfl) m_BadText (pd_var (pv 0))) (pdl_cons (pd_mkK0 (ExC.k Z_OutOfPlace).choose_spec N_OutOfPlace (hr.mono (by decide)) KI_OutOfPlace (by rfl) m_OutOfPlace (pd_var (pv 0))) (pdl_cons (pd_mkK0 (ExB.k okLookupError Z_Nothing) N_Nothing (hr.mono (by decide)) KI_Nothing (by rfl) m_Nothing (pd_var (pv 0))) (pdl_cons (pd_mkK (ExB.k okOverflowError Z_TooMany) N_TooMany (hr.mono (by decide)) KI_TooMany (by rfl) m_TooMany (pd_var (pv 0))) (pdl_nil)))))))))
abbrev s_law_fields : Stmt := top 16
theorem sc_law_fields : FnScope ["some", "found"] ["some"] (defScope s_law_fields) := ⟨rfl, rfl, rfl, by decide +kernel, rfl, by decide +kernel, by decide +kernel⟩
def w_law_fields (K : PySem.W.Frag) (C_BadGuard : Addr) (C_BadKind : Addr) (C_BadPaper : Addr) (C_BadText : Addr) (C_BadWish : Addr) (C_Nothing : Addr) (C_OutOfPlace : Addr) (C_TooMany : Addr) : FS := fsSeq (fsAsg (fLst (flCons (fErA K "part" (fOp gIxX (fVar 0) (fC (.int 0)))) (flCons (fErA K "part" (fOp gIxX (fVar 0) (fC (.int 1)))) (flCons (fErA K "part" (fOp gIxX (fVar 0) (fC (.int 2)))) (flCons (fErA K "part" (fOp gIxX (fVar 0) (fC (.int 3)))) (flNil)))))) (fgN 1))
  (fsRet (fOp gAdd (fVar 1) (fLst (flCons (fErA K "line" (fOp gIxX (fVar 0) (fC (.int 4)))) (flCons (fErA K "most" (fOp gIxX (fVar 0) (fC (.int 7)))) (flNil))))))
theorem raw_law_fields {f : Addr} {fd : FuncData} {C_BadGuard : Addr} {C_BadKind : Addr} {C_BadPaper : Addr} {C_BadText : Addr} {C_BadWish : Addr} {C_Nothing : Addr} {C_OutOfPlace : Addr} {C_TooMany : Addr} (F : Fun K "_law_fields" "_law_fields" s_law_fields f fd) (T : Txt mg) (m_BadGuard : mg "BadGuard" = some (.ref C_BadGuard)) (m_BadKind : mg "BadKind" = some (.ref C_BadKind)) (m_BadPaper : mg "BadPaper" = some (.ref C_BadPaper)) (m_BadText : mg "BadText" = some (.ref C_BadText)) (m_BadWish : mg "BadWish" = some (.ref C_BadWish)) (m_Nothing : mg "Nothing" = some (.ref C_Nothing)) (m_OutOfPlace : mg "OutOfPlace" = some (.ref C_OutOfPlace)) (m_TooMany : mg "TooMany" = some (.ref C_TooMany)) : FnG P w K mg base (L2.CX P w) (1) f fd ["some"] (spD ⟨K, w, P⟩ M 1 (fBody 2 (w_law_fields K C_BadGuard C_BadKind C_BadPaper C_BadText C_BadWish C_Nothing C_OutOfPlace C_TooMany))) := by
  refine fnD F sc_law_fields fun cdv A outer s H E hgd hr => ?_
  have nd := (sc_law_fields).nd
  have hu : (A.deeper (envOfC "_law_fields" (defScope s_law_fields) s.heap.objs.size f cdv)).units + 64 < cLine := hr.units
  exact pds_cons (pds_asg (pd_lst (pdl_cons (pd_errA (pd_ix (ix_X hu) rd_ixX (pd_var (pv 0)) (pd_int) (fun _ _ => rfl))) (pdl_cons (pd_errA (pd_ix (ix_X hu) rd_ixX (pd_var (pv 0)) (pd_int) (fun _ _ => rfl))) (pdl_cons (pd_errA (pd_ix (ix_X hu) rd_ixX (pd_var (pv 0)) (pd_int) (fun _ _ => rfl))) (pdl_cons (pd_errA (pd_ix (ix_X hu) rd_ixX (pd_var (pv 0)) (pd_int) (fun _ _ => rfl))) (pdl_nil)))))) (pg1_name (i := 1) (pg_name (i := 1) nd rfl (by first | exact Or.inl rfl | exact Or.inr rfl))))
    (pds_one (pds_ret (pd_op op_addA rd_add (pd_var (pv 1)) (pd_lst (pdl_cons (pd_errA (pd_ix (ix_X hu) rd_ixX (pd_var (pv 0)) (pd_int) (fun _ _ => rfl))) (pdl_cons (pd_errA (pd_ix (ix_X hu) rd_ixX (pd_var (pv 0)) (pd_int) (fun _ _ => rfl))) (pdl_nil)))))))
abbrev s_law_marks : Stmt := top 17
theorem sc_law_marks : FnScope ["error", "found"] ["error"] (defScope s_law_marks) := ⟨rfl, rfl, rfl, by decide +kernel, rfl, by decide +kernel, by decide +kernel⟩
def w_law_marks (K : PySem.W.Frag) (C_BadGuard : Addr) (C_BadKind : Addr) (C_BadPaper : Addr) (C_BadText : Addr) (C_BadWish : Addr) (C_Nothing : Addr) (C_OutOfPlace : Addr) (C_TooMany : Addr) : FS := fsSeq (fsAsg (fLst (flCons (fIsErD K (.ref C_BadWish) (fVar 0)) (flCons (fIsErD K (.ref C_BadKind) (fVar 0)) (flCons (fIsErD K (.ref C_BadGuard) (fVar 0)) (flNil))))) (fgN 1))
  (fsSeq (fsAsg (fOp gAdd (fVar 1) (fLst (flCons (fIsErD K (.ref C_BadPaper) (fVar 0)) (flCons (fIsErD K (.ref C_BadText) (fVar 0)) (flCons (fIsErD K (.ref C_OutOfPlace) (fVar 0)) (flNil)))))) (fgN 1))
  (fsSeq (fsAsg (fOp gAdd (fVar 1) (fLst (flCons (fIsErD K (.ref C_Nothing) (fVar 0)) (flCons (fIsErD K (.ref C_TooMany) (fVar 0)) (flCons (fIsErD K (.type "ValueError") (fVar 0)) (flNil)))))) (fgN 1))
  (fsSeq (fsAsg (fOp gAdd (fVar 1) (fLst (flCons (fIsErD K (.type "LookupError") (fVar 0)) (flCons (fIsErD K (.type "OverflowError") (fVar 0)) (flCons (fIsErD K (.type "KeyError") (fVar 0)) (flNil)))))) (fgN 1))
  (fsRet (fOp gAdd (fVar 1) (fLst (flCons (fIsErD K (.type "IndexError") (fVar 0)) (flCons (fIsErD K (.type "RuntimeError") (fVar 0)) (flNil)))))))))
theorem raw_law_marks {f : Addr} {fd : FuncData} {C_BadGuard : Addr} {C_BadKind : Addr} {C_BadPaper : Addr} {C_BadText : Addr} {C_BadWish : Addr} {C_Nothing : Addr} {C_OutOfPlace : Addr} {C_TooMany : Addr} (F : Fun K "_law_marks" "_law_marks" s_law_marks f fd) (T : Txt mg) (m_BadGuard : mg "BadGuard" = some (.ref C_BadGuard)) (m_BadKind : mg "BadKind" = some (.ref C_BadKind)) (m_BadPaper : mg "BadPaper" = some (.ref C_BadPaper)) (m_BadText : mg "BadText" = some (.ref C_BadText)) (m_BadWish : mg "BadWish" = some (.ref C_BadWish)) (m_Nothing : mg "Nothing" = some (.ref C_Nothing)) (m_OutOfPlace : mg "OutOfPlace" = some (.ref C_OutOfPlace)) (m_TooMany : mg "TooMany" = some (.ref C_TooMany)) : FnQ P w K mg base (L2.CX P w) (1) f fd ["error"] (spD ⟨K, w, P⟩ M 1 (fBody 2 (w_law_marks K C_BadGuard C_BadKind C_BadPaper C_BadText C_BadWish C_Nothing C_OutOfPlace C_TooMany))) := by
  refine fnQ F sc_law_marks fun cdv A outer s H E hgd hr => ?_
  have nd := (sc_law_marks).nd
  have hu : (A.deeper (envOfC "_law_marks" (defScope s_law_marks) s.heap.objs.size f cdv)).units + 64 < cLine := by have := hr.un; omega
  exact pds_cons (pds_asg (pd_lst (pdl_cons (pd_isErD (v := .ref C_BadWish) (by rfl) T.isinstance (pd_var (pv 0)) (pe_nameR ⟨by rfl, by decide, .inl m_BadWish⟩) (fun _ h => h)) (pdl_cons (pd_isErD (v := .ref C_BadKind) (by rfl) T.isinstance (pd_var (pv 0)) (pe_nameR ⟨by rfl, by decide, .inl m_BadKind⟩) (fun _ h => h)) (pdl_cons (pd_isErD (v := .ref C_BadGuard) (by rfl) T.isinstance (pd_var (pv 0)) (pe_nameR ⟨by rfl, by decide, .inl m_BadGuard⟩) (fun _ h => h)) (pdl_nil))))) (pg1_name (i := 1) (pg_name (i := 1) nd rfl (by first | exact Or.inl rfl | exact Or.inr rfl))))
    (pds_cons (pds_asg (pd_op op_addA rd_add (pd_var (pv 1)) (pd_lst (pdl_cons (pd_isErD (v := .ref C_BadPaper) (by rfl) T.isinstance (pd_var (pv 0)) (pe_nameR ⟨by rfl, by decide, .inl m_BadPaper⟩) (fun _ h => h)) (pdl_cons (pd_isErD (v := .ref C_BadText) (by rfl) T.isinstance (pd_var (pv 0)) (pe_nameR ⟨by rfl, by decide, .inl m_BadText⟩) (fun _ h => h)) (pdl_cons (pd_isErD (v := .ref C_OutOfPlace) (by rfl) T.isinstance (pd_var (pv 0)) (pe_nameR ⟨by rfl, by decide, .inl m_OutOfPlace⟩) (fun _ h => h)) (pdl_nil)))))) (pg1_name (i := 1) (pg_name (i := 1) nd rfl (by first | exact Or.inl rfl | exact Or.inr rfl))))
    (pds_cons (pds_asg (pd_op op_addA rd_add (pd_var (pv 1)) (pd_lst (pdl_cons (pd_isErD (v := .ref C_Nothing) (by rfl) T.isinstance (pd_var (pv 0)) (pe_nameR ⟨by rfl, by decide, .inl m_Nothing⟩) (fun _ h => h)) (pdl_cons (pd_isErD (v := .ref C_TooMany) (by rfl) T.isinstance (pd_var (pv 0)) (pe_nameR ⟨by rfl, by decide, .inl m_TooMany⟩) (fun _ h => h)) (pdl_cons (pd_isErD (v := .ty "ValueError") (by rfl) T.isinstance (pd_var (pv 0)) (pe_tyName (by rfl) T.ValueError (by decide +kernel)) (fun _ h => h)) (pdl_nil)))))) (pg1_name (i := 1) (pg_name (i := 1) nd rfl (by first | exact Or.inl rfl | exact Or.inr rfl))))
    (pds_cons (pds_asg (pd_op op_addA rd_add (pd_var (pv 1)) (pd_lst (pdl_cons (pd_isErD (v := .ty "LookupError") (by rfl) T.isinstance (pd_var (pv 0)) (pe_tyName (by rfl) T.LookupError (by decide +kernel)) (fun _ h => h)) (pdl_cons (pd_isErD (v := .ty "OverflowError") (by rfl) T.isinstance (pd_var (pv 0)) (pe_tyName (by rfl) T.OverflowError (by decide +kernel)) (fun _ h => h)) (pdl_cons (pd_isErD (v := .ty "KeyError") (by rfl) T.isinstance (pd_var (pv 0)) (pe_tyName (by rfl) T.KeyError (by decide +kernel)) (fun _ h => h)) (pdl_nil)))))) (pg1_name (i := 1) (pg_name (i := 1) nd rfl (by first | exact Or.inl rfl | exact Or.inr rfl))))
    (pds_one (pds_ret (pd_op op_addA rd_add (pd_var (pv 1)) (pd_lst (pdl_cons (pd_isErD (v := .ty "IndexError") (by rfl) T.isinstance (pd_var (pv 0)) (pe_tyName (by rfl) T.IndexError (by decide +kernel)) (fun _ h => h)) (pdl_cons (pd_isErD (v := .ty "RuntimeError") (by rfl) T.isinstance (pd_var (pv 0)) (pe_tyName (by rfl) T.RuntimeError (by decide +kernel)) (fun _ h => h)) (pdl_nil))))))))))
abbrev s_law_due : Stmt := top 18
theorem sc_law_due : FnScope ["own", "above", "k"] ["own"] (defScope s_law_due) := ⟨rfl, rfl, rfl, by decide +kernel, rfl, by decide +kernel, by decide +kernel⟩
def w_law_due : FS := fsSeq (fsAsg (fIf (ftB (fOp gLt (fVar 0) (fC (.int 6)))) (fC (.int 8)) (fIf (ftB (fOp gEqA (fVar 0) (fC (.int 6)))) (fC (.int 9)) (fC (.int 10)))) (fgN 1))
  (fsRet (fOfN (fnComp (fiRange1 (flCons (fC (.int 14)) (flNil))) (fgN 2) (ftYes) (fOp gInX (fVar 2) (fTup (flCons (fVar 0) (flCons (fVar 1) (flNil))))) [2])))
theorem raw_law_due {f : Addr} {fd : FuncData} (F : Fun K "_law_due" "_law_due" s_law_due f fd) (T : Txt mg) : FnG P w K mg base (L2.CX P w) (1) f fd ["own"] (spD ⟨K, w, P⟩ M 1 (fBody 3 w_law_due)) := by
  refine fnD F sc_law_due fun cdv A outer s H E hgd hr => ?_
  have nd := (sc_law_due).nd
  have hu : (A.deeper (envOfC "_law_due" (defScope s_law_due) s.heap.objs.size f cdv)).units + 64 < cLine := hr.units
  exact pds_cons (pds_asg (pd_if (pdt_cmp op_lt rd_cmp (pd_var (pv 0)) (pd_int) (by first | exact nomark _ | rfl)) (pd_int) (pd_if (pdt_cmp (op_eqA hu) rd_eqA (pd_var (pv 0)) (pd_int) (by first | exact nomark _ | rfl)) (pd_int) (pd_int))) (pg1_name (i := 1) (pg_name (i := 1) nd rfl (by first | exact Or.inl rfl | exact Or.inr rfl))))
    (pds_one (pds_ret (pd_ofN (pn_lc rfl nd (own := [("k", 2)]) (vs := [2]) (pdi_range1 (by rfl) T.range (pdl_cons (pd_int) (pdl_nil))) (blkOk_by (own := [("k", 2)]) (N := ["own", "above", "k"]) (sc := defScope s_law_due) (by decide +kernel)) rfl (fun _ _ _ _ _ => pg1_name (i := 2) (pg_name (i := 2) nd rfl (by first | exact Or.inl rfl | exact Or.inr rfl))) (fun _ _ _ _ _ => ptn_nil) (fun _ _ _ _ _ => pd_cmp (op_inX hu) rd_inX (pd_var (pv 2)) (pd_tup (pdl_cons (pd_var (pv 0)) (pdl_cons (pd_var (pv 1)) (pdl_nil)))) (by first | exact nomark _ | rfl)) s))))
abbrev s_law_raised : Stmt := top 19
theorem sc_law_raised : FnScope ["own", "thing"] ["own", "thing"] (defScope s_law_raised) := ⟨rfl, rfl, rfl, by decide +kernel, rfl, by decide +kernel, by decide +kernel⟩
def w_law_raised : FS := fsSeq (fsIf (ftB (fOp gEqA (fVar 0) (fC (.int 0)))) (fsNever) (fsNext))
  (fsSeq (fsIf (ftB (fOp gEqA (fVar 0) (fC (.int 1)))) (fsNever) (fsNext))
  (fsSeq (fsIf (ftB (fOp gEqA (fVar 0) (fC (.int 2)))) (fsNever) (fsNext))
  (fsSeq (fsIf (ftB (fOp gEqA (fVar 0) (fC (.int 3)))) (fsNever) (fsNext))
  (fsSeq (fsIf (ftB (fOp gEqA (fVar 0) (fC (.int 4)))) (fsNever) (fsNext))
  (fsSeq (fsIf (ftB (fOp gEqA (fVar 0) (fC (.int 5)))) (fsNever) (fsNext))
  (fsSeq (fsIf (ftB (fOp gEqA (fVar 0) (fC (.int 6)))) (fsNever) (fsNext))
  (fsNever)))))))
def u_law_raised (C_BadGuard C_BadKind C_BadPaper C_BadText C_BadWish C_Nothing C_OutOfPlace C_TooMany : Addr) : FX := fxOr (fxIf (ftB (fOp gEqA (fVar 0) (fC (.int 0)))) (fxRaise (.ref C_BadWish) (some "part") (fVar 1)) (fxNo)) (fxThen (fsIf (ftB (fOp gEqA (fVar 0) (fC (.int 0)))) (fsNever) (fsNext)) (fxOr (fxIf (ftB (fOp gEqA (fVar 0) (fC (.int 1)))) (fxRaise (.ref C_BadKind) (some "part") (fVar 1)) (fxNo)) (fxThen (fsIf (ftB (fOp gEqA (fVar 0) (fC (.int 1)))) (fsNever) (fsNext)) (fxOr (fxIf (ftB (fOp gEqA (fVar 0) (fC (.int 2)))) (fxRaise (.ref C_BadGuard) (some "part") (fVar 1)) (fxNo)) (fxThen (fsIf (ftB (fOp gEqA (fVar 0) (fC (.int 2)))) (fsNever) (fsNext)) (fxOr (fxIf (ftB (fOp gEqA (fVar 0) (fC (.int 3)))) (fxRaise (.ref C_BadPaper) (some "part") (fVar 1)) (fxNo)) (fxThen (fsIf (ftB (fOp gEqA (fVar 0) (fC (.int 3)))) (fsNever) (fsNext)) (fxOr (fxIf (ftB (fOp gEqA (fVar 0) (fC (.int 4)))) (fxRaise (.ref C_BadText) (some "line") (fVar 1)) (fxNo)) (fxThen (fsIf (ftB (fOp gEqA (fVar 0) (fC (.int 4)))) (fsNever) (fsNext)) (fxOr (fxIf (ftB (fOp gEqA (fVar 0) (fC (.int 5)))) (fxRaise (.ref C_OutOfPlace) (none) (fVar 1)) (fxNo)) (fxThen (fsIf (ftB (fOp gEqA (fVar 0) (fC (.int 5)))) (fsNever) (fsNext)) (fxOr (fxIf (ftB (fOp gEqA (fVar 0) (fC (.int 6)))) (fxRaise (.ref C_Nothing) (none) (fVar 1)) (fxNo)) (fxThen (fsIf (ftB (fOp gEqA (fVar 0) (fC (.int 6)))) (fsNever) (fsNext)) (fxRaise (.ref C_TooMany) (some "most") (fVar 1)))))))))))))))
theorem raw_law_raised {f : Addr} {fd : FuncData} {C_BadGuard : Addr} {C_BadKind : Addr} {C_BadPaper : Addr} {C_BadText : Addr} {C_BadWish : Addr} {C_Nothing : Addr} {C_OutOfPlace : Addr} {C_TooMany : Addr} {I_BadGuard : Addr} {D_BadGuard : FuncData} {I_BadKind : Addr} {D_BadKind : FuncData} {I_BadPaper : Addr} {D_BadPaper : FuncData} {I_BadText : Addr} {D_BadText : FuncData} {I_BadWish : Addr} {D_BadWish : FuncData} {I_Nothing : Addr} {D_Nothing : FuncData} {I_OutOfPlace : Addr} {D_OutOfPlace : FuncData} {I_TooMany : Addr} {D_TooMany : FuncData} (F : Fun K "_law_raised" "_law_raised" s_law_raised f fd) (T : Txt mg) (m_BadGuard : mg "BadGuard" = some (.ref C_BadGuard)) (m_BadKind : mg "BadKind" = some (.ref C_BadKind)) (m_BadPaper : mg "BadPaper" = some (.ref C_BadPaper)) (m_BadText : mg "BadText" = some (.ref C_BadText)) (m_BadWish : mg "BadWish" = some (.ref C_BadWish)) (m_Nothing : mg "Nothing" = some (.ref C_Nothing)) (m_OutOfPlace : mg "OutOfPlace" = some (.ref C_OutOfPlace)) (m_TooMany : mg "TooMany" = some (.ref C_TooMany)) (Z_BadGuard : ExC K C_BadGuard I_BadGuard) (N_BadGuard : FnOk P w K mg base (L2.CX P w) 1 I_BadGuard D_BadGuard ["self", "part"] (spExA C_BadGuard "part")) (B_BadGuard : Binds K D_BadGuard ["self", "part"] []) (Z_BadKind : ExC K C_BadKind I_BadKind) (N_BadKind : FnOk P w K mg base (L2.CX P w) 1 I_BadKind D_BadKind ["self", "part"] (spExA C_BadKind "part")) (B_BadKind : Binds K D_BadKind ["self", "part"] []) (Z_BadPaper : ExC K C_BadPaper I_BadPaper) (N_BadPaper : FnOk P w K mg base (L2.CX P w) 1 I_BadPaper D_BadPaper ["self", "part"] (spExA C_BadPaper "part")) (B_BadPaper : Binds K D_BadPaper ["self", "part"] []) (Z_BadText : ExC K C_BadText I_BadText) (N_BadText : FnOk P w K mg base (L2.CX P w) 1 I_BadText D_BadText ["self", "line"] (spExA C_BadText "line")) (B_BadText : Binds K D_BadText ["self", "line"] []) (Z_BadWish : ExC K C_BadWish I_BadWish) (N_BadWish : FnOk P w K mg base (L2.CX P w) 1 I_BadWish D_BadWish ["self", "part"] (spExA C_BadWish "part")) (B_BadWish : Binds K D_BadWish ["self", "part"] []) (Z_Nothing : ExB bsLookupError K C_Nothing I_Nothing) (N_Nothing : FnOk P w K mg base (L2.CX P w) 1 I_Nothing D_Nothing ["self", "text"] (spExN C_Nothing)) (B_Nothing : Binds K D_Nothing ["self", "text"] []) (Z_OutOfPlace : ExC K C_OutOfPlace I_OutOfPlace) (N_OutOfPlace : FnOk P w K mg base (L2.CX P w) 1 I_OutOfPlace D_OutOfPlace ["self", "text"] (spExN C_OutOfPlace)) (B_OutOfPlace : Binds K D_OutOfPlace ["self", "text"] []) (Z_TooMany : ExB bsOverflowError K C_TooMany I_TooMany) (N_TooMany : FnOk P w K mg base (L2.CX P w) 1 I_TooMany D_TooMany ["self", "most"] (spExA C_TooMany "most")) (B_TooMany : Binds K D_TooMany ["self", "most"] []) : FnG P w K mg base (L2.CX P w) (3) f fd ["own", "thing"] (spX ⟨K, w, P⟩ M 2 (fBody 2 w_law_raised) (fBodyX 2 (u_law_raised C_BadGuard C_BadKind C_BadPaper C_BadText C_BadWish C_Nothing C_OutOfPlace C_TooMany))) := by
  refine fnX F sc_law_raised fun X cdv A outer s H E eX hgd hr tk po => ?_
  subst eX
  have nd := (sc_law_raised).nd
  have hu : (A.deeper (envOfC "_law_raised" (defScope s_law_raised) s.heap.objs.size f cdv)).units + 64 < cLine := hr.units
  refine ⟨?_, ?_⟩
  · exact pds_cons (pds_if (pdt_cmp (op_eqA hu) rd_eqA (pd_var (pv 0)) (pd_int) (by first | exact nomark _ | rfl)) (pds_one (pds_never)) (pds_nil))
          (pds_cons (pds_if (pdt_cmp (op_eqA hu) rd_eqA (pd_var (pv 0)) (pd_int) (by first | exact nomark _ | rfl)) (pds_one (pds_never)) (pds_nil))
          (pds_cons (pds_if (pdt_cmp (op_eqA hu) rd_eqA (pd_var (pv 0)) (pd_int) (by first | exact nomark _ | rfl)) (pds_one (pds_never)) (pds_nil))
          (pds_cons (pds_if (pdt_cmp (op_eqA hu) rd_eqA (pd_var (pv 0)) (pd_int) (by first | exact nomark _ | rfl)) (pds_one (pds_never)) (pds_nil))
          (pds_cons (pds_if (pdt_cmp (op_eqA hu) rd_eqA (pd_var (pv 0)) (pd_int) (by first | exact nomark _ | rfl)) (pds_one (pds_never)) (pds_nil))
          (pds_cons (pds_if (pdt_cmp (op_eqA hu) rd_eqA (pd_var (pv 0)) (pd_int) (by first | exact nomark _ | rfl)) (pds_one (pds_never)) (pds_nil))
          (pds_cons (pds_if (pdt_cmp (op_eqA hu) rd_eqA (pd_var (pv 0)) (pd_int) (by first | exact nomark _ | rfl)) (pds_one (pds_never)) (pds_nil))
          (pds_one (pds_never))))))))
  · exact prs_or (prs_hd (pr_if (pdt_cmp (op_eqA hu) rd_eqA (pd_var (pv 0)) (pd_int) (by first | exact nomark _ | rfl)) (prs_hd (pr_raise rfl tk Z_BadWish N_BadWish (hr.mono (by decide)) B_BadWish (by rfl) m_BadWish (pd_var (pv 1))) (pds_nil)) (prs_no (pds_nil))) (pds_cons (pds_if (pdt_cmp (op_eqA hu) rd_eqA (pd_var (pv 0)) (pd_int) (by first | exact nomark _ | rfl)) (pds_one (pds_never)) (pds_nil))
          (pds_cons (pds_if (pdt_cmp (op_eqA hu) rd_eqA (pd_var (pv 0)) (pd_int) (by first | exact nomark _ | rfl)) (pds_one (pds_never)) (pds_nil))
          (pds_cons (pds_if (pdt_cmp (op_eqA hu) rd_eqA (pd_var (pv 0)) (pd_int) (by first | exact nomark _ | rfl)) (pds_one (pds_never)) (pds_nil))
          (pds_cons (pds_if (pdt_cmp (op_eqA hu) rd_eqA (pd_var (pv 0)) (pd_int) (by first | exact nomark _ | rfl)) (pds_one (pds_never)) (pds_nil))
          (pds_cons (pds_if (pdt_cmp (op_eqA hu) rd_eqA (pd_var (pv 0)) (pd_int) (by first | exact nomark _ | rfl)) (pds_one (pds_never)) (pds_nil))
          (pds_cons (pds_if (pdt_cmp (op_eqA hu) rd_eqA (pd_var (pv 0)) (pd_int) (by first | exact nomark _ | rfl)) (pds_one (pds_never)) (pds_nil))
          (pds_one (pds_never)))))))))
          (prs_tl (pds_if (pdt_cmp (op_eqA hu) rd_eqA (pd_var (pv 0)) (pd_int) (by first | exact nomark _ | rfl)) (pds_one (pds_never)) (pds_nil)) (prs_or (prs_hd (pr_if (pdt_cmp (op_eqA hu) rd_eqA (pd_var (pv 0)) (pd_int) (by first | exact nomark _ | rfl)) (prs_hd (pr_raise rfl tk Z_BadKind N_BadKind (hr.mono (by decide)) B_BadKind (by rfl) m_BadKind (pd_var (pv 1))) (pds_nil)) (prs_no (pds_nil))) (pds_cons (pds_if (pdt_cmp (op_eqA hu) rd_eqA (pd_var (pv 0)) (pd_int) (by first | exact nomark _ | rfl)) (pds_one (pds_never)) (pds_nil))
          (pds_cons (pds_if (pdt_cmp (op_eqA hu) rd_eqA (pd_var (pv 0)) (pd_int) (by first | exact nomark _ | rfl)) (pds_one (pds_never)) (pds_nil))
          (pds_cons (pds_if (pdt_cmp (op_eqA hu) rd_eqA (pd_var (pv 0)) (pd_int) (by first | exact nomark _ | rfl)) (pds_one (pds_never)) (pds_nil))
          (pds_cons (pds_if (pdt_cmp (op_eqA hu) rd_eqA (pd_var (pv 0)) (pd_int) (by first | exact nomark _ | rfl)) (pds_one (pds_never)) (pds_nil))
          (pds_cons (pds_if (pdt_cmp (op_eqA hu) rd_eqA (pd_var (pv 0)) (pd_int) (by first | exact nomark _ | rfl)) (pds_one (pds_never)) (pds_nil))
          (pds_one (pds_never))))))))
          (prs_tl (pds_if (pdt_cmp (op_eqA hu) rd_eqA (pd_var (pv 0)) (pd_int) (by first | exact nomark _ | rfl)) (pds_one (pds_never)) (pds_nil)) (prs_or (prs_hd (pr_if (pdt_cmp (op_eqA hu) rd_eqA (pd_var (pv 0)) (pd_int) (by first | exact nomark _ | rfl)) (prs_hd (pr_raise rfl tk Z_BadGuard N_BadGuard (hr.mono (by decide)) B_BadGuard (by rfl) m_BadGuard (pd_var (pv 1))) (pds_nil)) (prs_no (pds_nil))) (pds_cons (pds_if (pdt_cmp (op_eqA hu) rd_eqA (pd_var (pv 0)) (pd_int) (by first | exact nomark _ | rfl)) (pds_one (pds_never)) (pds_nil))
          (pds_cons (pds_if (pdt_cmp (op_eqA hu) rd_eqA (pd_var (pv 0)) (pd_int) (by first | exact nomark _ | rfl)) (pds_one (pds_never)) (pds_nil))
          (pds_cons (pds_if (pdt_cmp (op_eqA hu) rd_eqA (pd_var (pv 0)) (pd_int) (by first | exact nomark _ | rfl)) (pds_one (pds_never)) (pds_nil))
          (pds_cons (pds_if (pdt_cmp (op_eqA hu) rd_eqA (pd_var (pv 0)) (pd_int) (by first | exact nomark _ | rfl)) (pds_one (pds_never)) (pds_nil))
          (pds_one (pds_never)))))))
          (prs_tl (pds_if (pdt_cmp (op_eqA hu) rd_eqA (pd_var (pv 0)) (pd_int) (by first | exact nomark _ | rfl)) (pds_one (pds_never)) (pds_nil)) (prs_or (prs_hd (pr_if (pdt_cmp (op_eqA hu) rd_eqA (pd_var (pv 0)) (pd_int) (by first | exact nomark _ | rfl)) (prs_hd (pr_raise rfl tk Z_BadPaper N_BadPaper (hr.mono (by decide)) B_BadPaper (by rfl) m_BadPaper (pd_var (pv 1))) (pds_nil)) (prs_no (pds_nil))) (pds_cons (pds_if (pdt_cmp (op_eqA hu) rd_eqA (pd_var (pv 0)) (pd_int) (by first | exact nomark _ | rfl)) (pds_one (pds_never)) (pds_nil))
          (pds_cons (pds_if (pdt_cmp (op_eqA hu) rd_eqA (pd_var (pv 0)) (pd_int) (by first | exact nomark _ | rfl)) (pds_one (pds_never)) (pds_nil))
          (pds_cons (pds_if (pdt_cmp (op_eqA hu) rd_eqA (pd_var (pv 0)) (pd_int) (by first | exact nomark _ | rfl)) (pds_one (pds_never)) (pds_nil))
          (pds_one (pds_never))))))
          (prs_tl (pds_if (pdt_cmp (op_eqA hu) rd_eqA (pd_var (pv 0)) (pd_int) (by first | exact nomark _ | rfl)) (pds_one (pds_never)) (pds_nil)) (prs_or (prs_hd (pr_if (pdt_cmp (op_eqA hu) rd_eqA (pd_var (pv 0)) (pd_int) (by first | exact nomark _ | rfl)) (prs_hd (pr_raise rfl tk Z_BadText N_BadText (hr.mono (by decide)) B_BadText (by rfl) m_BadText (pd_var (pv 1))) (pds_nil)) (prs_no (pds_nil))) (pds_cons (pds_if (pdt_cmp (op_eqA hu) rd_eqA (pd_var (pv 0)) (pd_int) (by first | exact nomark _ | rfl)) (pds_one (pds_never)) (pds_nil))
          (pds_cons (pds_if (pdt_cmp (op_eqA hu) rd_eqA (pd_var (pv 0)) (pd_int) (by first | exact nomark _ | rfl)) (pds_one (pds_never)) (pds_nil))
          (pds_one (pds_never)))))
          (prs_tl (pds_if (pdt_cmp (op_eqA hu) rd_eqA (pd_var (pv 0)) (pd_int) (by first | exact nomark _ | rfl)) (pds_one (pds_never)) (pds_nil)) (prs_or (prs_hd (pr_if (pdt_cmp (op_eqA hu) rd_eqA (pd_var (pv 0)) (pd_int) (by first | exact nomark _ | rfl)) (prs_hd (pr_raise0 rfl tk Z_OutOfPlace N_OutOfPlace (hr.mono (by decide)) B_OutOfPlace (by rfl) m_OutOfPlace (pd_var (pv 1))) (pds_nil)) (prs_no (pds_nil))) (pds_cons (pds_if (pdt_cmp (op_eqA hu) rd_eqA (pd_var (pv 0)) (pd_int) (by first | exact nomark _ | rfl)) (pds_one (pds_never)) (pds_nil))
          (pds_one (pds_never))))
          (prs_tl (pds_if (pdt_cmp (op_eqA hu) rd_eqA (pd_var (pv 0)) (pd_int) (by first | exact nomark _ | rfl)) (pds_one (pds_never)) (pds_nil)) (prs_or (prs_hd (pr_if (pdt_cmp (op_eqA hu) rd_eqA (pd_var (pv 0)) (pd_int) (by first | exact nomark _ | rfl)) (prs_hd (pr_raise0B rfl tk okLookupError Z_Nothing N_Nothing (hr.mono (by decide)) B_Nothing (by rfl) m_Nothing (pd_var (pv 1))) (pds_nil)) (prs_no (pds_nil))) (pds_one (pds_never)))
          (prs_tl (pds_if (pdt_cmp (op_eqA hu) rd_eqA (pd_var (pv 0)) (pd_int) (by first | exact nomark _ | rfl)) (pds_one (pds_never)) (pds_nil)) (prs_hd (pr_raiseB rfl tk okOverflowError Z_TooMany N_TooMany (hr.mono (by decide)) B_TooMany (by rfl) m_TooMany (pd_var (pv 1))) (pds_nil)))))))))))))))
abbrev s_law_caught : Stmt := top 20
theorem sc_law_caught : FnScope ["own", "thing", "found", "e"] ["own", "thing"] (defScope s_law_caught) := ⟨rfl, rfl, rfl, by decide +kernel, rfl, by decide +kernel, by decide +kernel⟩
def w_law_caught (K : PySem.W.Frag) (C_BadGuard : Addr) (C_BadKind : Addr) (C_BadPaper : Addr) (C_BadText : Addr) (C_BadWish : Addr) (C_Nothing : Addr) (C_OutOfPlace : Addr) (C_TooMany : Addr) : FS := fsSeq (fsAsg (fLst (flNil)) (fgN 2))
  (fsSeq (fsTryD K (fsDrop (fCall 2 W_law_raised (faD (flCons (fVar 0) (flCons (fVar 1) (flNil)))))) (fxCall 2 (U_law_raised C_BadGuard C_BadKind C_BadPaper C_BadText C_BadWish C_Nothing C_OutOfPlace C_TooMany) (faD (flCons (fVar 0) (flCons (fVar 1) (flNil))))) 3 (([.ref C_BadWish, .ref C_BadKind, .ref C_BadGuard, .ref C_BadPaper, .ref C_BadText, .ref C_OutOfPlace], fsAsg (fCall 1 (W_law_marks C_BadGuard C_BadKind C_BadPaper C_BadText C_BadWish C_Nothing C_OutOfPlace C_TooMany) (faD (flCons (fVar 3) (flNil)))) (fgN 2)) :: ([.ref C_Nothing, .ref C_TooMany], fsAsg (fCall 1 (W_law_marks C_BadGuard C_BadKind C_BadPaper C_BadText C_BadWish C_Nothing C_OutOfPlace C_TooMany) (faD (flCons (fVar 3) (flNil)))) (fgN 2)) :: []))
  (fsRet (fVar 2)))
theorem raw_law_caught {f : Addr} {fd : FuncData} {a_law_marks : Addr} {d_law_marks : FuncData} {a_law_raised : Addr} {d_law_raised : FuncData} {C_BadGuard : Addr} {C_BadKind : Addr} {C_BadPaper : Addr} {C_BadText : Addr} {C_BadWish : Addr} {C_Nothing : Addr} {C_OutOfPlace : Addr} {C_TooMany : Addr} (F : Fun K "_law_caught" "_law_caught" s_law_caught f fd) (T : Txt mg) (g_law_marks : mg "_law_marks" = some (.ref a_law_marks)) (g_law_raised : mg "_law_raised" = some (.ref a_law_raised)) (m_BadGuard : mg "BadGuard" = some (.ref C_BadGuard)) (m_BadKind : mg "BadKind" = some (.ref C_BadKind)) (m_BadPaper : mg "BadPaper" = some (.ref C_BadPaper)) (m_BadText : mg "BadText" = some (.ref C_BadText)) (m_BadWish : mg "BadWish" = some (.ref C_BadWish)) (m_Nothing : mg "Nothing" = some (.ref C_Nothing)) (m_OutOfPlace : mg "OutOfPlace" = some (.ref C_OutOfPlace)) (m_TooMany : mg "TooMany" = some (.ref C_TooMany)) (G_law_marks : FnQ P w K mg base (L2.CX P w) 1 a_law_marks d_law_marks ["error"] (spD ⟨K, w, P⟩ M 1 (W_law_marks C_BadGuard C_BadKind C_BadPaper C_BadText C_BadWish C_Nothing C_OutOfPlace C_TooMany))) (b_law_marks : Binds K d_law_marks ["error"] []) (k_law_marks : PySem.W.keepIn K (.ref a_law_marks) = true) (G_law_raised : FnG P w K mg base (L2.CX P w) 3 a_law_raised d_law_raised ["own", "thing"] (spX ⟨K, w, P⟩ M 2 W_law_raised (U_law_raised C_BadGuard C_BadKind C_BadPaper C_BadText C_BadWish C_Nothing C_OutOfPlace C_TooMany))) (b_law_raised : Binds K d_law_raised ["own", "thing"] []) (k_law_raised : PySem.W.keepIn K (.ref a_law_raised) = true) : FnG P w K mg base (L2.CX P w) (4) f fd ["own", "thing"] (spD ⟨K, w, P⟩ M 2 (fBody 4 (w_law_caught K C_BadGuard C_BadKind C_BadPaper C_BadText C_BadWish C_Nothing C_OutOfPlace C_TooMany))) := by
  refine fnD F sc_law_caught fun cdv A outer s H E hgd hr => ?_
  have nd := (sc_law_caught).nd
  have hu : (A.deeper (envOfC "_law_caught" (defScope s_law_caught) s.heap.objs.size f cdv)).units + 64 < cLine := hr.units
  exact pds_cons (pds_asg (pd_lst (pdl_nil)) (pg1_name (i := 2) (pg_name (i := 2) nd rfl (by first | exact Or.inl rfl | exact Or.inr rfl))))
    (pds_cons (pds_try_dat (i := 3) rfl rfl (fun Y W pn xe eY tk po => by subst eY; exact ⟨pds_one (pds_expr (pd_call mW_law_raised (G_law_raised.left.mono (by decide)) hgd hr (by rfl) g_law_raised k_law_raised b_law_raised (pda_d (pdl_cons (pd_var (pv 0)) (pdl_cons (pd_var (pv 1)) (pdl_nil)))))), prs_hd (pr_expr (px_call tk (mU_law_raised C_BadGuard C_BadKind C_BadPaper C_BadText C_BadWish C_Nothing C_OutOfPlace C_TooMany) (G_law_raised.right.mono (by decide)) hgd hr (by rfl) g_law_raised k_law_raised b_law_raised (pda_d (pdl_cons (pd_var (pv 0)) (pdl_cons (pd_var (pv 1)) (pdl_nil)))))) (pds_nil)⟩) nd rfl rfl (.cons (.cons ⟨by rfl, by decide, .inl m_BadWish⟩ (.cons ⟨by rfl, by decide, .inl m_BadKind⟩ (.cons ⟨by rfl, by decide, .inl m_BadGuard⟩ (.cons ⟨by rfl, by decide, .inl m_BadPaper⟩ (.cons ⟨by rfl, by decide, .inl m_BadText⟩ (.cons ⟨by rfl, by decide, .inl m_OutOfPlace⟩ .nil)))))) (Nat.le_of_ble_eq_true rfl) (fun a pn => pds_one (pds_asg (pd_callQ (mW_law_marks C_BadGuard C_BadKind C_BadPaper C_BadText C_BadWish C_Nothing C_OutOfPlace C_TooMany) (G_law_marks.mono (by decide)) hgd (roomQ hr) (by rfl) g_law_marks k_law_marks b_law_marks (pda_d (pdl_cons (pd_var (pv 3)) (pdl_nil)))) (pg1_name (i := 2) (pg_name (i := 2) nd rfl (by first | exact Or.inl rfl | exact Or.inr rfl))))) (.cons (.cons ⟨by rfl, by decide, .inl m_Nothing⟩ (.cons ⟨by rfl, by decide, .inl m_TooMany⟩ .nil)) (Nat.le_of_ble_eq_true rfl) (fun a pn => pds_one (pds_asg (pd_callQ (mW_law_marks C_BadGuard C_BadKind C_BadPaper C_BadText C_BadWish C_Nothing C_OutOfPlace C_TooMany) (G_law_marks.mono (by decide)) hgd (roomQ hr) (by rfl) g_law_marks k_law_marks b_law_marks (pda_d (pdl_cons (pd_var (pv 3)) (pdl_nil)))) (pg1_name (i := 2) (pg_name (i := 2) nd rfl (by first | exact Or.inl rfl | exact Or.inr rfl))))) (.nil))))
    (pds_one (pds_ret (pd_var (pv 2)))))
abbrev s_law : Stmt := top 21
theorem sc_law : FnScope ["script", "m", "lap", "thing", "held", "some", "error", "own"] ["script"] (defScope s_law) := ⟨rfl, rfl, rfl, by decide +kernel, rfl, by decide +kernel, by decide +kernel⟩
def b_law_1 (C_BadGuard : Addr) (C_BadKind : Addr) (C_BadPaper : Addr) (C_BadText : Addr) (C_BadWish : Addr) (C_Nothing : Addr) (C_OutOfPlace : Addr) (C_TooMany : Addr) : FS := fsSeq (fsIf (ftB (fOp gNeA (fUn gReprP (fCall 1 (W_law_fields C_BadGuard C_BadKind C_BadPaper C_BadText C_BadWish C_Nothing C_OutOfPlace C_TooMany) (faD (flCons (fVar 5) (flNil))))) (fVar 4))) (fsRet (fC (.bool false))) (fsNext))
  (fsIf (ftB (fOp gNeA (fOfN (fnComp (fiAny (fVar 5)) (fgN 6) (ftYes) (fCall 1 (W_law_marks C_BadGuard C_BadKind C_BadPaper C_BadText C_BadWish C_Nothing C_OutOfPlace C_TooMany) (faD (flCons (fVar 6) (flNil)))) [6])) (fOfN (fnComp (fiRange1 (flCons (fC (.int 8)) (flNil))) (fgN 7) (ftYes) (fCall 1 W_law_due (faD (flCons (fVar 7) (flNil)))) [7])))) (fsRet (fC (.bool false))) (fsNext))
def b_law_2 (C_BadGuard : Addr) (C_BadKind : Addr) (C_BadPaper : Addr) (C_BadText : Addr) (C_BadWish : Addr) (C_Nothing : Addr) (C_OutOfPlace : Addr) (C_TooMany : Addr) : FS := fsSeq (fsAsg (fCall 1 W_law_thing (faSt 1 (flNil))) (fgN 3))
  (fsSeq (fsAsg (fUn gReprP (fOp gMulX (fLst (flCons (fVar 3) (flNil))) (fC (.int 6)))) (fgN 4))
  (fsSeq (fsFor (fiAny (fTup (flCons (fCall 1 (W_law_all C_BadGuard C_BadKind C_BadPaper C_BadText C_BadWish C_Nothing C_OutOfPlace C_TooMany) (faD (flCons (fVar 3) (flNil)))) (flCons (fCall 1 (W_law_named C_BadGuard C_BadKind C_BadPaper C_BadText C_BadWish C_Nothing C_OutOfPlace C_TooMany) (faD (flCons (fVar 3) (flNil)))) (flNil))))) (fgN 5) (b_law_1 C_BadGuard C_BadKind C_BadPaper C_BadText C_BadWish C_Nothing C_OutOfPlace C_TooMany))
  (fsIf (ftB (fOp gNeA (fOfN (fnComp (fiRange1 (flCons (fC (.int 8)) (flNil))) (fgN 7) (ftYes) (fCall 2 (W_law_caught C_BadGuard C_BadKind C_BadPaper C_BadText C_BadWish C_Nothing C_OutOfPlace C_TooMany) (faD (flCons (fVar 7) (flCons (fVar 3) (flNil))))) [7])) (fOfN (fnComp (fiRange1 (flCons (fC (.int 8)) (flNil))) (fgN 7) (ftYes) (fCall 1 W_law_due (faD (flCons (fVar 7) (flNil)))) [7])))) (fsRet (fC (.bool false))) (fsNext))))
def w_law (C_BadGuard : Addr) (C_BadKind : Addr) (C_BadPaper : Addr) (C_BadText : Addr) (C_BadWish : Addr) (C_Nothing : Addr) (C_OutOfPlace : Addr) (C_TooMany : Addr) : FS := fsBegin 1 1 B_law (flCons (fVar 0) (flNil))
  (fsSeq (fsFor (fiRange1 (flCons (fOp gAdd (fC (.int 2)) (fOp gMin2 (fUn gLen (fVar 0)) (fC (.int 8)))) (flNil))) (fgN 2) (b_law_2 C_BadGuard C_BadKind C_BadPaper C_BadText C_BadWish C_Nothing C_OutOfPlace C_TooMany))
  (fsRet (fC (.bool true))))
theorem raw_law {f : Addr} {fd : FuncData} {a_law_begun : Addr} {d_law_begun : FuncData} {a_law_thing : Addr} {d_law_thing : FuncData} {a_law_all : Addr} {d_law_all : FuncData} {a_law_named : Addr} {d_law_named : FuncData} {a_law_fields : Addr} {d_law_fields : FuncData} {a_law_marks : Addr} {d_law_marks : FuncData} {a_law_due : Addr} {d_law_due : FuncData} {a_law_caught : Addr} {d_law_caught : FuncData} {C_BadGuard : Addr} {C_BadKind : Addr} {C_BadPaper : Addr} {C_BadText : Addr} {C_BadWish : Addr} {C_Nothing : Addr} {C_OutOfPlace : Addr} {C_TooMany : Addr} (F : Fun K "law" "law" s_law f fd) (T : Txt mg) (g_law_begun : mg "_law_begun" = some (.ref a_law_begun)) (g_law_thing : mg "_law_thing" = some (.ref a_law_thing)) (g_law_all : mg "_law_all" = some (.ref a_law_all)) (g_law_named : mg "_law_named" = some (.ref a_law_named)) (g_law_fields : mg "_law_fields" = some (.ref a_law_fields)) (g_law_marks : mg "_law_marks" = some (.ref a_law_marks)) (g_law_due : mg "_law_due" = some (.ref a_law_due)) (g_law_caught : mg "_law_caught" = some (.ref a_law_caught)) (G_law_begun : FnG P w K mg base (L2.CX P w) 1 a_law_begun d_law_begun ["script"] (spB ⟨K, w, P⟩ M 1 B_law)) (b_law_begun : Binds K d_law_begun ["script"] []) (k_law_begun : PySem.W.keepIn K (.ref a_law_begun) = true) (G_law_thing : FnG P w K mg base (L2.CX P w) 3 a_law_thing d_law_thing ["m"] (spD ⟨K, w, P⟩ M 1 W_law_thing)) (b_law_thing : Binds K d_law_thing ["m"] []) (k_law_thing : PySem.W.keepIn K (.ref a_law_thing) = true) (G_law_all : FnG P w K mg base (L2.CX P w) 3 a_law_all d_law_all ["thing"] (spD ⟨K, w, P⟩ M 1 (W_law_all C_BadGuard C_BadKind C_BadPaper C_BadText C_BadWish C_Nothing C_OutOfPlace C_TooMany))) (b_law_all : Binds K d_law_all ["thing"] []) (k_law_all : PySem.W.keepIn K (.ref a_law_all) = true) (G_law_named : FnG P w K mg base (L2.CX P w) 3 a_law_named d_law_named ["thing"] (spD ⟨K, w, P⟩ M 1 (W_law_named C_BadGuard C_BadKind C_BadPaper C_BadText C_BadWish C_Nothing C_OutOfPlace C_TooMany))) (b_law_named : Binds K d_law_named ["thing"] []) (k_law_named : PySem.W.keepIn K (.ref a_law_named) = true) (G_law_fields : FnG P w K mg base (L2.CX P w) 1 a_law_fields d_law_fields ["some"] (spD ⟨K, w, P⟩ M 1 (W_law_fields C_BadGuard C_BadKind C_BadPaper C_BadText C_BadWish C_Nothing C_OutOfPlace C_TooMany))) (b_law_fields : Binds K d_law_fields ["some"] []) (k_law_fields : PySem.W.keepIn K (.ref a_law_fields) = true) (G_law_marks : FnQ P w K mg base (L2.CX P w) 1 a_law_marks d_law_marks ["error"] (spD ⟨K, w, P⟩ M 1 (W_law_marks C_BadGuard C_BadKind C_BadPaper C_BadText C_BadWish C_Nothing C_OutOfPlace C_TooMany))) (b_law_marks : Binds K d_law_marks ["error"] []) (k_law_marks : PySem.W.keepIn K (.ref a_law_marks) = true) (G_law_due : FnG P w K mg base (L2.CX P w) 1 a_law_due d_law_due ["own"] (spD ⟨K, w, P⟩ M 1 W_law_due)) (b_law_due : Binds K d_law_due ["own"] []) (k_law_due : PySem.W.keepIn K (.ref a_law_due) = true) (G_law_caught : FnG P w K mg base (L2.CX P w) 4 a_law_caught d_law_caught ["own", "thing"] (spD ⟨K, w, P⟩ M 2 (W_law_caught C_BadGuard C_BadKind C_BadPaper C_BadText C_BadWish C_Nothing C_OutOfPlace C_TooMany))) (b_law_caught : Binds K d_law_caught ["own", "thing"] []) (k_law_caught : PySem.W.keepIn K (.ref a_law_caught) = true) : FnG P w K mg base (L2.CX P w) (5) f fd ["script"] (spD ⟨K, w, P⟩ M 1 (fBody 8 (w_law C_BadGuard C_BadKind C_BadPaper C_BadText C_BadWish C_Nothing C_OutOfPlace C_TooMany))) := by
  refine fnD F sc_law fun cdv A outer s H E hgd hr => ?_
  have nd := (sc_law).nd
  have hu : (A.deeper (envOfC "law" (defScope s_law) s.heap.objs.size f cdv)).units + 64 < cLine := hr.units
  exact pds_begin (i := 1) (n := 1) (B := B_law) (G_law_begun.mono (by decide)) hgd hr (by rfl) g_law_begun k_law_begun b_law_begun (pdl_cons (pd_var (pv 0)) (pdl_nil)) (pg_name (i := 1) nd rfl (by first | exact Or.inl rfl | exact Or.inr rfl))
    (pds_cons (pds_for (fs := b_law_2 C_BadGuard C_BadKind C_BadPaper C_BadText C_BadWish C_Nothing C_OutOfPlace C_TooMany) PassesOwn.never rfl (pdi_range1 (by rfl) T.range (pdl_cons (pd_op op_addA rd_add (pd_int) (pd_b2 (call_min2 rfl) rd_min2 (by rfl) T.min (by decide +kernel) (pd_b1 call_lenA r1_len (by rfl) T.len (by decide +kernel) (pd_var (pv 0))) (pd_int))) (pdl_nil))) (pg1_name (i := 2) (pg_name (i := 2) nd rfl (by first | exact Or.inl rfl | exact Or.inr rfl))) (pds_cons (pds_asg (pd_call mW_law_thing (G_law_thing.mono (by decide)) hgd hr (by rfl) g_law_thing k_law_thing b_law_thing (pda_st (pv 1) (pdl_nil))) (pg1_name (i := 3) (pg_name (i := 3) nd rfl (by first | exact Or.inl rfl | exact Or.inr rfl))))
    (pds_cons (pds_asg (pd_b1 (call_reprP hgd hu) r1_reprP (by rfl) T.repr (by decide +kernel) (pd_op op_mulX rd_mulX (pd_lst (pdl_cons (pd_var (pv 3)) (pdl_nil))) (pd_int))) (pg1_name (i := 4) (pg_name (i := 4) nd rfl (by first | exact Or.inl rfl | exact Or.inr rfl))))
    (pds_cons (pds_for (fs := b_law_1 C_BadGuard C_BadKind C_BadPaper C_BadText C_BadWish C_Nothing C_OutOfPlace C_TooMany) PassesOwn.never rfl (pdi_any (pd_tup (pdl_cons (pd_call (mW_law_all C_BadGuard C_BadKind C_BadPaper C_BadText C_BadWish C_Nothing C_OutOfPlace C_TooMany) (G_law_all.mono (by decide)) hgd hr (by rfl) g_law_all k_law_all b_law_all (pda_d (pdl_cons (pd_var (pv 3)) (pdl_nil)))) (pdl_cons (pd_call (mW_law_named C_BadGuard C_BadKind C_BadPaper C_BadText C_BadWish C_Nothing C_OutOfPlace C_TooMany) (G_law_named.mono (by decide)) hgd hr (by rfl) g_law_named k_law_named b_law_named (pda_d (pdl_cons (pd_var (pv 3)) (pdl_nil)))) (pdl_nil))))) (pg1_name (i := 5) (pg_name (i := 5) nd rfl (by first | exact Or.inl rfl | exact Or.inr rfl))) (pds_cons (pds_if (pdt_cmp (op_neA hu) rd_neA (pd_b1 (call_reprP hgd hu) r1_reprP (by rfl) T.repr (by decide +kernel) (pd_call (mW_law_fields C_BadGuard C_BadKind C_BadPaper C_BadText C_BadWish C_Nothing C_OutOfPlace C_TooMany) (G_law_fields.mono (by decide)) hgd hr (by rfl) g_law_fields k_law_fields b_law_fields (pda_d (pdl_cons (pd_var (pv 5)) (pdl_nil))))) (pd_var (pv 4)) (by first | exact nomark _ | rfl)) (pds_one (pds_ret (pd_bl))) (pds_nil))
    (pds_one (pds_if (pdt_cmp (op_neA hu) rd_neA (pd_ofN (pn_lc rfl nd (own := [("error", 6)]) (vs := [6]) (pdi_any (pd_var (pv 5))) (blkOk_by (own := [("error", 6)]) (N := ["script", "m", "lap", "thing", "held", "some", "error", "own"]) (sc := defScope s_law) (by decide +kernel)) rfl (fun _ _ _ _ _ => pg1_name (i := 6) (pg_name (i := 6) nd rfl (by first | exact Or.inl rfl | exact Or.inr rfl))) (fun _ _ _ _ _ => ptn_nil) (fun _ _ _ _ _ => pd_call (mW_law_marks C_BadGuard C_BadKind C_BadPaper C_BadText C_BadWish C_Nothing C_OutOfPlace C_TooMany) (G_law_marks.g.mono (by decide)) hgd hr (by rfl) g_law_marks k_law_marks b_law_marks (pda_d (pdl_cons (pd_var (pv 6)) (pdl_nil)))) s)) (pd_ofN (pn_lc rfl nd (own := [("own", 7)]) (vs := [7]) (pdi_range1 (by rfl) T.range (pdl_cons (pd_int) (pdl_nil))) (blkOk_by (own := [("own", 7)]) (N := ["script", "m", "lap", "thing", "held", "some", "error", "own"]) (sc := defScope s_law) (by decide +kernel)) rfl (fun _ _ _ _ _ => pg1_name (i := 7) (pg_name (i := 7) nd rfl (by first | exact Or.inl rfl | exact Or.inr rfl))) (fun _ _ _ _ _ => ptn_nil) (fun _ _ _ _ _ => pd_call mW_law_due (G_law_due.mono (by decide)) hgd hr (by rfl) g_law_due k_law_due b_law_due (pda_d (pdl_cons (pd_var (pv 7)) (pdl_nil)))) s)) (by first | exact nomark _ | rfl)) (pds_one (pds_ret (pd_bl))) (pds_nil)))))
    (pds_one (pds_if (pdt_cmp (op_neA hu) rd_neA (pd_ofN (pn_lc rfl nd (own := [("own", 7)]) (vs := [7]) (pdi_range1 (by rfl) T.range (pdl_cons (pd_int) (pdl_nil))) (blkOk_by (own := [("own", 7)]) (N := ["script", "m", "lap", "thing", "held", "some", "error", "own"]) (sc := defScope s_law) (by decide +kernel)) rfl (fun _ _ _ _ _ => pg1_name (i := 7) (pg_name (i := 7) nd rfl (by first | exact Or.inl rfl | exact Or.inr rfl))) (fun _ _ _ _ _ => ptn_nil) (fun _ _ _ _ _ => pd_call (mW_law_caught C_BadGuard C_BadKind C_BadPaper C_BadText C_BadWish C_Nothing C_OutOfPlace C_TooMany) (G_law_caught.mono (by decide)) hgd hr (by rfl) g_law_caught k_law_caught b_law_caught (pda_d (pdl_cons (pd_var (pv 7)) (pdl_cons (pd_var (pv 3)) (pdl_nil))))) s)) (pd_ofN (pn_lc rfl nd (own := [("own", 7)]) (vs := [7]) (pdi_range1 (by rfl) T.range (pdl_cons (pd_int) (pdl_nil))) (blkOk_by (own := [("own", 7)]) (N := ["script", "m", "lap", "thing", "held", "some", "error", "own"]) (sc := defScope s_law) (by decide +kernel)) rfl (fun _ _ _ _ _ => pg1_name (i := 7) (pg_name (i := 7) nd rfl (by first | exact Or.inl rfl | exact Or.inr rfl))) (fun _ _ _ _ _ => ptn_nil) (fun _ _ _ _ _ => pd_call mW_law_due (G_law_due.mono (by decide)) hgd hr (by rfl) g_law_due k_law_due b_law_due (pda_d (pdl_cons (pd_var (pv 7)) (pdl_nil)))) s)) (by first | exact nomark _ | rfl)) (pds_one (pds_ret (pd_bl))) (pds_nil)))))))
    (pds_one (pds_ret (pd_bl))))
mutual
theorem pl_tame : ∀ d : D, tame d = true → plDict d = true
  | .none, _ => by simp [plDict]
  | .bool _, _ => by simp [plDict]
  | .int _, _ => by simp [plDict]
  | .str _, _ => by simp [plDict]
  | .list xs, h => by
    have := pls_tame xs (by simpa [tame] using h)
    simpa [plDict] using this
  | .tuple xs, h => by
    have := pls_tame xs (by simpa [tame] using h)
    simpa [plDict] using this
  | .dict _, h => by simp [tame] at h
theorem pls_tame : ∀ xs : List D, tameAll xs = true → plDicts xs = true
  | [], _ => by simp [plDicts]
  | x :: xs, h => by
    have h : tame x = true ∧ tameAll xs = true := by simpa [tameAll] using h
    simp [plDicts, pl_tame x h.1, pls_tame xs h.2]
end
theorem ErF.exc {C_BadGuard C_BadKind C_BadPaper C_BadText C_BadWish C_Nothing C_OutOfPlace C_TooMany : Addr} (E : ErF K C_BadGuard C_BadKind C_BadPaper C_BadText C_BadWish C_Nothing C_OutOfPlace C_TooMany) : ∀ i, i < 8 → ExcC K (cl8 C_BadGuard C_BadKind C_BadPaper C_BadText C_BadWish C_Nothing C_OutOfPlace C_TooMany i)
  | 0, _ => E.exBadWish
  | 1, _ => E.exBadKind
  | 2, _ => E.exBadGuard
  | 3, _ => E.exBadPaper
  | 4, _ => E.exBadText
  | 5, _ => E.exOutOfPlace
  | 6, _ => E.exNothing
  | 7, _ => E.exTooMany
  | i + 8, h => absurd h (by omega)
theorem ErF.k0 {C_BadGuard C_BadKind C_BadPaper C_BadText C_BadWish C_Nothing C_OutOfPlace C_TooMany : Addr} (E : ErF K C_BadGuard C_BadKind C_BadPaper C_BadText C_BadWish C_Nothing C_OutOfPlace C_TooMany) : ∀ i, i < 8 → PySem.W.kitOne K (.ref (cl8 C_BadGuard C_BadKind C_BadPaper C_BadText C_BadWish C_Nothing C_OutOfPlace C_TooMany i)) (.ref C_BadWish) = some (decide (i = 0))
  | 0, _ => E.kBadWishBadWish
  | 1, _ => E.kBadKindBadWish
  | 2, _ => E.kBadGuardBadWish
  | 3, _ => E.kBadPaperBadWish
  | 4, _ => E.kBadTextBadWish
  | 5, _ => E.kOutOfPlaceBadWish
  | 6, _ => E.kNothingBadWish
  | 7, _ => E.kTooManyBadWish
  | i + 8, h => absurd h (by omega)
theorem ErF.k1 {C_BadGuard C_BadKind C_BadPaper C_BadText C_BadWish C_Nothing C_OutOfPlace C_TooMany : Addr} (E : ErF K C_BadGuard C_BadKind C_BadPaper C_BadText C_BadWish C_Nothing C_OutOfPlace C_TooMany) : ∀ i, i < 8 → PySem.W.kitOne K (.ref (cl8 C_BadGuard C_BadKind C_BadPaper C_BadText C_BadWish C_Nothing C_OutOfPlace C_TooMany i)) (.ref C_BadKind) = some (decide (i = 1))
  | 0, _ => E.kBadWishBadKind
  | 1, _ => E.kBadKindBadKind
  | 2, _ => E.kBadGuardBadKind
  | 3, _ => E.kBadPaperBadKind
  | 4, _ => E.kBadTextBadKind
  | 5, _ => E.kOutOfPlaceBadKind
  | 6, _ => E.kNothingBadKind
  | 7, _ => E.kTooManyBadKind
  | i + 8, h => absurd h (by omega)
theorem ErF.k2 {C_BadGuard C_BadKind C_BadPaper C_BadText C_BadWish C_Nothing C_OutOfPlace C_TooMany : Addr} (E : ErF K C_BadGuard C_BadKind C_BadPaper C_BadText C_BadWish C_Nothing C_OutOfPlace C_TooMany) : ∀ i, i < 8 → PySem.W.kitOne K (.ref (cl8 C_BadGuard C_BadKind C_BadPaper C_BadText C_BadWish C_Nothing C_OutOfPlace C_TooMany i)) (.ref C_BadGuard) = some (decide (i = 2))
  | 0, _ => E.kBadWishBadGuard
  | 1, _ => E.kBadKindBadGuard
  | 2, _ => E.kBadGuardBadGuard
  | 3, _ => E.kBadPaperBadGuard
  | 4, _ => E.kBadTextBadGuard
  | 5, _ => E.kOutOfPlaceBadGuard
  | 6, _ => E.kNothingBadGuard
  | 7, _ => E.kTooManyBadGuard
  | i + 8, h => absurd h (by omega)
theorem ErF.k3 {C_BadGuard C_BadKind C_BadPaper C_BadText C_BadWish C_Nothing C_OutOfPlace C_TooMany : Addr} (E : ErF K C_BadGuard C_BadKind C_BadPaper C_BadText C_BadWish C_Nothing C_OutOfPlace C_TooMany) : ∀ i, i < 8 → PySem.W.kitOne K (.ref (cl8 C_BadGuard C_BadKind C_BadPaper C_BadText C_BadWish C_Nothing C_OutOfPlace C_TooMany i)) (.ref C_BadPaper) = some (decide (i = 3))
  | 0, _ => E.kBadWishBadPaper
  | 1, _ => E.kBadKindBadPaper
  | 2, _ => E.kBadGuardBadPaper
  | 3, _ => E.kBadPaperBadPaper
  | 4, _ => E.kBadTextBadPaper
  | 5, _ => E.kOutOfPlaceBadPaper
  | 6, _ => E.kNothingBadPaper
  | 7, _ => E.kTooManyBadPaper
  | i + 8, h => absurd h (by omega)
theorem ErF.k4 {C_BadGuard C_BadKind C_BadPaper C_BadText C_BadWish C_Nothing C_OutOfPlace C_TooMany : Addr} (E : ErF K C_BadGuard C_BadKind C_BadPaper C_BadText C_BadWish C_Nothing C_OutOfPlace C_TooMany) : ∀ i, i < 8 → PySem.W.kitOne K (.ref (cl8 C_BadGuard C_BadKind C_BadPaper C_BadText C_BadWish C_Nothing C_OutOfPlace C_TooMany i)) (.ref C_BadText) = some (decide (i = 4))
  | 0, _ => E.kBadWishBadText
  | 1, _ => E.kBadKindBadText
  | 2, _ => E.kBadGuardBadText
  | 3, _ => E.kBadPaperBadText
  | 4, _ => E.kBadTextBadText
  | 5, _ => E.kOutOfPlaceBadText
  | 6, _ => E.kNothingBadText
  | 7, _ => E.kTooManyBadText
  | i + 8, h => absurd h (by omega)
theorem ErF.k5 {C_BadGuard C_BadKind C_BadPaper C_BadText C_BadWish C_Nothing C_OutOfPlace C_TooMany : Addr} (E : ErF K C_BadGuard C_BadKind C_BadPaper C_BadText C_BadWish C_Nothing C_OutOfPlace C_TooMany) : ∀ i, i < 8 → PySem.W.kitOne K (.ref (cl8 C_BadGuard C_BadKind C_BadPaper C_BadText C_BadWish C_Nothing C_OutOfPlace C_TooMany i)) (.ref C_OutOfPlace) = some (decide (i = 5))
  | 0, _ => E.kBadWishOutOfPlace
  | 1, _ => E.kBadKindOutOfPlace
  | 2, _ => E.kBadGuardOutOfPlace
  | 3, _ => E.kBadPaperOutOfPlace
  | 4, _ => E.kBadTextOutOfPlace
  | 5, _ => E.kOutOfPlaceOutOfPlace
  | 6, _ => E.kNothingOutOfPlace
  | 7, _ => E.kTooManyOutOfPlace
  | i + 8, h => absurd h (by omega)
theorem ErF.k6 {C_BadGuard C_BadKind C_BadPaper C_BadText C_BadWish C_Nothing C_OutOfPlace C_TooMany : Addr} (E : ErF K C_BadGuard C_BadKind C_BadPaper C_BadText C_BadWish C_Nothing C_OutOfPlace C_TooMany) : ∀ i, i < 8 → PySem.W.kitOne K (.ref (cl8 C_BadGuard C_BadKind C_BadPaper C_BadText C_BadWish C_Nothing C_OutOfPlace C_TooMany i)) (.ref C_Nothing) = some (decide (i = 6))
  | 0, _ => E.kBadWishNothing
  | 1, _ => E.kBadKindNothing
  | 2, _ => E.kBadGuardNothing
  | 3, _ => E.kBadPaperNothing
  | 4, _ => E.kBadTextNothing
  | 5, _ => E.kOutOfPlaceNothing
  | 6, _ => E.kNothingNothing
  | 7, _ => E.kTooManyNothing
  | i + 8, h => absurd h (by omega)
theorem ErF.k7 {C_BadGuard C_BadKind C_BadPaper C_BadText C_BadWish C_Nothing C_OutOfPlace C_TooMany : Addr} (E : ErF K C_BadGuard C_BadKind C_BadPaper C_BadText C_BadWish C_Nothing C_OutOfPlace C_TooMany) : ∀ i, i < 8 → PySem.W.kitOne K (.ref (cl8 C_BadGuard C_BadKind C_BadPaper C_BadText C_BadWish C_Nothing C_OutOfPlace C_TooMany i)) (.ref C_TooMany) = some (decide (i = 7))
  | 0, _ => E.kBadWishTooMany
  | 1, _ => E.kBadKindTooMany
  | 2, _ => E.kBadGuardTooMany
  | 3, _ => E.kBadPaperTooMany
  | 4, _ => E.kBadTextTooMany
  | 5, _ => E.kOutOfPlaceTooMany
  | 6, _ => E.kNothingTooMany
  | 7, _ => E.kTooManyTooMany
  | i + 8, h => absurd h (by omega)
theorem ErF.kValueError {C_BadGuard C_BadKind C_BadPaper C_BadText C_BadWish C_Nothing C_OutOfPlace C_TooMany : Addr} (E : ErF K C_BadGuard C_BadKind C_BadPaper C_BadText C_BadWish C_Nothing C_OutOfPlace C_TooMany) : ∀ i, i < 8 → PySem.W.kitOne K (.ref (cl8 C_BadGuard C_BadKind C_BadPaper C_BadText C_BadWish C_Nothing C_OutOfPlace C_TooMany i)) (.type "ValueError") = some (decide (i < 6))
  | 0, _ => E.kBadWishValueError
  | 1, _ => E.kBadKindValueError
  | 2, _ => E.kBadGuardValueError
  | 3, _ => E.kBadPaperValueError
  | 4, _ => E.kBadTextValueError
  | 5, _ => E.kOutOfPlaceValueError
  | 6, _ => E.kNothingValueError
  | 7, _ => E.kTooManyValueError
  | i + 8, h => absurd h (by omega)
theorem ErF.kLookupError {C_BadGuard C_BadKind C_BadPaper C_BadText C_BadWish C_Nothing C_OutOfPlace C_TooMany : Addr} (E : ErF K C_BadGuard C_BadKind C_BadPaper C_BadText C_BadWish C_Nothing C_OutOfPlace C_TooMany) : ∀ i, i < 8 → PySem.W.kitOne K (.ref (cl8 C_BadGuard C_BadKind C_BadPaper C_BadText C_BadWish C_Nothing C_OutOfPlace C_TooMany i)) (.type "LookupError") = some (decide (i = 6))
  | 0, _ => E.kBadWishLookupError
  | 1, _ => E.kBadKindLookupError
  | 2, _ => E.kBadGuardLookupError
  | 3, _ => E.kBadPaperLookupError
  | 4, _ => E.kBadTextLookupError
  | 5, _ => E.kOutOfPlaceLookupError
  | 6, _ => E.kNothingLookupError
  | 7, _ => E.kTooManyLookupError
  | i + 8, h => absurd h (by omega)
theorem ErF.kOverflowError {C_BadGuard C_BadKind C_BadPaper C_BadText C_BadWish C_Nothing C_OutOfPlace C_TooMany : Addr} (E : ErF K C_BadGuard C_BadKind C_BadPaper C_BadText C_BadWish C_Nothing C_OutOfPlace C_TooMany) : ∀ i, i < 8 → PySem.W.kitOne K (.ref (cl8 C_BadGuard C_BadKind C_BadPaper C_BadText C_BadWish C_Nothing C_OutOfPlace C_TooMany i)) (.type "OverflowError") = some (decide (i = 7))
  | 0, _ => E.kBadWishOverflowError
  | 1, _ => E.kBadKindOverflowError
  | 2, _ => E.kBadGuardOverflowError
  | 3, _ => E.kBadPaperOverflowError
  | 4, _ => E.kBadTextOverflowError
  | 5, _ => E.kOutOfPlaceOverflowError
  | 6, _ => E.kNothingOverflowError
  | 7, _ => E.kTooManyOverflowError
  | i + 8, h => absurd h (by omega)
theorem ErF.kKeyError {C_BadGuard C_BadKind C_BadPaper C_BadText C_BadWish C_Nothing C_OutOfPlace C_TooMany : Addr} (E : ErF K C_BadGuard C_BadKind C_BadPaper C_BadText C_BadWish C_Nothing C_OutOfPlace C_TooMany) : ∀ i, i < 8 → PySem.W.kitOne K (.ref (cl8 C_BadGuard C_BadKind C_BadPaper C_BadText C_BadWish C_Nothing C_OutOfPlace C_TooMany i)) (.type "KeyError") = some (decide (False))
  | 0, _ => E.kBadWishKeyError
  | 1, _ => E.kBadKindKeyError
  | 2, _ => E.kBadGuardKeyError
  | 3, _ => E.kBadPaperKeyError
  | 4, _ => E.kBadTextKeyError
  | 5, _ => E.kOutOfPlaceKeyError
  | 6, _ => E.kNothingKeyError
  | 7, _ => E.kTooManyKeyError
  | i + 8, h => absurd h (by omega)
theorem ErF.kIndexError {C_BadGuard C_BadKind C_BadPaper C_BadText C_BadWish C_Nothing C_OutOfPlace C_TooMany : Addr} (E : ErF K C_BadGuard C_BadKind C_BadPaper C_BadText C_BadWish C_Nothing C_OutOfPlace C_TooMany) : ∀ i, i < 8 → PySem.W.kitOne K (.ref (cl8 C_BadGuard C_BadKind C_BadPaper C_BadText C_BadWish C_Nothing C_OutOfPlace C_TooMany i)) (.type "IndexError") = some (decide (False))
  | 0, _ => E.kBadWishIndexError
  | 1, _ => E.kBadKindIndexError
  | 2, _ => E.kBadGuardIndexError
  | 3, _ => E.kBadPaperIndexError
  | 4, _ => E.kBadTextIndexError
  | 5, _ => E.kOutOfPlaceIndexError
  | 6, _ => E.kNothingIndexError
  | 7, _ => E.kTooManyIndexError
  | i + 8, h => absurd h (by omega)
theorem ErF.kRuntimeError {C_BadGuard C_BadKind C_BadPaper C_BadText C_BadWish C_Nothing C_OutOfPlace C_TooMany : Addr} (E : ErF K C_BadGuard C_BadKind C_BadPaper C_BadText C_BadWish C_Nothing C_OutOfPlace C_TooMany) : ∀ i, i < 8 → PySem.W.kitOne K (.ref (cl8 C_BadGuard C_BadKind C_BadPaper C_BadText C_BadWish C_Nothing C_OutOfPlace C_TooMany i)) (.type "RuntimeError") = some (decide (False))
  | 0, _ => E.kBadWishRuntimeError
  | 1, _ => E.kBadKindRuntimeError
  | 2, _ => E.kBadGuardRuntimeError
  | 3, _ => E.kBadPaperRuntimeError
  | 4, _ => E.kBadTextRuntimeError
  | 5, _ => E.kOutOfPlaceRuntimeError
  | 6, _ => E.kNothingRuntimeError
  | 7, _ => E.kTooManyRuntimeError
  | i + 8, h => absurd h (by omega)
theorem ErF.a {C_BadGuard C_BadKind C_BadPaper C_BadText C_BadWish C_Nothing C_OutOfPlace C_TooMany : Addr} (E : ErF K C_BadGuard C_BadKind C_BadPaper C_BadText C_BadWish C_Nothing C_OutOfPlace C_TooMany) : ∀ i, i < 8 → PySem.W.exmAny K (.ref (cl8 C_BadGuard C_BadKind C_BadPaper C_BadText C_BadWish C_Nothing C_OutOfPlace C_TooMany i)) [.ref C_BadWish, .ref C_BadKind, .ref C_BadGuard, .ref C_BadPaper, .ref C_BadText, .ref C_OutOfPlace] = some (decide (i < 6))
  | 0, _ => E.aBadWish
  | 1, _ => E.aBadKind
  | 2, _ => E.aBadGuard
  | 3, _ => E.aBadPaper
  | 4, _ => E.aBadText
  | 5, _ => E.aOutOfPlace
  | 6, _ => E.aNothing
  | 7, _ => E.aTooMany
  | i + 8, h => absurd h (by omega)
theorem ErF.b {C_BadGuard C_BadKind C_BadPaper C_BadText C_BadWish C_Nothing C_OutOfPlace C_TooMany : Addr} (E : ErF K C_BadGuard C_BadKind C_BadPaper C_BadText C_BadWish C_Nothing C_OutOfPlace C_TooMany) : ∀ i, 6 ≤ i → i < 8 → PySem.W.exmAny K (.ref (cl8 C_BadGuard C_BadKind C_BadPaper C_BadText C_BadWish C_Nothing C_OutOfPlace C_TooMany i)) [.ref C_Nothing, .ref C_TooMany] = some true
  | 6, _, _ => E.bNothing
  | 7, _, _ => E.bTooMany
  | 0, h, _ => absurd h (by omega)
  | 1, h, _ => absurd h (by omega)
  | 2, h, _ => absurd h (by omega)
  | 3, h, _ => absurd h (by omega)
  | 4, h, _ => absurd h (by omega)
  | 5, h, _ => absurd h (by omega)
  | i + 8, _, h => absurd h (by omega)
/-- what is shown -/
theorem th_of {d : D} (h : tame d = true) (hd : d.depth ≤ 50) (hw : d.weight ≤ 10000) : Th d := by
  have t6 : tame (.list (List.replicate 6 d)) = true := by simp [tame, tameAll, List.replicate, h]
  have h1 := gRepr_tame t6 (by simp [PyData.depth, PyData.depthAll, List.replicate]; omega) (by simp [PyData.weight, PyData.weightAll, List.replicate]; omega)
  unfold gRepr at h1
  split at h1
  · rename_i hf
    obtain ⟨f1, f2, f3, f4⟩ := fits_and hf
    unfold Th fitsP
    rw [f1, decide_eq_true f3, decide_eq_true f4]
    have hp : ∀ d : D, tame d = true → plDict d = true := pl_tame
    rw [hp _ t6]
    rfl
  · cases h1
theorem isEr_step {c : Value} {b : Bool} {C : Addr} {fl : List (D × D)} {i : Nat} {ρ : Rho} {k : KD} (h0 : ρ.sl[i]? = some (.d (errD C fl))) (e : ExcC K C) (h : PySem.W.kitOne K (.ref C) c = some b) (q : k (.bool b) ρ) : fIsErD K c (fVar i) ρ k :=
  ⟨errD C fl, h0, C, fl, b, rfl, e, h, q⟩
theorem erA_step {n : Str} {C : Addr} {fl : List (D × D)} {d x : D} {i : Nat} {j : Int} {ρ : Rho} {k : KD} (h0 : ρ.sl[i]? = some (.d d)) (h1 : gIxX d (.int j) = some (errD C fl)) (e : XfC K C) (h : PySem.W.findIn K (.ref C) n = some none) (hl : lookF n fl = some x) (q : k x ρ) : fErA K n (fOp gIxX (fVar i) (fC (.int j))) ρ k :=
  ⟨d, h0, errD C fl, h1, C, fl, x, rfl, e, h, hl, q⟩
theorem add8 (xs ys : List D) (h : xs.length + ys.length ≤ 100) : gAdd (.list xs) (.list ys) = some (.list (xs ++ ys)) := by
  show (if xs.length + ys.length ≤ sizeLine then some (PyData.list (xs ++ ys)) else none) = _
  rw [if_pos (by rw [sizeLine_eq]; omega)]
theorem ok_law_all {C_BadGuard C_BadKind C_BadPaper C_BadText C_BadWish C_Nothing C_OutOfPlace C_TooMany : Addr} : ∀ ρ k, W_law_all C_BadGuard C_BadKind C_BadPaper C_BadText C_BadWish C_Nothing C_OutOfPlace C_TooMany ρ k → fBody 2 (w_law_all K C_BadGuard C_BadKind C_BadPaper C_BadText C_BadWish C_Nothing C_OutOfPlace C_TooMany) ρ k := by
  rintro ⟨sl, n⟩ k ⟨d, e, _, z⟩
  simp only at e
  subst e
  simp [w_law_all]
  simp [and_assoc, Rho.set, dropOwn, ftLend, fLend, lendR, frz, ow, nList, -forall_exists_index, fBody, fsSeq, fsIf, fsRet, fsNext, fsDrop, fsAsg, fsNever, fsFor, fsOwn, fsPar2, fsPar3, fsPar_od, fsPar_do, fsPar_oo, fVar, fC, fUn, fOp, fChain, fTup, fLst, fCall, faD, faSt, flCons, flNil, fSl, foSome, foNone, fAnd, fOr, fNot, fIf, fOfN, fn1, fnLst, fnCat, fgN, fgTup, fgCons, fgNil, fiSeq, fiRange1, fiRange2, fiEnumA, fiZip, ftOr, ftAnd, ftNot, ftB, ftT, ftYes, truD_b, truD_i, truD_l, truD_t, truD_n, gIx_t0, gIx_t1, gIx_t2, gSl_t, gSl_l, gIsT, notDict, isT, isN, tyName, gLen_t, gLen_l, gTuple_l, gCmp, gAdd_ii, gAdd_ll, PD.gSub, gNeg, gMod, seqD, forD, wipeR, gEqA, gNeA, gEq_ii, gNe_ii, gEq_tt, gIn_ints, gIn_intsL, gNotIn_ints, gNotIn_intsL, fM0, fM1, fJoined, fJ, flStar, starD, fCall0, gIsTX, noInst_n, noInst_b, noInst_i, noInst_s, noInst_l, noInst_t, fFld, fMeth, fMake, faNil, fsFld, fLendO, fDisp, fpCons, fpNil, fDict0, fiAny, walkD, fiOver, dKeys, dVals, dPairs, fsOwnD, fsPut, fOwnIx, fPop, fsExt, fDc, compK, fGet, lk_deeds, lk_steps, lk_good, lk_live, lk_hold, lk_ahead, lk_loose, lk_tails, lm_good_tails, lm_has_form, lm_can_be_held, lm_moves, lm_moves_if_doomed, lm_moves_if_ahead, lm_moves_if_not_ahead, fLendD, fiZipM, fsAugI, fsBreak, fsDispO, fsApp, fsPo2, fsPo3, fsPo4, fpTwo, fpThree, fpFour, fpD, fpN, fpE, fpDisp, fnZipT, fCallK, pickL]
  simp only [fMkE, fVar, List.set, List.getElem?_cons_zero, List.getElem?_cons_succ, Option.some.injEq, Sl.d.injEq, exists_eq_left']
  exact ⟨_, add8 _ _ (by simp), z⟩
theorem ok_law_named {C_BadGuard C_BadKind C_BadPaper C_BadText C_BadWish C_Nothing C_OutOfPlace C_TooMany : Addr} : ∀ ρ k, W_law_named C_BadGuard C_BadKind C_BadPaper C_BadText C_BadWish C_Nothing C_OutOfPlace C_TooMany ρ k → fBody 2 (w_law_named K C_BadGuard C_BadKind C_BadPaper C_BadText C_BadWish C_Nothing C_OutOfPlace C_TooMany) ρ k := by
  rintro ⟨sl, n⟩ k ⟨d, e, _, z⟩
  simp only at e
  subst e
  simp [w_law_named]
  simp [and_assoc, Rho.set, dropOwn, ftLend, fLend, lendR, frz, ow, nList, -forall_exists_index, fBody, fsSeq, fsIf, fsRet, fsNext, fsDrop, fsAsg, fsNever, fsFor, fsOwn, fsPar2, fsPar3, fsPar_od, fsPar_do, fsPar_oo, fVar, fC, fUn, fOp, fChain, fTup, fLst, fCall, faD, faSt, flCons, flNil, fSl, foSome, foNone, fAnd, fOr, fNot, fIf, fOfN, fn1, fnLst, fnCat, fgN, fgTup, fgCons, fgNil, fiSeq, fiRange1, fiRange2, fiEnumA, fiZip, ftOr, ftAnd, ftNot, ftB, ftT, ftYes, truD_b, truD_i, truD_l, truD_t, truD_n, gIx_t0, gIx_t1, gIx_t2, gSl_t, gSl_l, gIsT, notDict, isT, isN, tyName, gLen_t, gLen_l, gTuple_l, gCmp, gAdd_ii, gAdd_ll, PD.gSub, gNeg, gMod, seqD, forD, wipeR, gEqA, gNeA, gEq_ii, gNe_ii, gEq_tt, gIn_ints, gIn_intsL, gNotIn_ints, gNotIn_intsL, fM0, fM1, fJoined, fJ, flStar, starD, fCall0, gIsTX, noInst_n, noInst_b, noInst_i, noInst_s, noInst_l, noInst_t, fFld, fMeth, fMake, faNil, fsFld, fLendO, fDisp, fpCons, fpNil, fDict0, fiAny, walkD, fiOver, dKeys, dVals, dPairs, fsOwnD, fsPut, fOwnIx, fPop, fsExt, fDc, compK, fGet, lk_deeds, lk_steps, lk_good, lk_live, lk_hold, lk_ahead, lk_loose, lk_tails, lm_good_tails, lm_has_form, lm_can_be_held, lm_moves, lm_moves_if_doomed, lm_moves_if_ahead, lm_moves_if_not_ahead, fLendD, fiZipM, fsAugI, fsBreak, fsDispO, fsApp, fsPo2, fsPo3, fsPo4, fpTwo, fpThree, fpFour, fpD, fpN, fpE, fpDisp, fnZipT, fCallK, pickL]
  simp only [fMkE, fVar, List.set, List.getElem?_cons_zero, List.getElem?_cons_succ, Option.some.injEq, Sl.d.injEq, exists_eq_left']
  exact ⟨_, add8 _ _ (by simp), z⟩
theorem ok_law_fields {C_BadGuard C_BadKind C_BadPaper C_BadText C_BadWish C_Nothing C_OutOfPlace C_TooMany : Addr} (E : ErF K C_BadGuard C_BadKind C_BadPaper C_BadText C_BadWish C_Nothing C_OutOfPlace C_TooMany) : ∀ ρ k, W_law_fields C_BadGuard C_BadKind C_BadPaper C_BadText C_BadWish C_Nothing C_OutOfPlace C_TooMany ρ k → fBody 2 (w_law_fields K C_BadGuard C_BadKind C_BadPaper C_BadText C_BadWish C_Nothing C_OutOfPlace C_TooMany) ρ k := by
  rintro ⟨sl, n⟩ k ⟨d, e, _, z⟩
  simp only at e
  subst e
  simp [w_law_fields]
  simp [and_assoc, Rho.set, dropOwn, ftLend, fLend, lendR, frz, ow, nList, -forall_exists_index, fBody, fsSeq, fsIf, fsRet, fsNext, fsDrop, fsAsg, fsNever, fsFor, fsOwn, fsPar2, fsPar3, fsPar_od, fsPar_do, fsPar_oo, fVar, fC, fUn, fOp, fChain, fTup, fLst, fCall, faD, faSt, flCons, flNil, fSl, foSome, foNone, fAnd, fOr, fNot, fIf, fOfN, fn1, fnLst, fnCat, fgN, fgTup, fgCons, fgNil, fiSeq, fiRange1, fiRange2, fiEnumA, fiZip, ftOr, ftAnd, ftNot, ftB, ftT, ftYes, truD_b, truD_i, truD_l, truD_t, truD_n, gIx_t0, gIx_t1, gIx_t2, gSl_t, gSl_l, gIsT, notDict, isT, isN, tyName, gLen_t, gLen_l, gTuple_l, gCmp, gAdd_ii, gAdd_ll, PD.gSub, gNeg, gMod, seqD, forD, wipeR, gEqA, gNeA, gEq_ii, gNe_ii, gEq_tt, gIn_ints, gIn_intsL, gNotIn_ints, gNotIn_intsL, fM0, fM1, fJoined, fJ, flStar, starD, fCall0, gIsTX, noInst_n, noInst_b, noInst_i, noInst_s, noInst_l, noInst_t, fFld, fMeth, fMake, faNil, fsFld, fLendO, fDisp, fpCons, fpNil, fDict0, fiAny, walkD, fiOver, dKeys, dVals, dPairs, fsOwnD, fsPut, fOwnIx, fPop, fsExt, fDc, compK, fGet, lk_deeds, lk_steps, lk_good, lk_live, lk_hold, lk_ahead, lk_loose, lk_tails, lm_good_tails, lm_has_form, lm_can_be_held, lm_moves, lm_moves_if_doomed, lm_moves_if_ahead, lm_moves_if_not_ahead, fLendD, fiZipM, fsAugI, fsBreak, fsDispO, fsApp, fsPo2, fsPo3, fsPo4, fpTwo, fpThree, fpFour, fpD, fpN, fpE, fpDisp, fnZipT, fCallK, pickL]
  refine erA_step (C := C_BadWish) (fl := fl8 d 0) rfl rfl E.xfBadWish E.fiBadWish (x := d) rfl ?_
  refine erA_step (C := C_BadKind) (fl := fl8 d 1) rfl rfl E.xfBadKind E.fiBadKind (x := d) rfl ?_
  refine erA_step (C := C_BadGuard) (fl := fl8 d 2) rfl rfl E.xfBadGuard E.fiBadGuard (x := d) rfl ?_
  refine erA_step (C := C_BadPaper) (fl := fl8 d 3) rfl rfl E.xfBadPaper E.fiBadPaper (x := d) rfl ?_
  refine ⟨_, rfl, ?_⟩
  refine erA_step (C := C_BadText) (fl := fl8 d 4) rfl rfl E.xfBadText E.fiBadText (x := d) rfl ?_
  refine erA_step (C := C_TooMany) (fl := fl8 d 7) rfl rfl E.xfTooMany E.fiTooMany (x := d) rfl ?_
  exact ⟨_, add8 _ _ (by simp), z⟩
theorem ok_law_marks {C_BadGuard C_BadKind C_BadPaper C_BadText C_BadWish C_Nothing C_OutOfPlace C_TooMany : Addr} (E : ErF K C_BadGuard C_BadKind C_BadPaper C_BadText C_BadWish C_Nothing C_OutOfPlace C_TooMany) : ∀ ρ k, W_law_marks C_BadGuard C_BadKind C_BadPaper C_BadText C_BadWish C_Nothing C_OutOfPlace C_TooMany ρ k → fBody 2 (w_law_marks K C_BadGuard C_BadKind C_BadPaper C_BadText C_BadWish C_Nothing C_OutOfPlace C_TooMany) ρ k := by
  rintro ⟨sl, n⟩ k ⟨i, f, e, hi, z⟩
  simp only at e
  subst e
  simp [w_law_marks]
  simp [and_assoc, Rho.set, dropOwn, ftLend, fLend, lendR, frz, ow, nList, -forall_exists_index, fBody, fsSeq, fsIf, fsRet, fsNext, fsDrop, fsAsg, fsNever, fsFor, fsOwn, fsPar2, fsPar3, fsPar_od, fsPar_do, fsPar_oo, fVar, fC, fUn, fOp, fChain, fTup, fLst, fCall, faD, faSt, flCons, flNil, fSl, foSome, foNone, fAnd, fOr, fNot, fIf, fOfN, fn1, fnLst, fnCat, fgN, fgTup, fgCons, fgNil, fiSeq, fiRange1, fiRange2, fiEnumA, fiZip, ftOr, ftAnd, ftNot, ftB, ftT, ftYes, truD_b, truD_i, truD_l, truD_t, truD_n, gIx_t0, gIx_t1, gIx_t2, gSl_t, gSl_l, gIsT, notDict, isT, isN, tyName, gLen_t, gLen_l, gTuple_l, gCmp, gAdd_ii, gAdd_ll, PD.gSub, gNeg, gMod, seqD, forD, wipeR, gEqA, gNeA, gEq_ii, gNe_ii, gEq_tt, gIn_ints, gIn_intsL, gNotIn_ints, gNotIn_intsL, fM0, fM1, fJoined, fJ, flStar, starD, fCall0, gIsTX, noInst_n, noInst_b, noInst_i, noInst_s, noInst_l, noInst_t, fFld, fMeth, fMake, faNil, fsFld, fLendO, fDisp, fpCons, fpNil, fDict0, fiAny, walkD, fiOver, dKeys, dVals, dPairs, fsOwnD, fsPut, fOwnIx, fPop, fsExt, fDc, compK, fGet, lk_deeds, lk_steps, lk_good, lk_live, lk_hold, lk_ahead, lk_loose, lk_tails, lm_good_tails, lm_has_form, lm_can_be_held, lm_moves, lm_moves_if_doomed, lm_moves_if_ahead, lm_moves_if_not_ahead, fLendD, fiZipM, fsAugI, fsBreak, fsDispO, fsApp, fsPo2, fsPo3, fsPo4, fpTwo, fpThree, fpFour, fpD, fpN, fpE, fpDisp, fnZipT, fCallK, pickL]
  refine isEr_step rfl (E.exc i hi) (E.k0 i hi) ?_
  refine isEr_step rfl (E.exc i hi) (E.k1 i hi) ?_
  refine isEr_step rfl (E.exc i hi) (E.k2 i hi) ?_
  refine ⟨_, rfl, ?_⟩
  refine isEr_step rfl (E.exc i hi) (E.k3 i hi) ?_
  refine isEr_step rfl (E.exc i hi) (E.k4 i hi) ?_
  refine isEr_step rfl (E.exc i hi) (E.k5 i hi) ?_
  refine ⟨_, add8 _ _ (by simp), _, rfl, ?_⟩
  refine isEr_step rfl (E.exc i hi) (E.k6 i hi) ?_
  refine isEr_step rfl (E.exc i hi) (E.k7 i hi) ?_
  refine isEr_step rfl (E.exc i hi) (E.kValueError i hi) ?_
  refine ⟨_, add8 _ _ (by simp), _, rfl, ?_⟩
  refine isEr_step rfl (E.exc i hi) (E.kLookupError i hi) ?_
  refine isEr_step rfl (E.exc i hi) (E.kOverflowError i hi) ?_
  refine isEr_step rfl (E.exc i hi) (E.kKeyError i hi) ?_
  refine ⟨_, add8 _ _ (by simp), _, rfl, ?_⟩
  refine isEr_step rfl (E.exc i hi) (E.kIndexError i hi) ?_
  refine isEr_step rfl (E.exc i hi) (E.kRuntimeError i hi) ?_
  refine ⟨_, add8 _ _ (by simp), ?_⟩
  have hd : ∀ i, i < 8 → PyData.list (((([PyData.bool (decide (i = 0)), .bool (decide (i = 1)), .bool (decide (i = 2))] ++ [.bool (decide (i = 3)), .bool (decide (i = 4)), .bool (decide (i = 5))]) ++ [.bool (decide (i = 6)), .bool (decide (i = 7)), .bool (decide (i < 6))]) ++ [.bool (decide (i = 6)), .bool (decide (i = 7)), .bool (decide False)]) ++ [.bool (decide False), .bool (decide False)]) = due8 i
    | 0, _ => rfl
    | 1, _ => rfl
    | 2, _ => rfl
    | 3, _ => rfl
    | 4, _ => rfl
    | 5, _ => rfl
    | 6, _ => rfl
    | 7, _ => rfl
    | i + 8, h => absurd h (by omega)
  rw [← hd i hi] at z
  exact z
theorem ok_law_due : ∀ ρ k, W_law_due ρ k → fBody 3 w_law_due ρ k := by
  rintro ⟨sl, n⟩ k ⟨i, e, hi, z⟩
  simp only at e
  subst e
  simp [w_law_due]
  have go : ∀ (u : Nat), u = (if i < 6 then 8 else if i = 6 then 9 else 10 : Nat) → fnComp (fiRange1 (flCons (fC (PyData.int 14)) flNil)) (fgN 2) ftYes
          (fOp gInX (fVar 2) (fTup (flCons (fVar 0) (flCons (fVar 1) flNil)))) [2]
          { sl := [Sl.d (PyData.int ↑i), Sl.d (PyData.int u), Sl.no], n := n } fun ds ρ1 =>
          k (PyData.list ds) { sl := [Sl.d (PyData.int ↑i)], n := ρ1.n } := by
    intro u hu
    refine fnComp_i ?_
    simp [and_assoc, Rho.set, dropOwn, ftLend, fLend, lendR, frz, ow, nList, -forall_exists_index, fBody, fsSeq, fsIf, fsRet, fsNext, fsDrop, fsAsg, fsNever, fsFor, fsOwn, fsPar2, fsPar3, fsPar_od, fsPar_do, fsPar_oo, fVar, fC, fUn, fOp, fChain, fTup, fLst, fCall, faD, faSt, flCons, flNil, fSl, foSome, foNone, fAnd, fOr, fNot, fIf, fOfN, fn1, fnLst, fnCat, fgN, fgTup, fgCons, fgNil, fiSeq, fiRange1, fiRange2, fiEnumA, fiZip, ftOr, ftAnd, ftNot, ftB, ftT, ftYes, truD_b, truD_i, truD_l, truD_t, truD_n, gIx_t0, gIx_t1, gIx_t2, gSl_t, gSl_l, gIsT, notDict, isT, isN, tyName, gLen_t, gLen_l, gTuple_l, gCmp, gAdd_ii, gAdd_ll, PD.gSub, gNeg, gMod, seqD, forD, wipeR, gEqA, gNeA, gEq_ii, gNe_ii, gEq_tt, gIn_ints, gIn_intsL, gNotIn_ints, gNotIn_intsL, fM0, fM1, fJoined, fJ, flStar, starD, fCall0, gIsTX, noInst_n, noInst_b, noInst_i, noInst_s, noInst_l, noInst_t, fFld, fMeth, fMake, faNil, fsFld, fLendO, fDisp, fpCons, fpNil, fDict0, fiAny, walkD, fiOver, dKeys, dVals, dPairs, fsOwnD, fsPut, fOwnIx, fPop, fsExt, fDc, compK, fGet, lk_deeds, lk_steps, lk_good, lk_live, lk_hold, lk_ahead, lk_loose, lk_tails, lm_good_tails, lm_has_form, lm_can_be_held, lm_moves, lm_moves_if_doomed, lm_moves_if_ahead, lm_moves_if_not_ahead, fLendD, fiZipM, fsAugI, fsBreak, fsDispO, fsApp, fsPo2, fsPo3, fsPo4, fpTwo, fpThree, fpFour, fpD, fpN, fpE, fpDisp, fnZipT, fCallK, pickL]
    refine ⟨by simp [rangeD], ?_⟩
    have er : rangeD 0 14 = (List.range 14).map fun k => PyData.int (k : Nat) := by rfl
    rw [er]
    refine comp_all _ (fun k => PyData.bool (decide (k = i) || decide (k = if i < 6 then 8 else if i = 6 then 9 else 10))) _ (fun x hx kt hk => ?_) ?_
    · simp [and_assoc, Rho.set, dropOwn, ftLend, fLend, lendR, frz, ow, nList, -forall_exists_index, fBody, fsSeq, fsIf, fsRet, fsNext, fsDrop, fsAsg, fsNever, fsFor, fsOwn, fsPar2, fsPar3, fsPar_od, fsPar_do, fsPar_oo, fVar, fC, fUn, fOp, fChain, fTup, fLst, fCall, faD, faSt, flCons, flNil, fSl, foSome, foNone, fAnd, fOr, fNot, fIf, fOfN, fn1, fnLst, fnCat, fgN, fgTup, fgCons, fgNil, fiSeq, fiRange1, fiRange2, fiEnumA, fiZip, ftOr, ftAnd, ftNot, ftB, ftT, ftYes, truD_b, truD_i, truD_l, truD_t, truD_n, gIx_t0, gIx_t1, gIx_t2, gSl_t, gSl_l, gIsT, notDict, isT, isN, tyName, gLen_t, gLen_l, gTuple_l, gCmp, gAdd_ii, gAdd_ll, PD.gSub, gNeg, gMod, seqD, forD, wipeR, gEqA, gNeA, gEq_ii, gNe_ii, gEq_tt, gIn_ints, gIn_intsL, gNotIn_ints, gNotIn_intsL, fM0, fM1, fJoined, fJ, flStar, starD, fCall0, gIsTX, noInst_n, noInst_b, noInst_i, noInst_s, noInst_l, noInst_t, fFld, fMeth, fMake, faNil, fsFld, fLendO, fDisp, fpCons, fpNil, fDict0, fiAny, walkD, fiOver, dKeys, dVals, dPairs, fsOwnD, fsPut, fOwnIx, fPop, fsExt, fDc, compK, fGet, lk_deeds, lk_steps, lk_good, lk_live, lk_hold, lk_ahead, lk_loose, lk_tails, lm_good_tails, lm_has_form, lm_can_be_held, lm_moves, lm_moves_if_doomed, lm_moves_if_ahead, lm_moves_if_not_ahead, fLendD, fiZipM, fsAugI, fsBreak, fsDispO, fsApp, fsPo2, fsPo3, fsPo4, fpTwo, fpThree, fpFour, fpD, fpN, fpE, fpDisp, fnZipT, fCallK, pickL]
      have hg : gInX (PyData.int x) (PyData.tuple [PyData.int i, PyData.int u]) = some (.bool (decide ((x : Int) ∈ [(i : Int), (u : Int)]))) := gIn_ints [(i : Int), (u : Int)] x
      refine ⟨_, hg, ?_⟩
      have e2 : decide ((x : Int) ∈ [(i : Int), (u : Int)]) = (decide (x = i) || decide (x = if i < 6 then 8 else if i = 6 then 9 else 10)) := by
        rw [hu]
        simp only [List.mem_cons, List.not_mem_nil, or_false, Int.natCast_inj, Bool.decide_or]
      rw [e2]
      exact hk _ rfl
    · exact z
  simp [and_assoc, Rho.set, dropOwn, ftLend, fLend, lendR, frz, ow, nList, -forall_exists_index, fBody, fsSeq, fsIf, fsRet, fsNext, fsDrop, fsAsg, fsNever, fsFor, fsOwn, fsPar2, fsPar3, fsPar_od, fsPar_do, fsPar_oo, fVar, fC, fUn, fOp, fChain, fTup, fLst, fCall, faD, faSt, flCons, flNil, fSl, foSome, foNone, fAnd, fOr, fNot, fIf, fOfN, fn1, fnLst, fnCat, fgN, fgTup, fgCons, fgNil, fiSeq, fiRange1, fiRange2, fiEnumA, fiZip, ftOr, ftAnd, ftNot, ftB, ftT, ftYes, truD_b, truD_i, truD_l, truD_t, truD_n, gIx_t0, gIx_t1, gIx_t2, gSl_t, gSl_l, gIsT, notDict, isT, isN, tyName, gLen_t, gLen_l, gTuple_l, gCmp, gAdd_ii, gAdd_ll, PD.gSub, gNeg, gMod, seqD, forD, wipeR, gEqA, gNeA, gEq_ii, gNe_ii, gEq_tt, gIn_ints, gIn_intsL, gNotIn_ints, gNotIn_intsL, fM0, fM1, fJoined, fJ, flStar, starD, fCall0, gIsTX, noInst_n, noInst_b, noInst_i, noInst_s, noInst_l, noInst_t, fFld, fMeth, fMake, faNil, fsFld, fLendO, fDisp, fpCons, fpNil, fDict0, fiAny, walkD, fiOver, dKeys, dVals, dPairs, fsOwnD, fsPut, fOwnIx, fPop, fsExt, fDc, compK, fGet, lk_deeds, lk_steps, lk_good, lk_live, lk_hold, lk_ahead, lk_loose, lk_tails, lm_good_tails, lm_has_form, lm_can_be_held, lm_moves, lm_moves_if_doomed, lm_moves_if_ahead, lm_moves_if_not_ahead, fLendD, fiZipM, fsAugI, fsBreak, fsDispO, fsApp, fsPo2, fsPo3, fsPo4, fpTwo, fpThree, fpFour, fpD, fpN, fpE, fpDisp, fnZipT, fCallK, pickL]
  by_cases h6 : i < 6
  · refine .inr ⟨by omega, go 8 (by simp [h6])⟩
  · by_cases h : i = 6
    · exact .inl ⟨by omega, .inr ⟨by omega, go 9 (by simp [h])⟩⟩
    · exact .inl ⟨by omega, .inl ⟨by omega, go 10 (by simp [h6, h])⟩⟩
theorem th_int (j : Int) (h : j.natAbs < 5000) : Th (.int j) := by
  refine th_of (by simp [tame]; omega) (by simp [PyData.depth]) ?_
  by_cases z : j = 0
  · subst z
    decide
  · have : j.natAbs.log2 < 13 := (Nat.log2_lt (by omega)).mpr (Nat.lt_of_lt_of_le h (by decide))
    simp only [PyData.weight]
    split <;> omega
theorem mul_w (c : Int) (h0 : 0 ≤ c) (h : c < 9) : ∃ s : Str, gMulY (PyData.str (Str.ofString "w")) (.int c) = some (.str s) ∧ Th (.str s) := by
  have hc9 : c = 0 ∨ c = 1 ∨ c = 2 ∨ c = 3 ∨ c = 4 ∨ c = 5 ∨ c = 6 ∨ c = 7 ∨ c = 8 := by omega
  rcases hc9 with rfl | rfl | rfl | rfl | rfl | rfl | rfl | rfl | rfl
  · exact ⟨"", rfl, by unfold Th; decide +kernel⟩
  · exact ⟨"w", rfl, by unfold Th; decide +kernel⟩
  · exact ⟨"ww", rfl, by unfold Th; decide +kernel⟩
  · exact ⟨"www", rfl, by unfold Th; decide +kernel⟩
  · exact ⟨"wwww", rfl, by unfold Th; decide +kernel⟩
  · exact ⟨"wwwww", rfl, by unfold Th; decide +kernel⟩
  · exact ⟨"wwwwww", rfl, by unfold Th; decide +kernel⟩
  · exact ⟨"wwwwwww", rfl, by unfold Th; decide +kernel⟩
  · exact ⟨"wwwwwwww", rfl, by unfold Th; decide +kernel⟩
abbrev th14 : List D := [PyData.none, PyData.int 0, PyData.int (-1), PyData.bool true, PyData.bool false,
                          PyData.str (Str.ofString ""), PyData.str (Str.ofString "hold"), PyData.tuple [],
                          PyData.tuple [PyData.int 0, PyData.tuple [PyData.int 1]], PyData.list [],
                          PyData.list [PyData.int 2], PyData.dict [],
                          PyData.dict
                            (dPut [] (PyData.str (Str.ofString "a")) (NestedKey.text (Str.ofString "a"))
                              (PyData.int 1)),
                          PyData.int (10 ^ Int.toNat 30)]
theorem th14_ok : (th14.all fun x => fitsP (.list (List.replicate 6 x))) = true := by decide +kernel
theorem ok_law_thing : ∀ ρ k, W_law_thing ρ k → fBody 2 w_law_thing ρ k := by
  rintro ⟨sl, n⟩ k ⟨e, _, hn, z⟩
  simp only at e
  subst e
  simp [w_law_thing]
  simp [and_assoc, Rho.set, dropOwn, ftLend, fLend, lendR, frz, ow, nList, -forall_exists_index, fBody, fsSeq, fsIf, fsRet, fsNext, fsDrop, fsAsg, fsNever, fsFor, fsOwn, fsPar2, fsPar3, fsPar_od, fsPar_do, fsPar_oo, fVar, fC, fUn, fOp, fChain, fTup, fLst, fCall, faD, faSt, flCons, flNil, fSl, foSome, foNone, fAnd, fOr, fNot, fIf, fOfN, fn1, fnLst, fnCat, fgN, fgTup, fgCons, fgNil, fiSeq, fiRange1, fiRange2, fiEnumA, fiZip, ftOr, ftAnd, ftNot, ftB, ftT, ftYes, truD_b, truD_i, truD_l, truD_t, truD_n, gIx_t0, gIx_t1, gIx_t2, gSl_t, gSl_l, gIsT, notDict, isT, isN, tyName, gLen_t, gLen_l, gTuple_l, gCmp, gAdd_ii, gAdd_ll, PD.gSub, gNeg, gMod, seqD, forD, wipeR, gEqA, gNeA, gEq_ii, gNe_ii, gEq_tt, gIn_ints, gIn_intsL, gNotIn_ints, gNotIn_intsL, fM0, fM1, fJoined, fJ, flStar, starD, fCall0, gIsTX, noInst_n, noInst_b, noInst_i, noInst_s, noInst_l, noInst_t, fFld, fMeth, fMake, faNil, fsFld, fLendO, fDisp, fpCons, fpNil, fDict0, fiAny, walkD, fiOver, dKeys, dVals, dPairs, fsOwnD, fsPut, fOwnIx, fPop, fsExt, fDc, compK, fGet, lk_deeds, lk_steps, lk_good, lk_live, lk_hold, lk_ahead, lk_loose, lk_tails, lm_good_tails, lm_has_form, lm_can_be_held, lm_moves, lm_moves_if_doomed, lm_moves_if_ahead, lm_moves_if_not_ahead, fLendD, fiZipM, fsAugI, fsBreak, fsDispO, fsApp, fsPo2, fsPo3, fsPo4, fpTwo, fpThree, fpFour, fpD, fpN, fpE, fpDisp, fnZipT, fCallK, pickL]
  refine ⟨_, rfl, _, rfl, ?_⟩
  refine ⟨5000, rfl, by omega, by omega, by show n < _; have : n + 10 ≤ _ := hn; omega, fun j hj0 hj => ?_⟩
  refine ⟨9, rfl, by omega, by omega, by show n + 1 < _; have : n + 10 ≤ _ := hn; omega, fun c hc0 hc => ?_⟩
  have hn : n + 10 ≤ 1000000000000 := hn
  obtain ⟨s, hs, hts⟩ := mul_w c hc0 hc
  refine ⟨_, hs, by rw [sizeLine_eq]; omega, _, rfl, by simp, by simp, by show n + 1 + 1 + 1 ≤ _; omega, fun x hx nn hnn => z x nn ?_ (by have hnn : nn ≤ n + 1 + 1 + 1 := hnn; show nn ≤ n + 10; omega)⟩
  rcases List.mem_append.mp (show x ∈ th14 ++ [.int j, .str s] from hx) with hx | hx
  · exact List.all_eq_true.mp th14_ok x hx
  · simp only [List.mem_cons, List.not_mem_nil, or_false] at hx
    rcases hx with rfl | rfl
    · exact th_int j (by omega)
    · exact hts
theorem okx_law_raised (C_BadGuard C_BadKind C_BadPaper C_BadText C_BadWish C_Nothing C_OutOfPlace C_TooMany : Addr) : ∀ ρ k, U_law_raised C_BadGuard C_BadKind C_BadPaper C_BadText C_BadWish C_Nothing C_OutOfPlace C_TooMany ρ k → fBodyX 2 (u_law_raised C_BadGuard C_BadKind C_BadPaper C_BadText C_BadWish C_Nothing C_OutOfPlace C_TooMany) ρ k := by
  rintro ⟨sl, n⟩ k ⟨i, d, e, hi, z⟩
  simp only at e
  subst e
  simp [u_law_raised, fBodyX, fxOr, fxThen, fxIf, fxRaise, fxNo]
  simp [and_assoc, Rho.set, dropOwn, ftLend, fLend, lendR, frz, ow, nList, -forall_exists_index, fBody, fsSeq, fsIf, fsRet, fsNext, fsDrop, fsAsg, fsNever, fsFor, fsOwn, fsPar2, fsPar3, fsPar_od, fsPar_do, fsPar_oo, fVar, fC, fUn, fOp, fChain, fTup, fLst, fCall, faD, faSt, flCons, flNil, fSl, foSome, foNone, fAnd, fOr, fNot, fIf, fOfN, fn1, fnLst, fnCat, fgN, fgTup, fgCons, fgNil, fiSeq, fiRange1, fiRange2, fiEnumA, fiZip, ftOr, ftAnd, ftNot, ftB, ftT, ftYes, truD_b, truD_i, truD_l, truD_t, truD_n, gIx_t0, gIx_t1, gIx_t2, gSl_t, gSl_l, gIsT, notDict, isT, isN, tyName, gLen_t, gLen_l, gTuple_l, gCmp, gAdd_ii, gAdd_ll, PD.gSub, gNeg, gMod, seqD, forD, wipeR, gEqA, gNeA, gEq_ii, gNe_ii, gEq_tt, gIn_ints, gIn_intsL, gNotIn_ints, gNotIn_intsL, fM0, fM1, fJoined, fJ, flStar, starD, fCall0, gIsTX, noInst_n, noInst_b, noInst_i, noInst_s, noInst_l, noInst_t, fFld, fMeth, fMake, faNil, fsFld, fLendO, fDisp, fpCons, fpNil, fDict0, fiAny, walkD, fiOver, dKeys, dVals, dPairs, fsOwnD, fsPut, fOwnIx, fPop, fsExt, fDc, compK, fGet, lk_deeds, lk_steps, lk_good, lk_live, lk_hold, lk_ahead, lk_loose, lk_tails, lm_good_tails, lm_has_form, lm_can_be_held, lm_moves, lm_moves_if_doomed, lm_moves_if_ahead, lm_moves_if_not_ahead, fLendD, fiZipM, fsAugI, fsBreak, fsDispO, fsApp, fsPo2, fsPo3, fsPo4, fpTwo, fpThree, fpFour, fpD, fpN, fpE, fpDisp, fnZipT, fCallK, pickL]
  match i, hi, z with
  | 0, _, z => exact .inl ⟨rfl, z⟩
  | 1, _, z => exact .inr ⟨by omega, .inl ⟨rfl, z⟩⟩
  | 2, _, z => exact .inr ⟨by omega, .inr ⟨by omega, .inl ⟨rfl, z⟩⟩⟩
  | 3, _, z => exact .inr ⟨by omega, .inr ⟨by omega, .inr ⟨by omega, .inl ⟨rfl, z⟩⟩⟩⟩
  | 4, _, z => exact .inr ⟨by omega, .inr ⟨by omega, .inr ⟨by omega, .inr ⟨by omega, .inl ⟨rfl, z⟩⟩⟩⟩⟩
  | 5, _, z => exact .inr ⟨by omega, .inr ⟨by omega, .inr ⟨by omega, .inr ⟨by omega, .inr ⟨by omega, .inl ⟨rfl, z⟩⟩⟩⟩⟩⟩
  | 6, _, z => exact .inr ⟨by omega, .inr ⟨by omega, .inr ⟨by omega, .inr ⟨by omega, .inr ⟨by omega, .inr ⟨by omega, .inl ⟨rfl, z⟩⟩⟩⟩⟩⟩⟩
  | 7, _, z => exact .inr ⟨by omega, .inr ⟨by omega, .inr ⟨by omega, .inr ⟨by omega, .inr ⟨by omega, .inr ⟨by omega, .inr ⟨by omega, z⟩⟩⟩⟩⟩⟩⟩
  | i + 8, h, _ => exact absurd h (by omega)
theorem ok_law_raised : ∀ ρ k, W_law_raised ρ k → fBody 2 w_law_raised ρ k := by
  rintro ⟨sl, n⟩ k ⟨d, e, h, z⟩
  exact h.elim
theorem ok_law_caught {C_BadGuard C_BadKind C_BadPaper C_BadText C_BadWish C_Nothing C_OutOfPlace C_TooMany : Addr} (E : ErF K C_BadGuard C_BadKind C_BadPaper C_BadText C_BadWish C_Nothing C_OutOfPlace C_TooMany) : ∀ ρ k, W_law_caught C_BadGuard C_BadKind C_BadPaper C_BadText C_BadWish C_Nothing C_OutOfPlace C_TooMany ρ k → fBody 4 (w_law_caught K C_BadGuard C_BadKind C_BadPaper C_BadText C_BadWish C_Nothing C_OutOfPlace C_TooMany) ρ k := by
  rintro ⟨sl, n⟩ k ⟨i, d, e, hi, z⟩
  simp only at e
  subst e
  simp [w_law_caught]
  simp [and_assoc, Rho.set, dropOwn, ftLend, fLend, lendR, frz, ow, nList, -forall_exists_index, fBody, fsSeq, fsIf, fsRet, fsNext, fsDrop, fsAsg, fsNever, fsFor, fsOwn, fsPar2, fsPar3, fsPar_od, fsPar_do, fsPar_oo, fVar, fC, fUn, fOp, fChain, fTup, fLst, fCall, faD, faSt, flCons, flNil, fSl, foSome, foNone, fAnd, fOr, fNot, fIf, fOfN, fn1, fnLst, fnCat, fgN, fgTup, fgCons, fgNil, fiSeq, fiRange1, fiRange2, fiEnumA, fiZip, ftOr, ftAnd, ftNot, ftB, ftT, ftYes, truD_b, truD_i, truD_l, truD_t, truD_n, gIx_t0, gIx_t1, gIx_t2, gSl_t, gSl_l, gIsT, notDict, isT, isN, tyName, gLen_t, gLen_l, gTuple_l, gCmp, gAdd_ii, gAdd_ll, PD.gSub, gNeg, gMod, seqD, forD, wipeR, gEqA, gNeA, gEq_ii, gNe_ii, gEq_tt, gIn_ints, gIn_intsL, gNotIn_ints, gNotIn_intsL, fM0, fM1, fJoined, fJ, flStar, starD, fCall0, gIsTX, noInst_n, noInst_b, noInst_i, noInst_s, noInst_l, noInst_t, fFld, fMeth, fMake, faNil, fsFld, fLendO, fDisp, fpCons, fpNil, fDict0, fiAny, walkD, fiOver, dKeys, dVals, dPairs, fsOwnD, fsPut, fOwnIx, fPop, fsExt, fDc, compK, fGet, lk_deeds, lk_steps, lk_good, lk_live, lk_hold, lk_ahead, lk_loose, lk_tails, lm_good_tails, lm_has_form, lm_can_be_held, lm_moves, lm_moves_if_doomed, lm_moves_if_ahead, lm_moves_if_not_ahead, fLendD, fiZipM, fsAugI, fsBreak, fsDispO, fsApp, fsPo2, fsPo3, fsPo4, fpTwo, fpThree, fpFour, fpD, fpN, fpE, fpDisp, fnZipT, fCallK, pickL]
  simp only [fsTryD]
  refine .inr ?_
  simp only [fxCall]
  simp [and_assoc, Rho.set, dropOwn, ftLend, fLend, lendR, frz, ow, nList, -forall_exists_index, fBody, fsSeq, fsIf, fsRet, fsNext, fsDrop, fsAsg, fsNever, fsFor, fsOwn, fsPar2, fsPar3, fsPar_od, fsPar_do, fsPar_oo, fVar, fC, fUn, fOp, fChain, fTup, fLst, fCall, faD, faSt, flCons, flNil, fSl, foSome, foNone, fAnd, fOr, fNot, fIf, fOfN, fn1, fnLst, fnCat, fgN, fgTup, fgCons, fgNil, fiSeq, fiRange1, fiRange2, fiEnumA, fiZip, ftOr, ftAnd, ftNot, ftB, ftT, ftYes, truD_b, truD_i, truD_l, truD_t, truD_n, gIx_t0, gIx_t1, gIx_t2, gSl_t, gSl_l, gIsT, notDict, isT, isN, tyName, gLen_t, gLen_l, gTuple_l, gCmp, gAdd_ii, gAdd_ll, PD.gSub, gNeg, gMod, seqD, forD, wipeR, gEqA, gNeA, gEq_ii, gNe_ii, gEq_tt, gIn_ints, gIn_intsL, gNotIn_ints, gNotIn_intsL, fM0, fM1, fJoined, fJ, flStar, starD, fCall0, gIsTX, noInst_n, noInst_b, noInst_i, noInst_s, noInst_l, noInst_t, fFld, fMeth, fMake, faNil, fsFld, fLendO, fDisp, fpCons, fpNil, fDict0, fiAny, walkD, fiOver, dKeys, dVals, dPairs, fsOwnD, fsPut, fOwnIx, fPop, fsExt, fDc, compK, fGet, lk_deeds, lk_steps, lk_good, lk_live, lk_hold, lk_ahead, lk_loose, lk_tails, lm_good_tails, lm_has_form, lm_can_be_held, lm_moves, lm_moves_if_doomed, lm_moves_if_ahead, lm_moves_if_not_ahead, fLendD, fiZipM, fsAugI, fsBreak, fsDispO, fsApp, fsPo2, fsPo3, fsPo4, fpTwo, fpThree, fpFour, fpD, fpN, fpE, fpDisp, fnZipT, fCallK, pickL]
  refine ⟨i, d, rfl, hi, ?_⟩
  refine ⟨decide (i < 6), E.a i hi, fun hb => ⟨_, rfl, Nat.le_refl 4, ?_⟩, fun hb => ⟨true, E.b i (by simpa using hb) hi, fun _ => ⟨_, rfl, Nat.le_refl 4, ?_⟩, fun h => nomatch h⟩⟩
  · simp [and_assoc, Rho.set, dropOwn, ftLend, fLend, lendR, frz, ow, nList, -forall_exists_index, fBody, fsSeq, fsIf, fsRet, fsNext, fsDrop, fsAsg, fsNever, fsFor, fsOwn, fsPar2, fsPar3, fsPar_od, fsPar_do, fsPar_oo, fVar, fC, fUn, fOp, fChain, fTup, fLst, fCall, faD, faSt, flCons, flNil, fSl, foSome, foNone, fAnd, fOr, fNot, fIf, fOfN, fn1, fnLst, fnCat, fgN, fgTup, fgCons, fgNil, fiSeq, fiRange1, fiRange2, fiEnumA, fiZip, ftOr, ftAnd, ftNot, ftB, ftT, ftYes, truD_b, truD_i, truD_l, truD_t, truD_n, gIx_t0, gIx_t1, gIx_t2, gSl_t, gSl_l, gIsT, notDict, isT, isN, tyName, gLen_t, gLen_l, gTuple_l, gCmp, gAdd_ii, gAdd_ll, PD.gSub, gNeg, gMod, seqD, forD, wipeR, gEqA, gNeA, gEq_ii, gNe_ii, gEq_tt, gIn_ints, gIn_intsL, gNotIn_ints, gNotIn_intsL, fM0, fM1, fJoined, fJ, flStar, starD, fCall0, gIsTX, noInst_n, noInst_b, noInst_i, noInst_s, noInst_l, noInst_t, fFld, fMeth, fMake, faNil, fsFld, fLendO, fDisp, fpCons, fpNil, fDict0, fiAny, walkD, fiOver, dKeys, dVals, dPairs, fsOwnD, fsPut, fOwnIx, fPop, fsExt, fDc, compK, fGet, lk_deeds, lk_steps, lk_good, lk_live, lk_hold, lk_ahead, lk_loose, lk_tails, lm_good_tails, lm_has_form, lm_can_be_held, lm_moves, lm_moves_if_doomed, lm_moves_if_ahead, lm_moves_if_not_ahead, fLendD, fiZipM, fsAugI, fsBreak, fsDispO, fsApp, fsPo2, fsPo3, fsPo4, fpTwo, fpThree, fpFour, fpD, fpN, fpE, fpDisp, fnZipT, fCallK, pickL]
    exact ⟨i, fl8 d i, rfl, hi, z⟩
  · simp [and_assoc, Rho.set, dropOwn, ftLend, fLend, lendR, frz, ow, nList, -forall_exists_index, fBody, fsSeq, fsIf, fsRet, fsNext, fsDrop, fsAsg, fsNever, fsFor, fsOwn, fsPar2, fsPar3, fsPar_od, fsPar_do, fsPar_oo, fVar, fC, fUn, fOp, fChain, fTup, fLst, fCall, faD, faSt, flCons, flNil, fSl, foSome, foNone, fAnd, fOr, fNot, fIf, fOfN, fn1, fnLst, fnCat, fgN, fgTup, fgCons, fgNil, fiSeq, fiRange1, fiRange2, fiEnumA, fiZip, ftOr, ftAnd, ftNot, ftB, ftT, ftYes, truD_b, truD_i, truD_l, truD_t, truD_n, gIx_t0, gIx_t1, gIx_t2, gSl_t, gSl_l, gIsT, notDict, isT, isN, tyName, gLen_t, gLen_l, gTuple_l, gCmp, gAdd_ii, gAdd_ll, PD.gSub, gNeg, gMod, seqD, forD, wipeR, gEqA, gNeA, gEq_ii, gNe_ii, gEq_tt, gIn_ints, gIn_intsL, gNotIn_ints, gNotIn_intsL, fM0, fM1, fJoined, fJ, flStar, starD, fCall0, gIsTX, noInst_n, noInst_b, noInst_i, noInst_s, noInst_l, noInst_t, fFld, fMeth, fMake, faNil, fsFld, fLendO, fDisp, fpCons, fpNil, fDict0, fiAny, walkD, fiOver, dKeys, dVals, dPairs, fsOwnD, fsPut, fOwnIx, fPop, fsExt, fDc, compK, fGet, lk_deeds, lk_steps, lk_good, lk_live, lk_hold, lk_ahead, lk_loose, lk_tails, lm_good_tails, lm_has_form, lm_can_be_held, lm_moves, lm_moves_if_doomed, lm_moves_if_ahead, lm_moves_if_not_ahead, fLendD, fiZipM, fsAugI, fsBreak, fsDispO, fsApp, fsPo2, fsPo3, fsPo4, fpTwo, fpThree, fpFour, fpD, fpN, fpE, fpDisp, fnZipT, fCallK, pickL]
    exact ⟨i, fl8 d i, rfl, hi, z⟩
abbrev six (d : D) : D := .list [d, d, d, d, d, d]
theorem repr6 {d : D} (h : Th d) : gReprP (six d) = some (.str (six d).shown) := by
  have h : fitsP (six d) = true := h
  show (if fitsP (six d) = true then some (PyData.str (six d).shown) else none) = _
  rw [if_pos h]
abbrev dues : List D := (List.range 8).map due8
theorem dues_same : gNe (.list dues) (.list dues) = some (.bool false) := by rfl
theorem range8 : rangeD 0 8 = (List.range 8).map fun k : Nat => PyData.int k := by rfl
theorem due_list {a b c d e f x6 x7 : Sl} {n : Nat} {k : List D → Rho → Prop} (q : k dues ⟨[a, b, c, d, e, f, x6, x7], n⟩) : fnComp (fiRange1 (flCons (fC (PyData.int 8)) flNil)) (fgN 7) ftYes (fCall 1 W_law_due (faD (flCons (fVar 7) flNil))) [7] ⟨[a, b, c, d, e, f, x6, x7], n⟩ k := by
  refine fnComp_i ?_
  simp [and_assoc, Rho.set, dropOwn, ftLend, fLend, lendR, frz, ow, nList, -forall_exists_index, fBody, fsSeq, fsIf, fsRet, fsNext, fsDrop, fsAsg, fsNever, fsFor, fsOwn, fsPar2, fsPar3, fsPar_od, fsPar_do, fsPar_oo, fVar, fC, fUn, fOp, fChain, fTup, fLst, fCall, faD, faSt, flCons, flNil, fSl, foSome, foNone, fAnd, fOr, fNot, fIf, fOfN, fn1, fnLst, fnCat, fgN, fgTup, fgCons, fgNil, fiSeq, fiRange1, fiRange2, fiEnumA, fiZip, ftOr, ftAnd, ftNot, ftB, ftT, ftYes, truD_b, truD_i, truD_l, truD_t, truD_n, gIx_t0, gIx_t1, gIx_t2, gSl_t, gSl_l, gIsT, notDict, isT, isN, tyName, gLen_t, gLen_l, gTuple_l, gCmp, gAdd_ii, gAdd_ll, PD.gSub, gNeg, gMod, seqD, forD, wipeR, gEqA, gNeA, gEq_ii, gNe_ii, gEq_tt, gIn_ints, gIn_intsL, gNotIn_ints, gNotIn_intsL, fM0, fM1, fJoined, fJ, flStar, starD, fCall0, gIsTX, noInst_n, noInst_b, noInst_i, noInst_s, noInst_l, noInst_t, fFld, fMeth, fMake, faNil, fsFld, fLendO, fDisp, fpCons, fpNil, fDict0, fiAny, walkD, fiOver, dKeys, dVals, dPairs, fsOwnD, fsPut, fOwnIx, fPop, fsExt, fDc, compK, fGet, lk_deeds, lk_steps, lk_good, lk_live, lk_hold, lk_ahead, lk_loose, lk_tails, lm_good_tails, lm_has_form, lm_can_be_held, lm_moves, lm_moves_if_doomed, lm_moves_if_ahead, lm_moves_if_not_ahead, fLendD, fiZipM, fsAugI, fsBreak, fsDispO, fsApp, fsPo2, fsPo3, fsPo4, fpTwo, fpThree, fpFour, fpD, fpN, fpE, fpDisp, fnZipT, fCallK, pickL]
  refine ⟨by simp [rangeD], ?_⟩
  rw [range8]
  refine comp_all _ due8 _ (fun i hi kt hk => ?_) q
  simp [and_assoc, Rho.set, dropOwn, ftLend, fLend, lendR, frz, ow, nList, -forall_exists_index, fBody, fsSeq, fsIf, fsRet, fsNext, fsDrop, fsAsg, fsNever, fsFor, fsOwn, fsPar2, fsPar3, fsPar_od, fsPar_do, fsPar_oo, fVar, fC, fUn, fOp, fChain, fTup, fLst, fCall, faD, faSt, flCons, flNil, fSl, foSome, foNone, fAnd, fOr, fNot, fIf, fOfN, fn1, fnLst, fnCat, fgN, fgTup, fgCons, fgNil, fiSeq, fiRange1, fiRange2, fiEnumA, fiZip, ftOr, ftAnd, ftNot, ftB, ftT, ftYes, truD_b, truD_i, truD_l, truD_t, truD_n, gIx_t0, gIx_t1, gIx_t2, gSl_t, gSl_l, gIsT, notDict, isT, isN, tyName, gLen_t, gLen_l, gTuple_l, gCmp, gAdd_ii, gAdd_ll, PD.gSub, gNeg, gMod, seqD, forD, wipeR, gEqA, gNeA, gEq_ii, gNe_ii, gEq_tt, gIn_ints, gIn_intsL, gNotIn_ints, gNotIn_intsL, fM0, fM1, fJoined, fJ, flStar, starD, fCall0, gIsTX, noInst_n, noInst_b, noInst_i, noInst_s, noInst_l, noInst_t, fFld, fMeth, fMake, faNil, fsFld, fLendO, fDisp, fpCons, fpNil, fDict0, fiAny, walkD, fiOver, dKeys, dVals, dPairs, fsOwnD, fsPut, fOwnIx, fPop, fsExt, fDc, compK, fGet, lk_deeds, lk_steps, lk_good, lk_live, lk_hold, lk_ahead, lk_loose, lk_tails, lm_good_tails, lm_has_form, lm_can_be_held, lm_moves, lm_moves_if_doomed, lm_moves_if_ahead, lm_moves_if_not_ahead, fLendD, fiZipM, fsAugI, fsBreak, fsDispO, fsApp, fsPo2, fsPo3, fsPo4, fpTwo, fpThree, fpFour, fpD, fpN, fpE, fpDisp, fnZipT, fCallK, pickL]
  exact ⟨i, rfl, List.mem_range.mp hi, hk _ rfl⟩
theorem mark_list {C_BadGuard C_BadKind C_BadPaper C_BadText C_BadWish C_Nothing C_OutOfPlace C_TooMany : Addr} {a b c g e x6 x7 : Sl} {n : Nat} {d : D} {k : List D → Rho → Prop} (q : k dues ⟨[a, b, c, g, e, .d (all8 C_BadGuard C_BadKind C_BadPaper C_BadText C_BadWish C_Nothing C_OutOfPlace C_TooMany d), x6, x7], n⟩) : fnComp (fiAny (fVar 5)) (fgN 6) ftYes (fCall 1 (W_law_marks C_BadGuard C_BadKind C_BadPaper C_BadText C_BadWish C_Nothing C_OutOfPlace C_TooMany) (faD (flCons (fVar 6) flNil))) [6] ⟨[a, b, c, g, e, .d (all8 C_BadGuard C_BadKind C_BadPaper C_BadText C_BadWish C_Nothing C_OutOfPlace C_TooMany d), x6, x7], n⟩ k := by
  refine fnComp_i ?_
  simp [and_assoc, Rho.set, dropOwn, ftLend, fLend, lendR, frz, ow, nList, -forall_exists_index, fBody, fsSeq, fsIf, fsRet, fsNext, fsDrop, fsAsg, fsNever, fsFor, fsOwn, fsPar2, fsPar3, fsPar_od, fsPar_do, fsPar_oo, fVar, fC, fUn, fOp, fChain, fTup, fLst, fCall, faD, faSt, flCons, flNil, fSl, foSome, foNone, fAnd, fOr, fNot, fIf, fOfN, fn1, fnLst, fnCat, fgN, fgTup, fgCons, fgNil, fiSeq, fiRange1, fiRange2, fiEnumA, fiZip, ftOr, ftAnd, ftNot, ftB, ftT, ftYes, truD_b, truD_i, truD_l, truD_t, truD_n, gIx_t0, gIx_t1, gIx_t2, gSl_t, gSl_l, gIsT, notDict, isT, isN, tyName, gLen_t, gLen_l, gTuple_l, gCmp, gAdd_ii, gAdd_ll, PD.gSub, gNeg, gMod, seqD, forD, wipeR, gEqA, gNeA, gEq_ii, gNe_ii, gEq_tt, gIn_ints, gIn_intsL, gNotIn_ints, gNotIn_intsL, fM0, fM1, fJoined, fJ, flStar, starD, fCall0, gIsTX, noInst_n, noInst_b, noInst_i, noInst_s, noInst_l, noInst_t, fFld, fMeth, fMake, faNil, fsFld, fLendO, fDisp, fpCons, fpNil, fDict0, fiAny, walkD, fiOver, dKeys, dVals, dPairs, fsOwnD, fsPut, fOwnIx, fPop, fsExt, fDc, compK, fGet, lk_deeds, lk_steps, lk_good, lk_live, lk_hold, lk_ahead, lk_loose, lk_tails, lm_good_tails, lm_has_form, lm_can_be_held, lm_moves, lm_moves_if_doomed, lm_moves_if_ahead, lm_moves_if_not_ahead, fLendD, fiZipM, fsAugI, fsBreak, fsDispO, fsApp, fsPo2, fsPo3, fsPo4, fpTwo, fpThree, fpFour, fpD, fpN, fpE, fpDisp, fnZipT, fCallK, pickL]
  refine comp_all (er8 C_BadGuard C_BadKind C_BadPaper C_BadText C_BadWish C_Nothing C_OutOfPlace C_TooMany d) due8 (List.range 8) (fun i hi kt hk => ?_) q
  simp [and_assoc, Rho.set, dropOwn, ftLend, fLend, lendR, frz, ow, nList, -forall_exists_index, fBody, fsSeq, fsIf, fsRet, fsNext, fsDrop, fsAsg, fsNever, fsFor, fsOwn, fsPar2, fsPar3, fsPar_od, fsPar_do, fsPar_oo, fVar, fC, fUn, fOp, fChain, fTup, fLst, fCall, faD, faSt, flCons, flNil, fSl, foSome, foNone, fAnd, fOr, fNot, fIf, fOfN, fn1, fnLst, fnCat, fgN, fgTup, fgCons, fgNil, fiSeq, fiRange1, fiRange2, fiEnumA, fiZip, ftOr, ftAnd, ftNot, ftB, ftT, ftYes, truD_b, truD_i, truD_l, truD_t, truD_n, gIx_t0, gIx_t1, gIx_t2, gSl_t, gSl_l, gIsT, notDict, isT, isN, tyName, gLen_t, gLen_l, gTuple_l, gCmp, gAdd_ii, gAdd_ll, PD.gSub, gNeg, gMod, seqD, forD, wipeR, gEqA, gNeA, gEq_ii, gNe_ii, gEq_tt, gIn_ints, gIn_intsL, gNotIn_ints, gNotIn_intsL, fM0, fM1, fJoined, fJ, flStar, starD, fCall0, gIsTX, noInst_n, noInst_b, noInst_i, noInst_s, noInst_l, noInst_t, fFld, fMeth, fMake, faNil, fsFld, fLendO, fDisp, fpCons, fpNil, fDict0, fiAny, walkD, fiOver, dKeys, dVals, dPairs, fsOwnD, fsPut, fOwnIx, fPop, fsExt, fDc, compK, fGet, lk_deeds, lk_steps, lk_good, lk_live, lk_hold, lk_ahead, lk_loose, lk_tails, lm_good_tails, lm_has_form, lm_can_be_held, lm_moves, lm_moves_if_doomed, lm_moves_if_ahead, lm_moves_if_not_ahead, fLendD, fiZipM, fsAugI, fsBreak, fsDispO, fsApp, fsPo2, fsPo3, fsPo4, fpTwo, fpThree, fpFour, fpD, fpN, fpE, fpDisp, fnZipT, fCallK, pickL]
  exact ⟨i, fl8 d i, rfl, List.mem_range.mp hi, hk _ rfl⟩
theorem caught_list {C_BadGuard C_BadKind C_BadPaper C_BadText C_BadWish C_Nothing C_OutOfPlace C_TooMany : Addr} {a b c e f x6 x7 : Sl} {n : Nat} {d : D} {k : List D → Rho → Prop} (q : k dues ⟨[a, b, c, .d d, e, f, x6, x7], n⟩) : fnComp (fiRange1 (flCons (fC (PyData.int 8)) flNil)) (fgN 7) ftYes (fCall 2 (W_law_caught C_BadGuard C_BadKind C_BadPaper C_BadText C_BadWish C_Nothing C_OutOfPlace C_TooMany) (faD (flCons (fVar 7) (flCons (fVar 3) flNil)))) [7] ⟨[a, b, c, .d d, e, f, x6, x7], n⟩ k := by
  refine fnComp_i ?_
  simp [and_assoc, Rho.set, dropOwn, ftLend, fLend, lendR, frz, ow, nList, -forall_exists_index, fBody, fsSeq, fsIf, fsRet, fsNext, fsDrop, fsAsg, fsNever, fsFor, fsOwn, fsPar2, fsPar3, fsPar_od, fsPar_do, fsPar_oo, fVar, fC, fUn, fOp, fChain, fTup, fLst, fCall, faD, faSt, flCons, flNil, fSl, foSome, foNone, fAnd, fOr, fNot, fIf, fOfN, fn1, fnLst, fnCat, fgN, fgTup, fgCons, fgNil, fiSeq, fiRange1, fiRange2, fiEnumA, fiZip, ftOr, ftAnd, ftNot, ftB, ftT, ftYes, truD_b, truD_i, truD_l, truD_t, truD_n, gIx_t0, gIx_t1, gIx_t2, gSl_t, gSl_l, gIsT, notDict, isT, isN, tyName, gLen_t, gLen_l, gTuple_l, gCmp, gAdd_ii, gAdd_ll, PD.gSub, gNeg, gMod, seqD, forD, wipeR, gEqA, gNeA, gEq_ii, gNe_ii, gEq_tt, gIn_ints, gIn_intsL, gNotIn_ints, gNotIn_intsL, fM0, fM1, fJoined, fJ, flStar, starD, fCall0, gIsTX, noInst_n, noInst_b, noInst_i, noInst_s, noInst_l, noInst_t, fFld, fMeth, fMake, faNil, fsFld, fLendO, fDisp, fpCons, fpNil, fDict0, fiAny, walkD, fiOver, dKeys, dVals, dPairs, fsOwnD, fsPut, fOwnIx, fPop, fsExt, fDc, compK, fGet, lk_deeds, lk_steps, lk_good, lk_live, lk_hold, lk_ahead, lk_loose, lk_tails, lm_good_tails, lm_has_form, lm_can_be_held, lm_moves, lm_moves_if_doomed, lm_moves_if_ahead, lm_moves_if_not_ahead, fLendD, fiZipM, fsAugI, fsBreak, fsDispO, fsApp, fsPo2, fsPo3, fsPo4, fpTwo, fpThree, fpFour, fpD, fpN, fpE, fpDisp, fnZipT, fCallK, pickL]
  refine ⟨by simp [rangeD], ?_⟩
  rw [range8]
  refine comp_all _ due8 _ (fun i hi kt hk => ?_) q
  simp [and_assoc, Rho.set, dropOwn, ftLend, fLend, lendR, frz, ow, nList, -forall_exists_index, fBody, fsSeq, fsIf, fsRet, fsNext, fsDrop, fsAsg, fsNever, fsFor, fsOwn, fsPar2, fsPar3, fsPar_od, fsPar_do, fsPar_oo, fVar, fC, fUn, fOp, fChain, fTup, fLst, fCall, faD, faSt, flCons, flNil, fSl, foSome, foNone, fAnd, fOr, fNot, fIf, fOfN, fn1, fnLst, fnCat, fgN, fgTup, fgCons, fgNil, fiSeq, fiRange1, fiRange2, fiEnumA, fiZip, ftOr, ftAnd, ftNot, ftB, ftT, ftYes, truD_b, truD_i, truD_l, truD_t, truD_n, gIx_t0, gIx_t1, gIx_t2, gSl_t, gSl_l, gIsT, notDict, isT, isN, tyName, gLen_t, gLen_l, gTuple_l, gCmp, gAdd_ii, gAdd_ll, PD.gSub, gNeg, gMod, seqD, forD, wipeR, gEqA, gNeA, gEq_ii, gNe_ii, gEq_tt, gIn_ints, gIn_intsL, gNotIn_ints, gNotIn_intsL, fM0, fM1, fJoined, fJ, flStar, starD, fCall0, gIsTX, noInst_n, noInst_b, noInst_i, noInst_s, noInst_l, noInst_t, fFld, fMeth, fMake, faNil, fsFld, fLendO, fDisp, fpCons, fpNil, fDict0, fiAny, walkD, fiOver, dKeys, dVals, dPairs, fsOwnD, fsPut, fOwnIx, fPop, fsExt, fDc, compK, fGet, lk_deeds, lk_steps, lk_good, lk_live, lk_hold, lk_ahead, lk_loose, lk_tails, lm_good_tails, lm_has_form, lm_can_be_held, lm_moves, lm_moves_if_doomed, lm_moves_if_ahead, lm_moves_if_not_ahead, fLendD, fiZipM, fsAugI, fsBreak, fsDispO, fsApp, fsPo2, fsPo3, fsPo4, fpTwo, fpThree, fpFour, fpD, fpN, fpE, fpDisp, fnZipT, fCallK, pickL]
  exact ⟨i, d, rfl, List.mem_range.mp hi, hk _ rfl⟩
/-- what holds of one list of errors -/
theorem ok_some {C_BadGuard C_BadKind C_BadPaper C_BadText C_BadWish C_Nothing C_OutOfPlace C_TooMany : Addr} (s d x2 : D) (x6 x7 : Sl) (hd : Th d) (n : Nat) (P : Post) (q : P.nx ⟨[.d s, .st, .d x2, .d d, .d (.str (six d).shown), .d (all8 C_BadGuard C_BadKind C_BadPaper C_BadText C_BadWish C_Nothing C_OutOfPlace C_TooMany d), x6, x7], n⟩) :
    b_law_1 C_BadGuard C_BadKind C_BadPaper C_BadText C_BadWish C_Nothing C_OutOfPlace C_TooMany ⟨[.d s, .st, .d x2, .d d, .d (.str (six d).shown), .d (all8 C_BadGuard C_BadKind C_BadPaper C_BadText C_BadWish C_Nothing C_OutOfPlace C_TooMany d), x6, x7], n⟩ P := by
  unfold b_law_1
  simp [and_assoc, Rho.set, dropOwn, ftLend, fLend, lendR, frz, ow, nList, -forall_exists_index, fBody, fsSeq, fsIf, fsRet, fsNext, fsDrop, fsAsg, fsNever, fsFor, fsOwn, fsPar2, fsPar3, fsPar_od, fsPar_do, fsPar_oo, fVar, fC, fUn, fOp, fChain, fTup, fLst, fCall, faD, faSt, flCons, flNil, fSl, foSome, foNone, fAnd, fOr, fNot, fIf, fOfN, fn1, fnLst, fnCat, fgN, fgTup, fgCons, fgNil, fiSeq, fiRange1, fiRange2, fiEnumA, fiZip, ftOr, ftAnd, ftNot, ftB, ftT, ftYes, truD_b, truD_i, truD_l, truD_t, truD_n, gIx_t0, gIx_t1, gIx_t2, gSl_t, gSl_l, gIsT, notDict, isT, isN, tyName, gLen_t, gLen_l, gTuple_l, gCmp, gAdd_ii, gAdd_ll, PD.gSub, gNeg, gMod, seqD, forD, wipeR, gEqA, gNeA, gEq_ii, gNe_ii, gEq_tt, gIn_ints, gIn_intsL, gNotIn_ints, gNotIn_intsL, fM0, fM1, fJoined, fJ, flStar, starD, fCall0, gIsTX, noInst_n, noInst_b, noInst_i, noInst_s, noInst_l, noInst_t, fFld, fMeth, fMake, faNil, fsFld, fLendO, fDisp, fpCons, fpNil, fDict0, fiAny, walkD, fiOver, dKeys, dVals, dPairs, fsOwnD, fsPut, fOwnIx, fPop, fsExt, fDc, compK, fGet, lk_deeds, lk_steps, lk_good, lk_live, lk_hold, lk_ahead, lk_loose, lk_tails, lm_good_tails, lm_has_form, lm_can_be_held, lm_moves, lm_moves_if_doomed, lm_moves_if_ahead, lm_moves_if_not_ahead, fLendD, fiZipM, fsAugI, fsBreak, fsDispO, fsApp, fsPo2, fsPo3, fsPo4, fpTwo, fpThree, fpFour, fpD, fpN, fpE, fpDisp, fnZipT, fCallK, pickL]
  refine ⟨d, rfl, trivial, ?_⟩
  refine ⟨_, repr6 hd, _, rfl, .inl ⟨by simp, ?_⟩⟩
  refine mark_list (d := d) ?_
  refine due_list ?_
  exact ⟨_, dues_same, .inl ⟨rfl, q⟩⟩
theorem ok_turn {C_BadGuard C_BadKind C_BadPaper C_BadText C_BadWish C_Nothing C_OutOfPlace C_TooMany : Addr} (s : D) (x2 : D) (x3 x4 x5 x6 x7 : Sl) (n : Nat) (hn : n + 10 ≤ 1000000000000) (P : Post) (q : ∀ y3 y4 y5 y6 y7 n', n' ≤ n + 10 → P.nx ⟨[.d s, .st, .d x2, y3, y4, y5, y6, y7], n'⟩) :
    b_law_2 C_BadGuard C_BadKind C_BadPaper C_BadText C_BadWish C_Nothing C_OutOfPlace C_TooMany ⟨[.d s, .st, .d x2, x3, x4, x5, x6, x7], n⟩ P := by
  unfold b_law_2
  simp [and_assoc, Rho.set, dropOwn, ftLend, fLend, lendR, frz, ow, nList, -forall_exists_index, fBody, fsSeq, fsIf, fsRet, fsNext, fsDrop, fsAsg, fsNever, fsFor, fsOwn, fsPar2, fsPar3, fsPar_od, fsPar_do, fsPar_oo, fVar, fC, fUn, fOp, fChain, fTup, fLst, fCall, faD, faSt, flCons, flNil, fSl, foSome, foNone, fAnd, fOr, fNot, fIf, fOfN, fn1, fnLst, fnCat, fgN, fgTup, fgCons, fgNil, fiSeq, fiRange1, fiRange2, fiEnumA, fiZip, ftOr, ftAnd, ftNot, ftB, ftT, ftYes, truD_b, truD_i, truD_l, truD_t, truD_n, gIx_t0, gIx_t1, gIx_t2, gSl_t, gSl_l, gIsT, notDict, isT, isN, tyName, gLen_t, gLen_l, gTuple_l, gCmp, gAdd_ii, gAdd_ll, PD.gSub, gNeg, gMod, seqD, forD, wipeR, gEqA, gNeA, gEq_ii, gNe_ii, gEq_tt, gIn_ints, gIn_intsL, gNotIn_ints, gNotIn_intsL, fM0, fM1, fJoined, fJ, flStar, starD, fCall0, gIsTX, noInst_n, noInst_b, noInst_i, noInst_s, noInst_l, noInst_t, fFld, fMeth, fMake, faNil, fsFld, fLendO, fDisp, fpCons, fpNil, fDict0, fiAny, walkD, fiOver, dKeys, dVals, dPairs, fsOwnD, fsPut, fOwnIx, fPop, fsExt, fDc, compK, fGet, lk_deeds, lk_steps, lk_good, lk_live, lk_hold, lk_ahead, lk_loose, lk_tails, lm_good_tails, lm_has_form, lm_can_be_held, lm_moves, lm_moves_if_doomed, lm_moves_if_ahead, lm_moves_if_not_ahead, fLendD, fiZipM, fsAugI, fsBreak, fsDispO, fsApp, fsPo2, fsPo3, fsPo4, fpTwo, fpThree, fpFour, fpD, fpN, fpE, fpDisp, fnZipT, fCallK, pickL]
  refine ⟨rfl, trivial, hn, fun d nn hd hnn => ?_⟩
  simp [and_assoc, Rho.set, dropOwn, ftLend, fLend, lendR, frz, ow, nList, -forall_exists_index, fBody, fsSeq, fsIf, fsRet, fsNext, fsDrop, fsAsg, fsNever, fsFor, fsOwn, fsPar2, fsPar3, fsPar_od, fsPar_do, fsPar_oo, fVar, fC, fUn, fOp, fChain, fTup, fLst, fCall, faD, faSt, flCons, flNil, fSl, foSome, foNone, fAnd, fOr, fNot, fIf, fOfN, fn1, fnLst, fnCat, fgN, fgTup, fgCons, fgNil, fiSeq, fiRange1, fiRange2, fiEnumA, fiZip, ftOr, ftAnd, ftNot, ftB, ftT, ftYes, truD_b, truD_i, truD_l, truD_t, truD_n, gIx_t0, gIx_t1, gIx_t2, gSl_t, gSl_l, gIsT, notDict, isT, isN, tyName, gLen_t, gLen_l, gTuple_l, gCmp, gAdd_ii, gAdd_ll, PD.gSub, gNeg, gMod, seqD, forD, wipeR, gEqA, gNeA, gEq_ii, gNe_ii, gEq_tt, gIn_ints, gIn_intsL, gNotIn_ints, gNotIn_intsL, fM0, fM1, fJoined, fJ, flStar, starD, fCall0, gIsTX, noInst_n, noInst_b, noInst_i, noInst_s, noInst_l, noInst_t, fFld, fMeth, fMake, faNil, fsFld, fLendO, fDisp, fpCons, fpNil, fDict0, fiAny, walkD, fiOver, dKeys, dVals, dPairs, fsOwnD, fsPut, fOwnIx, fPop, fsExt, fDc, compK, fGet, lk_deeds, lk_steps, lk_good, lk_live, lk_hold, lk_ahead, lk_loose, lk_tails, lm_good_tails, lm_has_form, lm_can_be_held, lm_moves, lm_moves_if_doomed, lm_moves_if_ahead, lm_moves_if_not_ahead, fLendD, fiZipM, fsAugI, fsBreak, fsDispO, fsApp, fsPo2, fsPo3, fsPo4, fpTwo, fpThree, fpFour, fpD, fpN, fpE, fpDisp, fnZipT, fCallK, pickL]
  refine ⟨six d, rfl, _, repr6 hd, d, rfl, trivial, d, rfl, trivial, ?_⟩
  refine ok_some s d x2 x6 x7 hd nn _ ?_
  refine ok_some s d x2 x6 x7 hd nn _ ?_
  dsimp only
  generalize hk : (fun (ds : List D) (ρ1 : Rho) => fnComp (fiRange1 (flCons (fC (PyData.int 8)) flNil)) (fgN 7) ftYes (fCall 1 W_law_due (faD (flCons (fVar 7) flNil))) [7] ρ1 fun ds_1 ρ1 =>
      ∃ d, gNe (PyData.list ds) (PyData.list ds_1) = some d ∧ (d = PyData.bool false ∧ P.nx ρ1 ∨ d = PyData.bool true ∧ P.rt (PyData.bool false) ρ1)) = k2
  refine caught_list (d := d) ?_
  rw [← hk]
  refine due_list ?_
  exact ⟨_, dues_same, .inl ⟨rfl, q _ _ _ _ _ nn hnn⟩⟩
theorem turns {C_BadGuard C_BadKind C_BadPaper C_BadText C_BadWish C_Nothing C_OutOfPlace C_TooMany : Addr} (s : D) : ∀ (ls : List Nat) (n : Nat) (x2 x3 x4 x5 x6 x7 : Sl) (P : Post), n + ls.length * 10 ≤ 1000000000000 → (∀ (n' : Nat) (x2 x3 x4 x5 x6 x7 : Sl), P.nx ⟨[.d s, .st, x2, x3, x4, x5, x6, x7], n'⟩) →
    forD (fgN 2) (b_law_2 C_BadGuard C_BadKind C_BadPaper C_BadText C_BadWish C_Nothing C_OutOfPlace C_TooMany) (ls.map fun i : Nat => PyData.int (i : Int)) ⟨[.d s, .st, x2, x3, x4, x5, x6, x7], n⟩ P := by
  intro ls
  induction ls with
  | nil => intro n x2 x3 x4 x5 x6 x7 P _ h; exact h _ _ _ _ _ _ _
  | cons l ls ih =>
    intro n x2 x3 x4 x5 x6 x7 P hn h
    rw [List.length_cons, Nat.succ_mul] at hn
    rw [List.map_cons]
    refine GB.forD_step fun N hN => ?_
    exact ok_turn s (.int l) x3 x4 x5 x6 x7 n (by omega) _ fun y3 y4 y5 y6 y7 n' hn' => hN _ (ih n' _ _ _ _ _ _ P (by omega) h)
theorem ok_law {C_BadGuard C_BadKind C_BadPaper C_BadText C_BadWish C_Nothing C_OutOfPlace C_TooMany : Addr} (E : ErF K C_BadGuard C_BadKind C_BadPaper C_BadText C_BadWish C_Nothing C_OutOfPlace C_TooMany) : ∀ ρ k, W_law ρ k → fBody 8 (w_law C_BadGuard C_BadKind C_BadPaper C_BadText C_BadWish C_Nothing C_OutOfPlace C_TooMany) ρ k := by
  rintro ⟨sl, n⟩ k ⟨ns, e, hl, z⟩
  simp only at e
  subst e
  simp [w_law]
  simp [and_assoc, Rho.set, dropOwn, ftLend, fLend, lendR, frz, ow, nList, -forall_exists_index, fBody, fsSeq, fsIf, fsRet, fsNext, fsDrop, fsAsg, fsNever, fsFor, fsOwn, fsPar2, fsPar3, fsPar_od, fsPar_do, fsPar_oo, fVar, fC, fUn, fOp, fChain, fTup, fLst, fCall, faD, faSt, flCons, flNil, fSl, foSome, foNone, fAnd, fOr, fNot, fIf, fOfN, fn1, fnLst, fnCat, fgN, fgTup, fgCons, fgNil, fiSeq, fiRange1, fiRange2, fiEnumA, fiZip, ftOr, ftAnd, ftNot, ftB, ftT, ftYes, truD_b, truD_i, truD_l, truD_t, truD_n, gIx_t0, gIx_t1, gIx_t2, gSl_t, gSl_l, gIsT, notDict, isT, isN, tyName, gLen_t, gLen_l, gTuple_l, gCmp, gAdd_ii, gAdd_ll, PD.gSub, gNeg, gMod, seqD, forD, wipeR, gEqA, gNeA, gEq_ii, gNe_ii, gEq_tt, gIn_ints, gIn_intsL, gNotIn_ints, gNotIn_intsL, fM0, fM1, fJoined, fJ, flStar, starD, fCall0, gIsTX, noInst_n, noInst_b, noInst_i, noInst_s, noInst_l, noInst_t, fFld, fMeth, fMake, faNil, fsFld, fLendO, fDisp, fpCons, fpNil, fDict0, fiAny, walkD, fiOver, dKeys, dVals, dPairs, fsOwnD, fsPut, fOwnIx, fPop, fsExt, fDc, compK, fGet, lk_deeds, lk_steps, lk_good, lk_live, lk_hold, lk_ahead, lk_loose, lk_tails, lm_good_tails, lm_has_form, lm_can_be_held, lm_moves, lm_moves_if_doomed, lm_moves_if_ahead, lm_moves_if_not_ahead, fLendD, fiZipM, fsAugI, fsBreak, fsDispO, fsApp, fsPo2, fsPo3, fsPo4, fpTwo, fpThree, fpFour, fpD, fpN, fpE, fpDisp, fnZipT, fCallK, pickL]
  unfold fsBegin
  simp [and_assoc, Rho.set, dropOwn, ftLend, fLend, lendR, frz, ow, nList, -forall_exists_index, fBody, fsSeq, fsIf, fsRet, fsNext, fsDrop, fsAsg, fsNever, fsFor, fsOwn, fsPar2, fsPar3, fsPar_od, fsPar_do, fsPar_oo, fVar, fC, fUn, fOp, fChain, fTup, fLst, fCall, faD, faSt, flCons, flNil, fSl, foSome, foNone, fAnd, fOr, fNot, fIf, fOfN, fn1, fnLst, fnCat, fgN, fgTup, fgCons, fgNil, fiSeq, fiRange1, fiRange2, fiEnumA, fiZip, ftOr, ftAnd, ftNot, ftB, ftT, ftYes, truD_b, truD_i, truD_l, truD_t, truD_n, gIx_t0, gIx_t1, gIx_t2, gSl_t, gSl_l, gIsT, notDict, isT, isN, tyName, gLen_t, gLen_l, gTuple_l, gCmp, gAdd_ii, gAdd_ll, PD.gSub, gNeg, gMod, seqD, forD, wipeR, gEqA, gNeA, gEq_ii, gNe_ii, gEq_tt, gIn_ints, gIn_intsL, gNotIn_ints, gNotIn_intsL, fM0, fM1, fJoined, fJ, flStar, starD, fCall0, gIsTX, noInst_n, noInst_b, noInst_i, noInst_s, noInst_l, noInst_t, fFld, fMeth, fMake, faNil, fsFld, fLendO, fDisp, fpCons, fpNil, fDict0, fiAny, walkD, fiOver, dKeys, dVals, dPairs, fsOwnD, fsPut, fOwnIx, fPop, fsExt, fDc, compK, fGet, lk_deeds, lk_steps, lk_good, lk_live, lk_hold, lk_ahead, lk_loose, lk_tails, lm_good_tails, lm_has_form, lm_can_be_held, lm_moves, lm_moves_if_doomed, lm_moves_if_ahead, lm_moves_if_not_ahead, fLendD, fiZipM, fsAugI, fsBreak, fsDispO, fsApp, fsPo2, fsPo3, fsPo4, fpTwo, fpThree, fpFour, fpD, fpN, fpE, fpDisp, fnZipT, fCallK, pickL]
  refine ⟨?_, ⟨ns, rfl, hl⟩, ?_⟩
  · intro j
    match j with
    | 0 => simp
    | 1 => simp
    | 2 => simp
    | 3 => simp
    | 4 => simp
    | 5 => simp
    | 6 => simp
    | 7 => simp
    | j + 8 => simp
  · obtain ⟨m, hm, hm5⟩ : ∃ m : Nat, gMin2 (PyData.int (ns.length : Int)) (PyData.int 8) = some (.int (m : Int)) ∧ m ≤ 8 := by
      by_cases h : ns.length ≤ 8
      · refine ⟨ns.length, ?_, h⟩
        simp [gMin2]
        omega
      · refine ⟨8, ?_, Nat.le_refl _⟩
        simp [gMin2]
        omega
    refine ⟨_, hm, _, rfl, _, rfl, by omega, by omega, ?_⟩
    rw [show (2 : Int) + (m : Int) = ((2 + m : Nat) : Int) by omega, rangeD_nat]
    exact turns _ (List.range (2 + m)) 0 .no .no .no .no .no .no _ (by rw [List.length_range]; omega) fun n' x2 x3 x4 x5 x6 x7 => z _
theorem kit_tt {A B : Addr} (h : PySem.W.exmOne K (.ref A) (.ref B) = some true) : PySem.W.kitOne K (.ref A) (.ref B) = some true := by
  unfold PySem.W.exmOne at h
  unfold PySem.W.kitOne
  split
  · rfl
  · split at h
    · exact h
    · cases h
theorem kit_ff {A B : Addr} (h : PySem.W.exmOne K (.ref A) (.ref B) = some false) (hA : PySem.W.exmOne K (.ref A) (.ref A) = some true) : PySem.W.kitOne K (.ref A) (.ref B) = some false := by
  have ne : ¬ A = B := fun z => by
    rw [← z, hA] at h
    cases h
  have nb : ¬ ((Value.ref A == Value.ref B) = true) := fun z => ne (by simpa using z)
  unfold PySem.W.exmOne at h
  unfold PySem.W.kitOne
  rw [if_neg nb]
  split at h
  · exact h
  · cases h
theorem kit_ty2 {A : Addr} {T : String} {b : Bool} (hm : PySem.W.kitMeta T = true) (h : PySem.W.subIn K (.ref A) (.type T) = some b) : PySem.W.kitOne K (.ref A) (.type T) = some b := by
  have nb : ¬ ((Value.ref A == Value.type T) = true) := fun z => by simp at z
  unfold PySem.W.kitOne PySem.W.kitCls
  rw [if_neg nb]
  dsimp only
  rw [if_pos hm]
  exact h
theorem erF_of {C_BadGuard C_BadKind C_BadPaper C_BadText C_BadWish C_Nothing C_OutOfPlace C_TooMany : Addr} (t_BadGuard : PySem.W.exmOne K (.ref C_BadGuard) (.ref C_BadGuard) = some true) (t_BadKind : PySem.W.exmOne K (.ref C_BadKind) (.ref C_BadKind) = some true) (t_BadPaper : PySem.W.exmOne K (.ref C_BadPaper) (.ref C_BadPaper) = some true) (t_BadText : PySem.W.exmOne K (.ref C_BadText) (.ref C_BadText) = some true) (t_BadWish : PySem.W.exmOne K (.ref C_BadWish) (.ref C_BadWish) = some true) (t_Nothing : PySem.W.exmOne K (.ref C_Nothing) (.ref C_Nothing) = some true) (t_OutOfPlace : PySem.W.exmOne K (.ref C_OutOfPlace) (.ref C_OutOfPlace) = some true) (t_TooMany : PySem.W.exmOne K (.ref C_TooMany) (.ref C_TooMany) = some true) (t_BadGuard_BadKind : PySem.W.exmOne K (.ref C_BadGuard) (.ref C_BadKind) = some false) (t_BadGuard_BadPaper : PySem.W.exmOne K (.ref C_BadGuard) (.ref C_BadPaper) = some false) (t_BadGuard_BadText : PySem.W.exmOne K (.ref C_BadGuard) (.ref C_BadText) = some false) (t_BadGuard_BadWish : PySem.W.exmOne K (.ref C_BadGuard) (.ref C_BadWish) = some false) (t_BadGuard_Nothing : PySem.W.exmOne K (.ref C_BadGuard) (.ref C_Nothing) = some false) (t_BadGuard_OutOfPlace : PySem.W.exmOne K (.ref C_BadGuard) (.ref C_OutOfPlace) = some false) (t_BadGuard_TooMany : PySem.W.exmOne K (.ref C_BadGuard) (.ref C_TooMany) = some false) (t_BadKind_BadGuard : PySem.W.exmOne K (.ref C_BadKind) (.ref C_BadGuard) = some false) (t_BadKind_BadPaper : PySem.W.exmOne K (.ref C_BadKind) (.ref C_BadPaper) = some false) (t_BadKind_BadText : PySem.W.exmOne K (.ref C_BadKind) (.ref C_BadText) = some false) (t_BadKind_BadWish : PySem.W.exmOne K (.ref C_BadKind) (.ref C_BadWish) = some false) (t_BadKind_Nothing : PySem.W.exmOne K (.ref C_BadKind) (.ref C_Nothing) = some false) (t_BadKind_OutOfPlace : PySem.W.exmOne K (.ref C_BadKind) (.ref C_OutOfPlace) = some false) (t_BadKind_TooMany : PySem.W.exmOne K (.ref C_BadKind) (.ref C_TooMany) = some false) (t_BadPaper_BadGuard : PySem.W.exmOne K (.ref C_BadPaper) (.ref C_BadGuard) = some false) (t_BadPaper_BadKind : PySem.W.exmOne K (.ref C_BadPaper) (.ref C_BadKind) = some false) (t_BadPaper_BadText : PySem.W.exmOne K (.ref C_BadPaper) (.ref C_BadText) = some false) (t_BadPaper_BadWish : PySem.W.exmOne K (.ref C_BadPaper) (.ref C_BadWish) = some false) (t_BadPaper_Nothing : PySem.W.exmOne K (.ref C_BadPaper) (.ref C_Nothing) = some false) (t_BadPaper_OutOfPlace : PySem.W.exmOne K (.ref C_BadPaper) (.ref C_OutOfPlace) = some false) (t_BadPaper_TooMany : PySem.W.exmOne K (.ref C_BadPaper) (.ref C_TooMany) = some false) (t_BadText_BadGuard : PySem.W.exmOne K (.ref C_BadText) (.ref C_BadGuard) = some false) (t_BadText_BadKind : PySem.W.exmOne K (.ref C_BadText) (.ref C_BadKind) = some false) (t_BadText_BadPaper : PySem.W.exmOne K (.ref C_BadText) (.ref C_BadPaper) = some false) (t_BadText_BadWish : PySem.W.exmOne K (.ref C_BadText) (.ref C_BadWish) = some false) (t_BadText_Nothing : PySem.W.exmOne K (.ref C_BadText) (.ref C_Nothing) = some false) (t_BadText_OutOfPlace : PySem.W.exmOne K (.ref C_BadText) (.ref C_OutOfPlace) = some false) (t_BadText_TooMany : PySem.W.exmOne K (.ref C_BadText) (.ref C_TooMany) = some false) (t_BadWish_BadGuard : PySem.W.exmOne K (.ref C_BadWish) (.ref C_BadGuard) = some false) (t_BadWish_BadKind : PySem.W.exmOne K (.ref C_BadWish) (.ref C_BadKind) = some false) (t_BadWish_BadPaper : PySem.W.exmOne K (.ref C_BadWish) (.ref C_BadPaper) = some false) (t_BadWish_BadText : PySem.W.exmOne K (.ref C_BadWish) (.ref C_BadText) = some false) (t_BadWish_Nothing : PySem.W.exmOne K (.ref C_BadWish) (.ref C_Nothing) = some false) (t_BadWish_OutOfPlace : PySem.W.exmOne K (.ref C_BadWish) (.ref C_OutOfPlace) = some false) (t_BadWish_TooMany : PySem.W.exmOne K (.ref C_BadWish) (.ref C_TooMany) = some false) (t_Nothing_BadGuard : PySem.W.exmOne K (.ref C_Nothing) (.ref C_BadGuard) = some false) (t_Nothing_BadKind : PySem.W.exmOne K (.ref C_Nothing) (.ref C_BadKind) = some false) (t_Nothing_BadPaper : PySem.W.exmOne K (.ref C_Nothing) (.ref C_BadPaper) = some false) (t_Nothing_BadText : PySem.W.exmOne K (.ref C_Nothing) (.ref C_BadText) = some false) (t_Nothing_BadWish : PySem.W.exmOne K (.ref C_Nothing) (.ref C_BadWish) = some false) (t_Nothing_OutOfPlace : PySem.W.exmOne K (.ref C_Nothing) (.ref C_OutOfPlace) = some false) (t_Nothing_TooMany : PySem.W.exmOne K (.ref C_Nothing) (.ref C_TooMany) = some false) (t_OutOfPlace_BadGuard : PySem.W.exmOne K (.ref C_OutOfPlace) (.ref C_BadGuard) = some false) (t_OutOfPlace_BadKind : PySem.W.exmOne K (.ref C_OutOfPlace) (.ref C_BadKind) = some false) (t_OutOfPlace_BadPaper : PySem.W.exmOne K (.ref C_OutOfPlace) (.ref C_BadPaper) = some false) (t_OutOfPlace_BadText : PySem.W.exmOne K (.ref C_OutOfPlace) (.ref C_BadText) = some false) (t_OutOfPlace_BadWish : PySem.W.exmOne K (.ref C_OutOfPlace) (.ref C_BadWish) = some false) (t_OutOfPlace_Nothing : PySem.W.exmOne K (.ref C_OutOfPlace) (.ref C_Nothing) = some false) (t_OutOfPlace_TooMany : PySem.W.exmOne K (.ref C_OutOfPlace) (.ref C_TooMany) = some false) (t_TooMany_BadGuard : PySem.W.exmOne K (.ref C_TooMany) (.ref C_BadGuard) = some false) (t_TooMany_BadKind : PySem.W.exmOne K (.ref C_TooMany) (.ref C_BadKind) = some false) (t_TooMany_BadPaper : PySem.W.exmOne K (.ref C_TooMany) (.ref C_BadPaper) = some false) (t_TooMany_BadText : PySem.W.exmOne K (.ref C_TooMany) (.ref C_BadText) = some false) (t_TooMany_BadWish : PySem.W.exmOne K (.ref C_TooMany) (.ref C_BadWish) = some false) (t_TooMany_Nothing : PySem.W.exmOne K (.ref C_TooMany) (.ref C_Nothing) = some false) (t_TooMany_OutOfPlace : PySem.W.exmOne K (.ref C_TooMany) (.ref C_OutOfPlace) = some false) (x_BadGuard : ExcC K C_BadGuard ∧ XfC K C_BadGuard) (x_BadKind : ExcC K C_BadKind ∧ XfC K C_BadKind) (x_BadPaper : ExcC K C_BadPaper ∧ XfC K C_BadPaper) (x_BadText : ExcC K C_BadText ∧ XfC K C_BadText) (x_BadWish : ExcC K C_BadWish ∧ XfC K C_BadWish) (x_Nothing : ExcC K C_Nothing ∧ XfC K C_Nothing) (x_OutOfPlace : ExcC K C_OutOfPlace ∧ XfC K C_OutOfPlace) (x_TooMany : ExcC K C_TooMany ∧ XfC K C_TooMany) (n_BadGuard : PySem.W.findIn K (.ref C_BadGuard) "part" = some none) (n_BadKind : PySem.W.findIn K (.ref C_BadKind) "part" = some none) (n_BadPaper : PySem.W.findIn K (.ref C_BadPaper) "part" = some none) (n_BadText : PySem.W.findIn K (.ref C_BadText) "line" = some none) (n_BadWish : PySem.W.findIn K (.ref C_BadWish) "part" = some none) (n_TooMany : PySem.W.findIn K (.ref C_TooMany) "most" = some none) (s_BadGuard_IndexError : PySem.W.subIn K (.ref C_BadGuard) (.type "IndexError") = some false) (s_BadGuard_KeyError : PySem.W.subIn K (.ref C_BadGuard) (.type "KeyError") = some false) (s_BadGuard_LookupError : PySem.W.subIn K (.ref C_BadGuard) (.type "LookupError") = some false) (s_BadGuard_OverflowError : PySem.W.subIn K (.ref C_BadGuard) (.type "OverflowError") = some false) (s_BadGuard_RuntimeError : PySem.W.subIn K (.ref C_BadGuard) (.type "RuntimeError") = some false) (s_BadGuard_ValueError : PySem.W.subIn K (.ref C_BadGuard) (.type "ValueError") = some true) (s_BadKind_IndexError : PySem.W.subIn K (.ref C_BadKind) (.type "IndexError") = some false) (s_BadKind_KeyError : PySem.W.subIn K (.ref C_BadKind) (.type "KeyError") = some false) (s_BadKind_LookupError : PySem.W.subIn K (.ref C_BadKind) (.type "LookupError") = some false) (s_BadKind_OverflowError : PySem.W.subIn K (.ref C_BadKind) (.type "OverflowError") = some false) (s_BadKind_RuntimeError : PySem.W.subIn K (.ref C_BadKind) (.type "RuntimeError") = some false) (s_BadKind_ValueError : PySem.W.subIn K (.ref C_BadKind) (.type "ValueError") = some true) (s_BadPaper_IndexError : PySem.W.subIn K (.ref C_BadPaper) (.type "IndexError") = some false) (s_BadPaper_KeyError : PySem.W.subIn K (.ref C_BadPaper) (.type "KeyError") = some false) (s_BadPaper_LookupError : PySem.W.subIn K (.ref C_BadPaper) (.type "LookupError") = some false) (s_BadPaper_OverflowError : PySem.W.subIn K (.ref C_BadPaper) (.type "OverflowError") = some false) (s_BadPaper_RuntimeError : PySem.W.subIn K (.ref C_BadPaper) (.type "RuntimeError") = some false) (s_BadPaper_ValueError : PySem.W.subIn K (.ref C_BadPaper) (.type "ValueError") = some true) (s_BadText_IndexError : PySem.W.subIn K (.ref C_BadText) (.type "IndexError") = some false) (s_BadText_KeyError : PySem.W.subIn K (.ref C_BadText) (.type "KeyError") = some false) (s_BadText_LookupError : PySem.W.subIn K (.ref C_BadText) (.type "LookupError") = some false) (s_BadText_OverflowError : PySem.W.subIn K (.ref C_BadText) (.type "OverflowError") = some false) (s_BadText_RuntimeError : PySem.W.subIn K (.ref C_BadText) (.type "RuntimeError") = some false) (s_BadText_ValueError : PySem.W.subIn K (.ref C_BadText) (.type "ValueError") = some true) (s_BadWish_IndexError : PySem.W.subIn K (.ref C_BadWish) (.type "IndexError") = some false) (s_BadWish_KeyError : PySem.W.subIn K (.ref C_BadWish) (.type "KeyError") = some false) (s_BadWish_LookupError : PySem.W.subIn K (.ref C_BadWish) (.type "LookupError") = some false) (s_BadWish_OverflowError : PySem.W.subIn K (.ref C_BadWish) (.type "OverflowError") = some false) (s_BadWish_RuntimeError : PySem.W.subIn K (.ref C_BadWish) (.type "RuntimeError") = some false) (s_BadWish_ValueError : PySem.W.subIn K (.ref C_BadWish) (.type "ValueError") = some true) (s_Nothing_IndexError : PySem.W.subIn K (.ref C_Nothing) (.type "IndexError") = some false) (s_Nothing_KeyError : PySem.W.subIn K (.ref C_Nothing) (.type "KeyError") = some false) (s_Nothing_LookupError : PySem.W.subIn K (.ref C_Nothing) (.type "LookupError") = some true) (s_Nothing_OverflowError : PySem.W.subIn K (.ref C_Nothing) (.type "OverflowError") = some false) (s_Nothing_RuntimeError : PySem.W.subIn K (.ref C_Nothing) (.type "RuntimeError") = some false) (s_Nothing_ValueError : PySem.W.subIn K (.ref C_Nothing) (.type "ValueError") = some false) (s_OutOfPlace_IndexError : PySem.W.subIn K (.ref C_OutOfPlace) (.type "IndexError") = some false) (s_OutOfPlace_KeyError : PySem.W.subIn K (.ref C_OutOfPlace) (.type "KeyError") = some false) (s_OutOfPlace_LookupError : PySem.W.subIn K (.ref C_OutOfPlace) (.type "LookupError") = some false) (s_OutOfPlace_OverflowError : PySem.W.subIn K (.ref C_OutOfPlace) (.type "OverflowError") = some false) (s_OutOfPlace_RuntimeError : PySem.W.subIn K (.ref C_OutOfPlace) (.type "RuntimeError") = some false) (s_OutOfPlace_ValueError : PySem.W.subIn K (.ref C_OutOfPlace) (.type "ValueError") = some true) (s_TooMany_IndexError : PySem.W.subIn K (.ref C_TooMany) (.type "IndexError") = some false) (s_TooMany_KeyError : PySem.W.subIn K (.ref C_TooMany) (.type "KeyError") = some false) (s_TooMany_LookupError : PySem.W.subIn K (.ref C_TooMany) (.type "LookupError") = some false) (s_TooMany_OverflowError : PySem.W.subIn K (.ref C_TooMany) (.type "OverflowError") = some true) (s_TooMany_RuntimeError : PySem.W.subIn K (.ref C_TooMany) (.type "RuntimeError") = some false) (s_TooMany_ValueError : PySem.W.subIn K (.ref C_TooMany) (.type "ValueError") = some false) : ErF K C_BadGuard C_BadKind C_BadPaper C_BadText C_BadWish C_Nothing C_OutOfPlace C_TooMany where
  exBadWish := x_BadWish.1
  xfBadWish := x_BadWish.2
  fiBadWish := n_BadWish
  kBadWishBadWish := kit_tt t_BadWish
  kBadWishBadKind := kit_ff t_BadWish_BadKind t_BadWish
  kBadWishBadGuard := kit_ff t_BadWish_BadGuard t_BadWish
  kBadWishBadPaper := kit_ff t_BadWish_BadPaper t_BadWish
  kBadWishBadText := kit_ff t_BadWish_BadText t_BadWish
  kBadWishOutOfPlace := kit_ff t_BadWish_OutOfPlace t_BadWish
  kBadWishNothing := kit_ff t_BadWish_Nothing t_BadWish
  kBadWishTooMany := kit_ff t_BadWish_TooMany t_BadWish
  kBadWishIndexError := kit_ty2 (by decide) s_BadWish_IndexError
  kBadWishKeyError := kit_ty2 (by decide) s_BadWish_KeyError
  kBadWishLookupError := kit_ty2 (by decide) s_BadWish_LookupError
  kBadWishOverflowError := kit_ty2 (by decide) s_BadWish_OverflowError
  kBadWishRuntimeError := kit_ty2 (by decide) s_BadWish_RuntimeError
  kBadWishValueError := kit_ty2 (by decide) s_BadWish_ValueError
  aBadWish := by simp only [PySem.W.exmAny, t_BadWish, t_BadWish_BadKind, t_BadWish_BadGuard, t_BadWish_BadPaper, t_BadWish_BadText, t_BadWish_OutOfPlace, Bool.true_or, Bool.or_true, Bool.or_false, Bool.or_self]
  exBadKind := x_BadKind.1
  xfBadKind := x_BadKind.2
  fiBadKind := n_BadKind
  kBadKindBadWish := kit_ff t_BadKind_BadWish t_BadKind
  kBadKindBadKind := kit_tt t_BadKind
  kBadKindBadGuard := kit_ff t_BadKind_BadGuard t_BadKind
  kBadKindBadPaper := kit_ff t_BadKind_BadPaper t_BadKind
  kBadKindBadText := kit_ff t_BadKind_BadText t_BadKind
  kBadKindOutOfPlace := kit_ff t_BadKind_OutOfPlace t_BadKind
  kBadKindNothing := kit_ff t_BadKind_Nothing t_BadKind
  kBadKindTooMany := kit_ff t_BadKind_TooMany t_BadKind
  kBadKindIndexError := kit_ty2 (by decide) s_BadKind_IndexError
  kBadKindKeyError := kit_ty2 (by decide) s_BadKind_KeyError
  kBadKindLookupError := kit_ty2 (by decide) s_BadKind_LookupError
  kBadKindOverflowError := kit_ty2 (by decide) s_BadKind_OverflowError
  kBadKindRuntimeError := kit_ty2 (by decide) s_BadKind_RuntimeError
  kBadKindValueError := kit_ty2 (by decide) s_BadKind_ValueError
  aBadKind := by simp only [PySem.W.exmAny, t_BadKind_BadWish, t_BadKind, t_BadKind_BadGuard, t_BadKind_BadPaper, t_BadKind_BadText, t_BadKind_OutOfPlace, Bool.true_or, Bool.or_true, Bool.or_false, Bool.or_self]
  exBadGuard := x_BadGuard.1
  xfBadGuard := x_BadGuard.2
  fiBadGuard := n_BadGuard
  kBadGuardBadWish := kit_ff t_BadGuard_BadWish t_BadGuard
  kBadGuardBadKind := kit_ff t_BadGuard_BadKind t_BadGuard
  kBadGuardBadGuard := kit_tt t_BadGuard
  kBadGuardBadPaper := kit_ff t_BadGuard_BadPaper t_BadGuard
  kBadGuardBadText := kit_ff t_BadGuard_BadText t_BadGuard
  kBadGuardOutOfPlace := kit_ff t_BadGuard_OutOfPlace t_BadGuard
  kBadGuardNothing := kit_ff t_BadGuard_Nothing t_BadGuard
  kBadGuardTooMany := kit_ff t_BadGuard_TooMany t_BadGuard
  kBadGuardIndexError := kit_ty2 (by decide) s_BadGuard_IndexError
  kBadGuardKeyError := kit_ty2 (by decide) s_BadGuard_KeyError
  kBadGuardLookupError := kit_ty2 (by decide) s_BadGuard_LookupError
  kBadGuardOverflowError := kit_ty2 (by decide) s_BadGuard_OverflowError
  kBadGuardRuntimeError := kit_ty2 (by decide) s_BadGuard_RuntimeError
  kBadGuardValueError := kit_ty2 (by decide) s_BadGuard_ValueError
  aBadGuard := by simp only [PySem.W.exmAny, t_BadGuard_BadWish, t_BadGuard_BadKind, t_BadGuard, t_BadGuard_BadPaper, t_BadGuard_BadText, t_BadGuard_OutOfPlace, Bool.true_or, Bool.or_true, Bool.or_false, Bool.or_self]
  exBadPaper := x_BadPaper.1
  xfBadPaper := x_BadPaper.2
  fiBadPaper := n_BadPaper
  kBadPaperBadWish := kit_ff t_BadPaper_BadWish t_BadPaper
  kBadPaperBadKind := kit_ff t_BadPaper_BadKind t_BadPaper
  kBadPaperBadGuard := kit_ff t_BadPaper_BadGuard t_BadPaper
  kBadPaperBadPaper := kit_tt t_BadPaper
  kBadPaperBadText := kit_ff t_BadPaper_BadText t_BadPaper
  kBadPaperOutOfPlace := kit_ff t_BadPaper_OutOfPlace t_BadPaper
  kBadPaperNothing := kit_ff t_BadPaper_Nothing t_BadPaper
  kBadPaperTooMany := kit_ff t_BadPaper_TooMany t_BadPaper
  kBadPaperIndexError := kit_ty2 (by decide) s_BadPaper_IndexError
  kBadPaperKeyError := kit_ty2 (by decide) s_BadPaper_KeyError
  kBadPaperLookupError := kit_ty2 (by decide) s_BadPaper_LookupError
  kBadPaperOverflowError := kit_ty2 (by decide) s_BadPaper_OverflowError
  kBadPaperRuntimeError := kit_ty2 (by decide) s_BadPaper_RuntimeError
  kBadPaperValueError := kit_ty2 (by decide) s_BadPaper_ValueError
  aBadPaper := by simp only [PySem.W.exmAny, t_BadPaper_BadWish, t_BadPaper_BadKind, t_BadPaper_BadGuard, t_BadPaper, t_BadPaper_BadText, t_BadPaper_OutOfPlace, Bool.true_or, Bool.or_true, Bool.or_false, Bool.or_self]
  exBadText := x_BadText.1
  xfBadText := x_BadText.2
  fiBadText := n_BadText
  kBadTextBadWish := kit_ff t_BadText_BadWish t_BadText
  kBadTextBadKind := kit_ff t_BadText_BadKind t_BadText
  kBadTextBadGuard := kit_ff t_BadText_BadGuard t_BadText
  kBadTextBadPaper := kit_ff t_BadText_BadPaper t_BadText
  kBadTextBadText := kit_tt t_BadText
  kBadTextOutOfPlace := kit_ff t_BadText_OutOfPlace t_BadText
  kBadTextNothing := kit_ff t_BadText_Nothing t_BadText
  kBadTextTooMany := kit_ff t_BadText_TooMany t_BadText
  kBadTextIndexError := kit_ty2 (by decide) s_BadText_IndexError
  kBadTextKeyError := kit_ty2 (by decide) s_BadText_KeyError
  kBadTextLookupError := kit_ty2 (by decide) s_BadText_LookupError
  kBadTextOverflowError := kit_ty2 (by decide) s_BadText_OverflowError
  kBadTextRuntimeError := kit_ty2 (by decide) s_BadText_RuntimeError
  kBadTextValueError := kit_ty2 (by decide) s_BadText_ValueError
  aBadText := by simp only [PySem.W.exmAny, t_BadText_BadWish, t_BadText_BadKind, t_BadText_BadGuard, t_BadText_BadPaper, t_BadText, t_BadText_OutOfPlace, Bool.true_or, Bool.or_true, Bool.or_false, Bool.or_self]
  exOutOfPlace := x_OutOfPlace.1
  xfOutOfPlace := x_OutOfPlace.2
  kOutOfPlaceBadWish := kit_ff t_OutOfPlace_BadWish t_OutOfPlace
  kOutOfPlaceBadKind := kit_ff t_OutOfPlace_BadKind t_OutOfPlace
  kOutOfPlaceBadGuard := kit_ff t_OutOfPlace_BadGuard t_OutOfPlace
  kOutOfPlaceBadPaper := kit_ff t_OutOfPlace_BadPaper t_OutOfPlace
  kOutOfPlaceBadText := kit_ff t_OutOfPlace_BadText t_OutOfPlace
  kOutOfPlaceOutOfPlace := kit_tt t_OutOfPlace
  kOutOfPlaceNothing := kit_ff t_OutOfPlace_Nothing t_OutOfPlace
  kOutOfPlaceTooMany := kit_ff t_OutOfPlace_TooMany t_OutOfPlace
  kOutOfPlaceIndexError := kit_ty2 (by decide) s_OutOfPlace_IndexError
  kOutOfPlaceKeyError := kit_ty2 (by decide) s_OutOfPlace_KeyError
  kOutOfPlaceLookupError := kit_ty2 (by decide) s_OutOfPlace_LookupError
  kOutOfPlaceOverflowError := kit_ty2 (by decide) s_OutOfPlace_OverflowError
  kOutOfPlaceRuntimeError := kit_ty2 (by decide) s_OutOfPlace_RuntimeError
  kOutOfPlaceValueError := kit_ty2 (by decide) s_OutOfPlace_ValueError
  aOutOfPlace := by simp only [PySem.W.exmAny, t_OutOfPlace_BadWish, t_OutOfPlace_BadKind, t_OutOfPlace_BadGuard, t_OutOfPlace_BadPaper, t_OutOfPlace_BadText, t_OutOfPlace, Bool.true_or, Bool.or_true, Bool.or_false, Bool.or_self]
  exNothing := x_Nothing.1
  xfNothing := x_Nothing.2
  kNothingBadWish := kit_ff t_Nothing_BadWish t_Nothing
  kNothingBadKind := kit_ff t_Nothing_BadKind t_Nothing
  kNothingBadGuard := kit_ff t_Nothing_BadGuard t_Nothing
  kNothingBadPaper := kit_ff t_Nothing_BadPaper t_Nothing
  kNothingBadText := kit_ff t_Nothing_BadText t_Nothing
  kNothingOutOfPlace := kit_ff t_Nothing_OutOfPlace t_Nothing
  kNothingNothing := kit_tt t_Nothing
  kNothingTooMany := kit_ff t_Nothing_TooMany t_Nothing
  kNothingIndexError := kit_ty2 (by decide) s_Nothing_IndexError
  kNothingKeyError := kit_ty2 (by decide) s_Nothing_KeyError
  kNothingLookupError := kit_ty2 (by decide) s_Nothing_LookupError
  kNothingOverflowError := kit_ty2 (by decide) s_Nothing_OverflowError
  kNothingRuntimeError := kit_ty2 (by decide) s_Nothing_RuntimeError
  kNothingValueError := kit_ty2 (by decide) s_Nothing_ValueError
  aNothing := by simp only [PySem.W.exmAny, t_Nothing_BadWish, t_Nothing_BadKind, t_Nothing_BadGuard, t_Nothing_BadPaper, t_Nothing_BadText, t_Nothing_OutOfPlace, Bool.true_or, Bool.or_true, Bool.or_false, Bool.or_self]
  bNothing := by simp only [PySem.W.exmAny, t_Nothing, t_Nothing_TooMany, Bool.true_or, Bool.or_true, Bool.or_false, Bool.or_self]
  exTooMany := x_TooMany.1
  xfTooMany := x_TooMany.2
  fiTooMany := n_TooMany
  kTooManyBadWish := kit_ff t_TooMany_BadWish t_TooMany
  kTooManyBadKind := kit_ff t_TooMany_BadKind t_TooMany
  kTooManyBadGuard := kit_ff t_TooMany_BadGuard t_TooMany
  kTooManyBadPaper := kit_ff t_TooMany_BadPaper t_TooMany
  kTooManyBadText := kit_ff t_TooMany_BadText t_TooMany
  kTooManyOutOfPlace := kit_ff t_TooMany_OutOfPlace t_TooMany
  kTooManyNothing := kit_ff t_TooMany_Nothing t_TooMany
  kTooManyTooMany := kit_tt t_TooMany
  kTooManyIndexError := kit_ty2 (by decide) s_TooMany_IndexError
  kTooManyKeyError := kit_ty2 (by decide) s_TooMany_KeyError
  kTooManyLookupError := kit_ty2 (by decide) s_TooMany_LookupError
  kTooManyOverflowError := kit_ty2 (by decide) s_TooMany_OverflowError
  kTooManyRuntimeError := kit_ty2 (by decide) s_TooMany_RuntimeError
  kTooManyValueError := kit_ty2 (by decide) s_TooMany_ValueError
  aTooMany := by simp only [PySem.W.exmAny, t_TooMany_BadWish, t_TooMany_BadKind, t_TooMany_BadGuard, t_TooMany_BadPaper, t_TooMany_BadText, t_TooMany_OutOfPlace, Bool.true_or, Bool.or_true, Bool.or_false, Bool.or_self]
  bTooMany := by simp only [PySem.W.exmAny, t_TooMany_Nothing, t_TooMany, Bool.true_or, Bool.or_true, Bool.or_false, Bool.or_self]
abbrev s_BadGuard_init : Stmt := inClass (top 3) 0
theorem sc_BadGuard_init : FnScope ["self", "part"] ["self", "part"] (defScope s_BadGuard_init) := ⟨rfl, rfl, rfl, by decide +kernel, rfl, by decide +kernel, by decide +kernel⟩
theorem fnx_BadGuard {C f : Addr} {fd : FuncData} (F : Fun K "__init__" "BadGuard.__init__" s_BadGuard_init f fd) (T : Txt mg) (Z : OexC K C) (na : PySem.W.findIn K (.ref C) "part" = some none) (vV : PySem.W.findCls K (.type "ValueError") (.type "type") "__init__" = some (.val (.builtin "ValueError.__init__"))) : FnOk P w K mg base (L2.CX P w) 1 f fd ["self", "part"] (spExA C "part") := by
  refine F.okX sc_BadGuard_init (fun vs H Q E ⟨a, v, e, _⟩ => by subst e; rfl) fun cdv A outer s H vs Q E hr ⟨a, v, e, ha, q⟩ => ?_
  subst e
  exact ⟨_, pss_cons (ps_expr (pe_veinit (by rfl) T.ValueError vV (pa_cons (pv 0) (pa_cons (pv 1) pa_nil)))) (pss_one (ps_ost (pv 0) (pv 1))), .ref a, rfl, v, rfl, a, C, [v], rfl, by simp, Z, ha, v, rfl, .ref a, rfl, a, C, rfl, Z, na, .inl ⟨ha, fun dx h1 h2 => q dx h1 h2⟩⟩
abbrev s_BadKind_init : Stmt := inClass (top 2) 0
theorem sc_BadKind_init : FnScope ["self", "part"] ["self", "part"] (defScope s_BadKind_init) := ⟨rfl, rfl, rfl, by decide +kernel, rfl, by decide +kernel, by decide +kernel⟩
theorem fnx_BadKind {C f : Addr} {fd : FuncData} (F : Fun K "__init__" "BadKind.__init__" s_BadKind_init f fd) (T : Txt mg) (Z : OexC K C) (na : PySem.W.findIn K (.ref C) "part" = some none) (vV : PySem.W.findCls K (.type "ValueError") (.type "type") "__init__" = some (.val (.builtin "ValueError.__init__"))) : FnOk P w K mg base (L2.CX P w) 1 f fd ["self", "part"] (spExA C "part") := by
  refine F.okX sc_BadKind_init (fun vs H Q E ⟨a, v, e, _⟩ => by subst e; rfl) fun cdv A outer s H vs Q E hr ⟨a, v, e, ha, q⟩ => ?_
  subst e
  exact ⟨_, pss_cons (ps_expr (pe_veinit (by rfl) T.ValueError vV (pa_cons (pv 0) (pa_cons (pv 1) pa_nil)))) (pss_one (ps_ost (pv 0) (pv 1))), .ref a, rfl, v, rfl, a, C, [v], rfl, by simp, Z, ha, v, rfl, .ref a, rfl, a, C, rfl, Z, na, .inl ⟨ha, fun dx h1 h2 => q dx h1 h2⟩⟩
abbrev s_BadPaper_init : Stmt := inClass (top 4) 0
theorem sc_BadPaper_init : FnScope ["self", "part"] ["self", "part"] (defScope s_BadPaper_init) := ⟨rfl, rfl, rfl, by decide +kernel, rfl, by decide +kernel, by decide +kernel⟩
theorem fnx_BadPaper {C f : Addr} {fd : FuncData} (F : Fun K "__init__" "BadPaper.__init__" s_BadPaper_init f fd) (T : Txt mg) (Z : OexC K C) (na : PySem.W.findIn K (.ref C) "part" = some none) (vV : PySem.W.findCls K (.type "ValueError") (.type "type") "__init__" = some (.val (.builtin "ValueError.__init__"))) : FnOk P w K mg base (L2.CX P w) 1 f fd ["self", "part"] (spExA C "part") := by
  refine F.okX sc_BadPaper_init (fun vs H Q E ⟨a, v, e, _⟩ => by subst e; rfl) fun cdv A outer s H vs Q E hr ⟨a, v, e, ha, q⟩ => ?_
  subst e
  exact ⟨_, pss_cons (ps_expr (pe_veinit (by rfl) T.ValueError vV (pa_cons (pv 0) (pa_cons (pv 1) pa_nil)))) (pss_one (ps_ost (pv 0) (pv 1))), .ref a, rfl, v, rfl, a, C, [v], rfl, by simp, Z, ha, v, rfl, .ref a, rfl, a, C, rfl, Z, na, .inl ⟨ha, fun dx h1 h2 => q dx h1 h2⟩⟩
abbrev s_BadText_init : Stmt := inClass (top 5) 0
theorem sc_BadText_init : FnScope ["self", "line"] ["self", "line"] (defScope s_BadText_init) := ⟨rfl, rfl, rfl, by decide +kernel, rfl, by decide +kernel, by decide +kernel⟩
theorem fnx_BadText {C f : Addr} {fd : FuncData} (F : Fun K "__init__" "BadText.__init__" s_BadText_init f fd) (T : Txt mg) (Z : OexC K C) (na : PySem.W.findIn K (.ref C) "line" = some none) (vV : PySem.W.findCls K (.type "ValueError") (.type "type") "__init__" = some (.val (.builtin "ValueError.__init__"))) : FnOk P w K mg base (L2.CX P w) 1 f fd ["self", "line"] (spExA C "line") := by
  refine F.okX sc_BadText_init (fun vs H Q E ⟨a, v, e, _⟩ => by subst e; rfl) fun cdv A outer s H vs Q E hr ⟨a, v, e, ha, q⟩ => ?_
  subst e
  exact ⟨_, pss_cons (ps_expr (pe_veinit (by rfl) T.ValueError vV (pa_cons (pv 0) (pa_cons (pv 1) pa_nil)))) (pss_one (ps_ost (pv 0) (pv 1))), .ref a, rfl, v, rfl, a, C, [v], rfl, by simp, Z, ha, v, rfl, .ref a, rfl, a, C, rfl, Z, na, .inl ⟨ha, fun dx h1 h2 => q dx h1 h2⟩⟩
abbrev s_BadWish_init : Stmt := inClass (top 1) 0
theorem sc_BadWish_init : FnScope ["self", "part"] ["self", "part"] (defScope s_BadWish_init) := ⟨rfl, rfl, rfl, by decide +kernel, rfl, by decide +kernel, by decide +kernel⟩
theorem fnx_BadWish {C f : Addr} {fd : FuncData} (F : Fun K "__init__" "BadWish.__init__" s_BadWish_init f fd) (T : Txt mg) (Z : OexC K C) (na : PySem.W.findIn K (.ref C) "part" = some none) (vV : PySem.W.findCls K (.type "ValueError") (.type "type") "__init__" = some (.val (.builtin "ValueError.__init__"))) : FnOk P w K mg base (L2.CX P w) 1 f fd ["self", "part"] (spExA C "part") := by
  refine F.okX sc_BadWish_init (fun vs H Q E ⟨a, v, e, _⟩ => by subst e; rfl) fun cdv A outer s H vs Q E hr ⟨a, v, e, ha, q⟩ => ?_
  subst e
  exact ⟨_, pss_cons (ps_expr (pe_veinit (by rfl) T.ValueError vV (pa_cons (pv 0) (pa_cons (pv 1) pa_nil)))) (pss_one (ps_ost (pv 0) (pv 1))), .ref a, rfl, v, rfl, a, C, [v], rfl, by simp, Z, ha, v, rfl, .ref a, rfl, a, C, rfl, Z, na, .inl ⟨ha, fun dx h1 h2 => q dx h1 h2⟩⟩
abbrev s_Nothing_init : Stmt := inClass (top 7) 0
theorem sc_Nothing_init : FnScope ["self", "text"] ["self", "text"] (defScope s_Nothing_init) := ⟨rfl, rfl, rfl, by decide +kernel, rfl, by decide +kernel, by decide +kernel⟩
theorem fnx_Nothing {C f : Addr} {fd : FuncData} (F : Fun K "__init__" "Nothing.__init__" s_Nothing_init f fd) (T : Txt mg) (Z : OexB bsLookupError K C) (vV : PySem.W.findCls K (.type "LookupError") (.type "type") "__init__" = some (.val (.builtin "LookupError.__init__"))) : FnOk P w K mg base (L2.CX P w) 1 f fd ["self", "text"] (spExN C) := by
  refine F.okX sc_Nothing_init (fun vs H Q E ⟨a, v, e, _⟩ => by subst e; rfl) fun cdv A outer s H vs Q E hr ⟨a, v, e, ha, q⟩ => ?_
  subst e
  exact ⟨_, pss_one (ps_expr (pe_binit (b := bsLookupError) okLookupError (by rfl) T.LookupError vV (pa_cons (pv 0) (pa_cons (pv 1) pa_nil)))), _, rfl, _, rfl, a, C, [v], rfl, by simp, Z, ha, q⟩
abbrev s_OutOfPlace_init : Stmt := inClass (top 6) 0
theorem sc_OutOfPlace_init : FnScope ["self", "text"] ["self", "text"] (defScope s_OutOfPlace_init) := ⟨rfl, rfl, rfl, by decide +kernel, rfl, by decide +kernel, by decide +kernel⟩
theorem fnx_OutOfPlace {C f : Addr} {fd : FuncData} (F : Fun K "__init__" "OutOfPlace.__init__" s_OutOfPlace_init f fd) (T : Txt mg) (Z : OexC K C) (vV : PySem.W.findCls K (.type "ValueError") (.type "type") "__init__" = some (.val (.builtin "ValueError.__init__"))) : FnOk P w K mg base (L2.CX P w) 1 f fd ["self", "text"] (spExN C) := by
  refine F.okX sc_OutOfPlace_init (fun vs H Q E ⟨a, v, e, _⟩ => by subst e; rfl) fun cdv A outer s H vs Q E hr ⟨a, v, e, ha, q⟩ => ?_
  subst e
  exact ⟨_, pss_one (ps_expr (pe_veinit (by rfl) T.ValueError vV (pa_cons (pv 0) (pa_cons (pv 1) pa_nil)))), _, rfl, _, rfl, a, C, [v], rfl, by simp, Z, ha, q⟩
abbrev s_TooMany_init : Stmt := inClass (top 8) 0
theorem sc_TooMany_init : FnScope ["self", "most"] ["self", "most"] (defScope s_TooMany_init) := ⟨rfl, rfl, rfl, by decide +kernel, rfl, by decide +kernel, by decide +kernel⟩
theorem fnx_TooMany {C f : Addr} {fd : FuncData} (F : Fun K "__init__" "TooMany.__init__" s_TooMany_init f fd) (T : Txt mg) (Z : OexB bsOverflowError K C) (na : PySem.W.findIn K (.ref C) "most" = some none) (vV : PySem.W.findCls K (.type "OverflowError") (.type "type") "__init__" = some (.val (.builtin "OverflowError.__init__"))) : FnOk P w K mg base (L2.CX P w) 1 f fd ["self", "most"] (spExA C "most") := by
  refine F.okX sc_TooMany_init (fun vs H Q E ⟨a, v, e, _⟩ => by subst e; rfl) fun cdv A outer s H vs Q E hr ⟨a, v, e, ha, q⟩ => ?_
  subst e
  exact ⟨_, pss_cons (ps_expr (pe_binit (b := bsOverflowError) okOverflowError (by rfl) T.OverflowError vV (pa_cons (pv 0) (pa_cons (pv 1) pa_nil)))) (pss_one (ps_fst (b := bsOverflowError) okOverflowError (pv 0) (pv 1))), .ref a, rfl, v, rfl, a, C, [v], rfl, by simp, Z, ha, v, rfl, .ref a, rfl, a, C, rfl, Z, na, ha, fun dx h1 h2 => q dx h1 h2⟩
theorem exm_of {K : PySem.W.Frag} {S R : Addr} {b : Bool} (h1 : PySem.W.subIn K (.ref S) (.type "BaseException") = some true) (h2 : PySem.W.isClsIn K S = true) (h3 : PySem.W.typeIn K (.ref S) = some (.type "type")) (h4 : PySem.W.subIn K (.ref R) (.ref S) = some b) : PySem.W.exmOne K (.ref R) (.ref S) = some b := by
  have e1 : (PySem.W.subIn K (.ref S) (.type "BaseException") == some true) = true := by rw [h1] <;> rfl
  have h2' : (PySem.W.clsIn K S).isSome = true := h2
  have e2 : ((PySem.W.clsIn K S).isSome && PySem.W.typeIn K (.ref S) == some (.type "type")) = true := by rw [h2', h3] <;> rfl
  unfold PySem.W.exmOne PySem.W.kitCls
  rw [if_pos e1]
  simpa [e2] using h4
theorem all_mk {l : PySem.W.OpenLaw} {w : World} {K : PySem.W.Frag} {h : Heap} {mg : Str → Option Value} {fa : Addr} {f_law_begun : Addr} {oc_law_begun kV_law_begun dc_law_begun pm_law_begun cd_law_begun ct_law_begun : Value} {od_law_begun an_law_begun : Option Addr} {sl_law_begun : Array (Option Value)} {f_law_next : Addr} {oc_law_next kV_law_next dc_law_next pm_law_next cd_law_next ct_law_next : Value} {od_law_next an_law_next : Option Addr} {sl_law_next : Array (Option Value)} {f_law_of : Addr} {oc_law_of kV_law_of dc_law_of pm_law_of cd_law_of ct_law_of : Value} {od_law_of an_law_of : Option Addr} {sl_law_of : Array (Option Value)} {f_law_thing : Addr} {oc_law_thing kV_law_thing dc_law_thing pm_law_thing cd_law_thing ct_law_thing : Value} {od_law_thing an_law_thing : Option Addr} {sl_law_thing : Array (Option Value)} {f_law_all : Addr} {oc_law_all kV_law_all dc_law_all pm_law_all cd_law_all ct_law_all : Value} {od_law_all an_law_all : Option Addr} {sl_law_all : Array (Option Value)} {f_law_named : Addr} {oc_law_named kV_law_named dc_law_named pm_law_named cd_law_named ct_law_named : Value} {od_law_named an_law_named : Option Addr} {sl_law_named : Array (Option Value)} {f_law_fields : Addr} {oc_law_fields kV_law_fields dc_law_fields pm_law_fields cd_law_fields ct_law_fields : Value} {od_law_fields an_law_fields : Option Addr} {sl_law_fields : Array (Option Value)} {f_law_marks : Addr} {oc_law_marks kV_law_marks dc_law_marks pm_law_marks cd_law_marks ct_law_marks : Value} {od_law_marks an_law_marks : Option Addr} {sl_law_marks : Array (Option Value)} {f_law_due : Addr} {oc_law_due kV_law_due dc_law_due pm_law_due cd_law_due ct_law_due : Value} {od_law_due an_law_due : Option Addr} {sl_law_due : Array (Option Value)} {f_law_raised : Addr} {oc_law_raised kV_law_raised dc_law_raised pm_law_raised cd_law_raised ct_law_raised : Value} {od_law_raised an_law_raised : Option Addr} {sl_law_raised : Array (Option Value)} {f_law_caught : Addr} {oc_law_caught kV_law_caught dc_law_caught pm_law_caught cd_law_caught ct_law_caught : Value} {od_law_caught an_law_caught : Option Addr} {sl_law_caught : Array (Option Value)} {f_law : Addr} {oc_law kV_law dc_law pm_law cd_law ct_law : Value} {od_law an_law : Option Addr} {sl_law : Array (Option Value)} {C_BadGuard : Addr} {C_BadKind : Addr} {C_BadPaper : Addr} {C_BadText : Addr} {C_BadWish : Addr} {C_Nothing : Addr} {C_OutOfPlace : Addr} {C_TooMany : Addr} {nm_BadGuard q_BadGuard : Str} {N_BadGuard : Addr} {bs_BadGuard bm_BadGuard : List Value} {sn_BadGuard : List Str} {sub_BadGuard : List Value} {ab_BadGuard : Bool} {col_BadGuard : Option Bool} {dd_BadGuard : Option Addr} {m0_BadGuard m1_BadGuard m2_BadGuard m3_BadGuard m5_BadGuard : Option Value} {f_BadGuard_init : Addr} {oc_BadGuard kV_BadGuard dc_BadGuard pm_BadGuard cd_BadGuard ct_BadGuard : Value} {od_BadGuard an_BadGuard : Option Addr} {sl_BadGuard : Array (Option Value)} {nm_BadKind q_BadKind : Str} {N_BadKind : Addr} {bs_BadKind bm_BadKind : List Value} {sn_BadKind : List Str} {sub_BadKind : List Value} {ab_BadKind : Bool} {col_BadKind : Option Bool} {dd_BadKind : Option Addr} {m0_BadKind m1_BadKind m2_BadKind m3_BadKind m5_BadKind : Option Value} {f_BadKind_init : Addr} {oc_BadKind kV_BadKind dc_BadKind pm_BadKind cd_BadKind ct_BadKind : Value} {od_BadKind an_BadKind : Option Addr} {sl_BadKind : Array (Option Value)} {nm_BadPaper q_BadPaper : Str} {N_BadPaper : Addr} {bs_BadPaper bm_BadPaper : List Value} {sn_BadPaper : List Str} {sub_BadPaper : List Value} {ab_BadPaper : Bool} {col_BadPaper : Option Bool} {dd_BadPaper : Option Addr} {m0_BadPaper m1_BadPaper m2_BadPaper m3_BadPaper m5_BadPaper : Option Value} {f_BadPaper_init : Addr} {oc_BadPaper kV_BadPaper dc_BadPaper pm_BadPaper cd_BadPaper ct_BadPaper : Value} {od_BadPaper an_BadPaper : Option Addr} {sl_BadPaper : Array (Option Value)} {nm_BadText q_BadText : Str} {N_BadText : Addr} {bs_BadText bm_BadText : List Value} {sn_BadText : List Str} {sub_BadText : List Value} {ab_BadText : Bool} {col_BadText : Option Bool} {dd_BadText : Option Addr} {m0_BadText m1_BadText m2_BadText m3_BadText m5_BadText : Option Value} {f_BadText_init : Addr} {oc_BadText kV_BadText dc_BadText pm_BadText cd_BadText ct_BadText : Value} {od_BadText an_BadText : Option Addr} {sl_BadText : Array (Option Value)} {nm_BadWish q_BadWish : Str} {N_BadWish : Addr} {bs_BadWish bm_BadWish : List Value} {sn_BadWish : List Str} {sub_BadWish : List Value} {ab_BadWish : Bool} {col_BadWish : Option Bool} {dd_BadWish : Option Addr} {m0_BadWish m1_BadWish m2_BadWish m3_BadWish m5_BadWish : Option Value} {f_BadWish_init : Addr} {oc_BadWish kV_BadWish dc_BadWish pm_BadWish cd_BadWish ct_BadWish : Value} {od_BadWish an_BadWish : Option Addr} {sl_BadWish : Array (Option Value)} {nm_Nothing q_Nothing : Str} {N_Nothing : Addr} {bs_Nothing : List Value} {sn_Nothing : List Str} {sub_Nothing : List Value} {ab_Nothing : Bool} {col_Nothing : Option Bool} {dd_Nothing : Option Addr} {m0_Nothing m1_Nothing m2_Nothing m3_Nothing m5_Nothing : Option Value} {f_Nothing_init : Addr} {oc_Nothing kV_Nothing dc_Nothing pm_Nothing cd_Nothing ct_Nothing : Value} {od_Nothing an_Nothing : Option Addr} {sl_Nothing : Array (Option Value)} {nm_OutOfPlace q_OutOfPlace : Str} {N_OutOfPlace : Addr} {bs_OutOfPlace bm_OutOfPlace : List Value} {sn_OutOfPlace : List Str} {sub_OutOfPlace : List Value} {ab_OutOfPlace : Bool} {col_OutOfPlace : Option Bool} {dd_OutOfPlace : Option Addr} {m0_OutOfPlace m1_OutOfPlace m2_OutOfPlace m3_OutOfPlace m5_OutOfPlace : Option Value} {f_OutOfPlace_init : Addr} {oc_OutOfPlace kV_OutOfPlace dc_OutOfPlace pm_OutOfPlace cd_OutOfPlace ct_OutOfPlace : Value} {od_OutOfPlace an_OutOfPlace : Option Addr} {sl_OutOfPlace : Array (Option Value)} {nm_TooMany q_TooMany : Str} {N_TooMany : Addr} {bs_TooMany : List Value} {sn_TooMany : List Str} {sub_TooMany : List Value} {ab_TooMany : Bool} {col_TooMany : Option Bool} {dd_TooMany : Option Addr} {m0_TooMany m1_TooMany m2_TooMany m3_TooMany m5_TooMany : Option Value} {f_TooMany_init : Addr} {oc_TooMany kV_TooMany dc_TooMany pm_TooMany cd_TooMany ct_TooMany : Value} {od_TooMany an_TooMany : Option Addr} {sl_TooMany : Array (Option Value)} (X : K.In h) (G : h.Ns mainGlobals mg) (hfa : mg "law" = some (.ref fa))
    (a_BadGuard : PySem.W.nsIn K mainGlobals "BadGuard" = some (some (.ref C_BadGuard)))
    (a_BadKind : PySem.W.nsIn K mainGlobals "BadKind" = some (some (.ref C_BadKind)))
    (a_BadPaper : PySem.W.nsIn K mainGlobals "BadPaper" = some (some (.ref C_BadPaper)))
    (a_BadText : PySem.W.nsIn K mainGlobals "BadText" = some (some (.ref C_BadText)))
    (a_BadWish : PySem.W.nsIn K mainGlobals "BadWish" = some (some (.ref C_BadWish)))
    (a_Nothing : PySem.W.nsIn K mainGlobals "Nothing" = some (some (.ref C_Nothing)))
    (a_OutOfPlace : PySem.W.nsIn K mainGlobals "OutOfPlace" = some (some (.ref C_OutOfPlace)))
    (a_TooMany : PySem.W.nsIn K mainGlobals "TooMany" = some (some (.ref C_TooMany)))
    (eC_BadGuard : PySem.W.subIn K (.ref C_BadGuard) (.type "BaseException") = some true)
    (tC_BadGuard : PySem.W.typeIn K (.ref C_BadGuard) = some (.type "type"))
    (iC_BadGuard : PySem.W.isClsIn K C_BadGuard = true)
    (sC_BadGuard : PySem.W.subIn K (.ref C_BadGuard) (.ref C_BadGuard) = some true)
    (sC_BadGuard_BadKind : PySem.W.subIn K (.ref C_BadGuard) (.ref C_BadKind) = some false)
    (sC_BadGuard_BadPaper : PySem.W.subIn K (.ref C_BadGuard) (.ref C_BadPaper) = some false)
    (sC_BadGuard_BadText : PySem.W.subIn K (.ref C_BadGuard) (.ref C_BadText) = some false)
    (sC_BadGuard_BadWish : PySem.W.subIn K (.ref C_BadGuard) (.ref C_BadWish) = some false)
    (sC_BadGuard_Nothing : PySem.W.subIn K (.ref C_BadGuard) (.ref C_Nothing) = some false)
    (sC_BadGuard_OutOfPlace : PySem.W.subIn K (.ref C_BadGuard) (.ref C_OutOfPlace) = some false)
    (sC_BadGuard_TooMany : PySem.W.subIn K (.ref C_BadGuard) (.ref C_TooMany) = some false)
    (eC_BadKind : PySem.W.subIn K (.ref C_BadKind) (.type "BaseException") = some true)
    (tC_BadKind : PySem.W.typeIn K (.ref C_BadKind) = some (.type "type"))
    (iC_BadKind : PySem.W.isClsIn K C_BadKind = true)
    (sC_BadKind : PySem.W.subIn K (.ref C_BadKind) (.ref C_BadKind) = some true)
    (sC_BadKind_BadGuard : PySem.W.subIn K (.ref C_BadKind) (.ref C_BadGuard) = some false)
    (sC_BadKind_BadPaper : PySem.W.subIn K (.ref C_BadKind) (.ref C_BadPaper) = some false)
    (sC_BadKind_BadText : PySem.W.subIn K (.ref C_BadKind) (.ref C_BadText) = some false)
    (sC_BadKind_BadWish : PySem.W.subIn K (.ref C_BadKind) (.ref C_BadWish) = some false)
    (sC_BadKind_Nothing : PySem.W.subIn K (.ref C_BadKind) (.ref C_Nothing) = some false)
    (sC_BadKind_OutOfPlace : PySem.W.subIn K (.ref C_BadKind) (.ref C_OutOfPlace) = some false)
    (sC_BadKind_TooMany : PySem.W.subIn K (.ref C_BadKind) (.ref C_TooMany) = some false)
    (eC_BadPaper : PySem.W.subIn K (.ref C_BadPaper) (.type "BaseException") = some true)
    (tC_BadPaper : PySem.W.typeIn K (.ref C_BadPaper) = some (.type "type"))
    (iC_BadPaper : PySem.W.isClsIn K C_BadPaper = true)
    (sC_BadPaper : PySem.W.subIn K (.ref C_BadPaper) (.ref C_BadPaper) = some true)
    (sC_BadPaper_BadGuard : PySem.W.subIn K (.ref C_BadPaper) (.ref C_BadGuard) = some false)
    (sC_BadPaper_BadKind : PySem.W.subIn K (.ref C_BadPaper) (.ref C_BadKind) = some false)
    (sC_BadPaper_BadText : PySem.W.subIn K (.ref C_BadPaper) (.ref C_BadText) = some false)
    (sC_BadPaper_BadWish : PySem.W.subIn K (.ref C_BadPaper) (.ref C_BadWish) = some false)
    (sC_BadPaper_Nothing : PySem.W.subIn K (.ref C_BadPaper) (.ref C_Nothing) = some false)
    (sC_BadPaper_OutOfPlace : PySem.W.subIn K (.ref C_BadPaper) (.ref C_OutOfPlace) = some false)
    (sC_BadPaper_TooMany : PySem.W.subIn K (.ref C_BadPaper) (.ref C_TooMany) = some false)
    (eC_BadText : PySem.W.subIn K (.ref C_BadText) (.type "BaseException") = some true)
    (tC_BadText : PySem.W.typeIn K (.ref C_BadText) = some (.type "type"))
    (iC_BadText : PySem.W.isClsIn K C_BadText = true)
    (sC_BadText : PySem.W.subIn K (.ref C_BadText) (.ref C_BadText) = some true)
    (sC_BadText_BadGuard : PySem.W.subIn K (.ref C_BadText) (.ref C_BadGuard) = some false)
    (sC_BadText_BadKind : PySem.W.subIn K (.ref C_BadText) (.ref C_BadKind) = some false)
    (sC_BadText_BadPaper : PySem.W.subIn K (.ref C_BadText) (.ref C_BadPaper) = some false)
    (sC_BadText_BadWish : PySem.W.subIn K (.ref C_BadText) (.ref C_BadWish) = some false)
    (sC_BadText_Nothing : PySem.W.subIn K (.ref C_BadText) (.ref C_Nothing) = some false)
    (sC_BadText_OutOfPlace : PySem.W.subIn K (.ref C_BadText) (.ref C_OutOfPlace) = some false)
    (sC_BadText_TooMany : PySem.W.subIn K (.ref C_BadText) (.ref C_TooMany) = some false)
    (eC_BadWish : PySem.W.subIn K (.ref C_BadWish) (.type "BaseException") = some true)
    (tC_BadWish : PySem.W.typeIn K (.ref C_BadWish) = some (.type "type"))
    (iC_BadWish : PySem.W.isClsIn K C_BadWish = true)
    (sC_BadWish : PySem.W.subIn K (.ref C_BadWish) (.ref C_BadWish) = some true)
    (sC_BadWish_BadGuard : PySem.W.subIn K (.ref C_BadWish) (.ref C_BadGuard) = some false)
    (sC_BadWish_BadKind : PySem.W.subIn K (.ref C_BadWish) (.ref C_BadKind) = some false)
    (sC_BadWish_BadPaper : PySem.W.subIn K (.ref C_BadWish) (.ref C_BadPaper) = some false)
    (sC_BadWish_BadText : PySem.W.subIn K (.ref C_BadWish) (.ref C_BadText) = some false)
    (sC_BadWish_Nothing : PySem.W.subIn K (.ref C_BadWish) (.ref C_Nothing) = some false)
    (sC_BadWish_OutOfPlace : PySem.W.subIn K (.ref C_BadWish) (.ref C_OutOfPlace) = some false)
    (sC_BadWish_TooMany : PySem.W.subIn K (.ref C_BadWish) (.ref C_TooMany) = some false)
    (eC_Nothing : PySem.W.subIn K (.ref C_Nothing) (.type "BaseException") = some true)
    (tC_Nothing : PySem.W.typeIn K (.ref C_Nothing) = some (.type "type"))
    (iC_Nothing : PySem.W.isClsIn K C_Nothing = true)
    (sC_Nothing : PySem.W.subIn K (.ref C_Nothing) (.ref C_Nothing) = some true)
    (sC_Nothing_BadGuard : PySem.W.subIn K (.ref C_Nothing) (.ref C_BadGuard) = some false)
    (sC_Nothing_BadKind : PySem.W.subIn K (.ref C_Nothing) (.ref C_BadKind) = some false)
    (sC_Nothing_BadPaper : PySem.W.subIn K (.ref C_Nothing) (.ref C_BadPaper) = some false)
    (sC_Nothing_BadText : PySem.W.subIn K (.ref C_Nothing) (.ref C_BadText) = some false)
    (sC_Nothing_BadWish : PySem.W.subIn K (.ref C_Nothing) (.ref C_BadWish) = some false)
    (sC_Nothing_OutOfPlace : PySem.W.subIn K (.ref C_Nothing) (.ref C_OutOfPlace) = some false)
    (sC_Nothing_TooMany : PySem.W.subIn K (.ref C_Nothing) (.ref C_TooMany) = some false)
    (eC_OutOfPlace : PySem.W.subIn K (.ref C_OutOfPlace) (.type "BaseException") = some true)
    (tC_OutOfPlace : PySem.W.typeIn K (.ref C_OutOfPlace) = some (.type "type"))
    (iC_OutOfPlace : PySem.W.isClsIn K C_OutOfPlace = true)
    (sC_OutOfPlace : PySem.W.subIn K (.ref C_OutOfPlace) (.ref C_OutOfPlace) = some true)
    (sC_OutOfPlace_BadGuard : PySem.W.subIn K (.ref C_OutOfPlace) (.ref C_BadGuard) = some false)
    (sC_OutOfPlace_BadKind : PySem.W.subIn K (.ref C_OutOfPlace) (.ref C_BadKind) = some false)
    (sC_OutOfPlace_BadPaper : PySem.W.subIn K (.ref C_OutOfPlace) (.ref C_BadPaper) = some false)
    (sC_OutOfPlace_BadText : PySem.W.subIn K (.ref C_OutOfPlace) (.ref C_BadText) = some false)
    (sC_OutOfPlace_BadWish : PySem.W.subIn K (.ref C_OutOfPlace) (.ref C_BadWish) = some false)
    (sC_OutOfPlace_Nothing : PySem.W.subIn K (.ref C_OutOfPlace) (.ref C_Nothing) = some false)
    (sC_OutOfPlace_TooMany : PySem.W.subIn K (.ref C_OutOfPlace) (.ref C_TooMany) = some false)
    (eC_TooMany : PySem.W.subIn K (.ref C_TooMany) (.type "BaseException") = some true)
    (tC_TooMany : PySem.W.typeIn K (.ref C_TooMany) = some (.type "type"))
    (iC_TooMany : PySem.W.isClsIn K C_TooMany = true)
    (sC_TooMany : PySem.W.subIn K (.ref C_TooMany) (.ref C_TooMany) = some true)
    (sC_TooMany_BadGuard : PySem.W.subIn K (.ref C_TooMany) (.ref C_BadGuard) = some false)
    (sC_TooMany_BadKind : PySem.W.subIn K (.ref C_TooMany) (.ref C_BadKind) = some false)
    (sC_TooMany_BadPaper : PySem.W.subIn K (.ref C_TooMany) (.ref C_BadPaper) = some false)
    (sC_TooMany_BadText : PySem.W.subIn K (.ref C_TooMany) (.ref C_BadText) = some false)
    (sC_TooMany_BadWish : PySem.W.subIn K (.ref C_TooMany) (.ref C_BadWish) = some false)
    (sC_TooMany_Nothing : PySem.W.subIn K (.ref C_TooMany) (.ref C_Nothing) = some false)
    (sC_TooMany_OutOfPlace : PySem.W.subIn K (.ref C_TooMany) (.ref C_OutOfPlace) = some false)
    (xl_BadGuard : K.lookup C_BadGuard = some (excClassObj nm_BadGuard q_BadGuard C_BadGuard N_BadGuard bs_BadGuard bm_BadGuard true sn_BadGuard sub_BadGuard ab_BadGuard col_BadGuard dd_BadGuard m0_BadGuard m1_BadGuard m2_BadGuard m3_BadGuard m5_BadGuard "ValueError.__new__"))
    (rv_BadGuard : PySem.HandSPX.refsVE bm_BadGuard = true)
    (sa_BadGuard : PySem.W.findIn K (.ref C_BadGuard) "__setattr__" = some (some (.builtin "object.__setattr__")))
    (kC_BadGuard : PySem.W.keepIn K (.ref C_BadGuard) = true)
    (a_BadGuard_init : PySem.W.findIn K (.ref C_BadGuard) "__init__" = some (some (.ref f_BadGuard_init)))
    (tI_BadGuard : PySem.W.typeIn K (.ref f_BadGuard_init) = some (.type "function"))
    (l_BadGuard_init : K.lookup f_BadGuard_init = some ⟨oc_BadGuard, od_BadGuard, .func (PySem.W.fnOf "__init__" "BadGuard.__init__" (defArgs s_BadGuard_init) (defBody s_BadGuard_init) (defScope s_BadGuard_init) .none kV_BadGuard dc_BadGuard pm_BadGuard an_BadGuard cd_BadGuard ct_BadGuard), sl_BadGuard⟩)
    (c_BadGuard_init : PySem.W.codeIn K cd_BadGuard "BadGuard.__init__" = true)
    (k_BadGuard_init : PySem.W.keepIn K (.ref f_BadGuard_init) = true)
    (nx_BadGuard : PySem.W.findIn K (.ref C_BadGuard) "part" = some none)
    (xl_BadKind : K.lookup C_BadKind = some (excClassObj nm_BadKind q_BadKind C_BadKind N_BadKind bs_BadKind bm_BadKind true sn_BadKind sub_BadKind ab_BadKind col_BadKind dd_BadKind m0_BadKind m1_BadKind m2_BadKind m3_BadKind m5_BadKind "ValueError.__new__"))
    (rv_BadKind : PySem.HandSPX.refsVE bm_BadKind = true)
    (sa_BadKind : PySem.W.findIn K (.ref C_BadKind) "__setattr__" = some (some (.builtin "object.__setattr__")))
    (kC_BadKind : PySem.W.keepIn K (.ref C_BadKind) = true)
    (a_BadKind_init : PySem.W.findIn K (.ref C_BadKind) "__init__" = some (some (.ref f_BadKind_init)))
    (tI_BadKind : PySem.W.typeIn K (.ref f_BadKind_init) = some (.type "function"))
    (l_BadKind_init : K.lookup f_BadKind_init = some ⟨oc_BadKind, od_BadKind, .func (PySem.W.fnOf "__init__" "BadKind.__init__" (defArgs s_BadKind_init) (defBody s_BadKind_init) (defScope s_BadKind_init) .none kV_BadKind dc_BadKind pm_BadKind an_BadKind cd_BadKind ct_BadKind), sl_BadKind⟩)
    (c_BadKind_init : PySem.W.codeIn K cd_BadKind "BadKind.__init__" = true)
    (k_BadKind_init : PySem.W.keepIn K (.ref f_BadKind_init) = true)
    (nx_BadKind : PySem.W.findIn K (.ref C_BadKind) "part" = some none)
    (xl_BadPaper : K.lookup C_BadPaper = some (excClassObj nm_BadPaper q_BadPaper C_BadPaper N_BadPaper bs_BadPaper bm_BadPaper true sn_BadPaper sub_BadPaper ab_BadPaper col_BadPaper dd_BadPaper m0_BadPaper m1_BadPaper m2_BadPaper m3_BadPaper m5_BadPaper "ValueError.__new__"))
    (rv_BadPaper : PySem.HandSPX.refsVE bm_BadPaper = true)
    (sa_BadPaper : PySem.W.findIn K (.ref C_BadPaper) "__setattr__" = some (some (.builtin "object.__setattr__")))
    (kC_BadPaper : PySem.W.keepIn K (.ref C_BadPaper) = true)
    (a_BadPaper_init : PySem.W.findIn K (.ref C_BadPaper) "__init__" = some (some (.ref f_BadPaper_init)))
    (tI_BadPaper : PySem.W.typeIn K (.ref f_BadPaper_init) = some (.type "function"))
    (l_BadPaper_init : K.lookup f_BadPaper_init = some ⟨oc_BadPaper, od_BadPaper, .func (PySem.W.fnOf "__init__" "BadPaper.__init__" (defArgs s_BadPaper_init) (defBody s_BadPaper_init) (defScope s_BadPaper_init) .none kV_BadPaper dc_BadPaper pm_BadPaper an_BadPaper cd_BadPaper ct_BadPaper), sl_BadPaper⟩)
    (c_BadPaper_init : PySem.W.codeIn K cd_BadPaper "BadPaper.__init__" = true)
    (k_BadPaper_init : PySem.W.keepIn K (.ref f_BadPaper_init) = true)
    (nx_BadPaper : PySem.W.findIn K (.ref C_BadPaper) "part" = some none)
    (xl_BadText : K.lookup C_BadText = some (excClassObj nm_BadText q_BadText C_BadText N_BadText bs_BadText bm_BadText true sn_BadText sub_BadText ab_BadText col_BadText dd_BadText m0_BadText m1_BadText m2_BadText m3_BadText m5_BadText "ValueError.__new__"))
    (rv_BadText : PySem.HandSPX.refsVE bm_BadText = true)
    (sa_BadText : PySem.W.findIn K (.ref C_BadText) "__setattr__" = some (some (.builtin "object.__setattr__")))
    (kC_BadText : PySem.W.keepIn K (.ref C_BadText) = true)
    (a_BadText_init : PySem.W.findIn K (.ref C_BadText) "__init__" = some (some (.ref f_BadText_init)))
    (tI_BadText : PySem.W.typeIn K (.ref f_BadText_init) = some (.type "function"))
    (l_BadText_init : K.lookup f_BadText_init = some ⟨oc_BadText, od_BadText, .func (PySem.W.fnOf "__init__" "BadText.__init__" (defArgs s_BadText_init) (defBody s_BadText_init) (defScope s_BadText_init) .none kV_BadText dc_BadText pm_BadText an_BadText cd_BadText ct_BadText), sl_BadText⟩)
    (c_BadText_init : PySem.W.codeIn K cd_BadText "BadText.__init__" = true)
    (k_BadText_init : PySem.W.keepIn K (.ref f_BadText_init) = true)
    (nx_BadText : PySem.W.findIn K (.ref C_BadText) "line" = some none)
    (xl_BadWish : K.lookup C_BadWish = some (excClassObj nm_BadWish q_BadWish C_BadWish N_BadWish bs_BadWish bm_BadWish true sn_BadWish sub_BadWish ab_BadWish col_BadWish dd_BadWish m0_BadWish m1_BadWish m2_BadWish m3_BadWish m5_BadWish "ValueError.__new__"))
    (rv_BadWish : PySem.HandSPX.refsVE bm_BadWish = true)
    (sa_BadWish : PySem.W.findIn K (.ref C_BadWish) "__setattr__" = some (some (.builtin "object.__setattr__")))
    (kC_BadWish : PySem.W.keepIn K (.ref C_BadWish) = true)
    (a_BadWish_init : PySem.W.findIn K (.ref C_BadWish) "__init__" = some (some (.ref f_BadWish_init)))
    (tI_BadWish : PySem.W.typeIn K (.ref f_BadWish_init) = some (.type "function"))
    (l_BadWish_init : K.lookup f_BadWish_init = some ⟨oc_BadWish, od_BadWish, .func (PySem.W.fnOf "__init__" "BadWish.__init__" (defArgs s_BadWish_init) (defBody s_BadWish_init) (defScope s_BadWish_init) .none kV_BadWish dc_BadWish pm_BadWish an_BadWish cd_BadWish ct_BadWish), sl_BadWish⟩)
    (c_BadWish_init : PySem.W.codeIn K cd_BadWish "BadWish.__init__" = true)
    (k_BadWish_init : PySem.W.keepIn K (.ref f_BadWish_init) = true)
    (nx_BadWish : PySem.W.findIn K (.ref C_BadWish) "part" = some none)
    (xl_Nothing : K.lookup C_Nothing = some (excClassObj nm_Nothing q_Nothing C_Nothing N_Nothing bs_Nothing bsLookupError.tail true sn_Nothing sub_Nothing ab_Nothing col_Nothing dd_Nothing m0_Nothing m1_Nothing m2_Nothing m3_Nothing m5_Nothing "LookupError.__new__"))
    (sa_Nothing : PySem.W.findIn K (.ref C_Nothing) "__setattr__" = some (some (.builtin "object.__setattr__")))
    (kC_Nothing : PySem.W.keepIn K (.ref C_Nothing) = true)
    (a_Nothing_init : PySem.W.findIn K (.ref C_Nothing) "__init__" = some (some (.ref f_Nothing_init)))
    (tI_Nothing : PySem.W.typeIn K (.ref f_Nothing_init) = some (.type "function"))
    (l_Nothing_init : K.lookup f_Nothing_init = some ⟨oc_Nothing, od_Nothing, .func (PySem.W.fnOf "__init__" "Nothing.__init__" (defArgs s_Nothing_init) (defBody s_Nothing_init) (defScope s_Nothing_init) .none kV_Nothing dc_Nothing pm_Nothing an_Nothing cd_Nothing ct_Nothing), sl_Nothing⟩)
    (c_Nothing_init : PySem.W.codeIn K cd_Nothing "Nothing.__init__" = true)
    (k_Nothing_init : PySem.W.keepIn K (.ref f_Nothing_init) = true)
    (xl_OutOfPlace : K.lookup C_OutOfPlace = some (excClassObj nm_OutOfPlace q_OutOfPlace C_OutOfPlace N_OutOfPlace bs_OutOfPlace bm_OutOfPlace true sn_OutOfPlace sub_OutOfPlace ab_OutOfPlace col_OutOfPlace dd_OutOfPlace m0_OutOfPlace m1_OutOfPlace m2_OutOfPlace m3_OutOfPlace m5_OutOfPlace "ValueError.__new__"))
    (rv_OutOfPlace : PySem.HandSPX.refsVE bm_OutOfPlace = true)
    (sa_OutOfPlace : PySem.W.findIn K (.ref C_OutOfPlace) "__setattr__" = some (some (.builtin "object.__setattr__")))
    (kC_OutOfPlace : PySem.W.keepIn K (.ref C_OutOfPlace) = true)
    (a_OutOfPlace_init : PySem.W.findIn K (.ref C_OutOfPlace) "__init__" = some (some (.ref f_OutOfPlace_init)))
    (tI_OutOfPlace : PySem.W.typeIn K (.ref f_OutOfPlace_init) = some (.type "function"))
    (l_OutOfPlace_init : K.lookup f_OutOfPlace_init = some ⟨oc_OutOfPlace, od_OutOfPlace, .func (PySem.W.fnOf "__init__" "OutOfPlace.__init__" (defArgs s_OutOfPlace_init) (defBody s_OutOfPlace_init) (defScope s_OutOfPlace_init) .none kV_OutOfPlace dc_OutOfPlace pm_OutOfPlace an_OutOfPlace cd_OutOfPlace ct_OutOfPlace), sl_OutOfPlace⟩)
    (c_OutOfPlace_init : PySem.W.codeIn K cd_OutOfPlace "OutOfPlace.__init__" = true)
    (k_OutOfPlace_init : PySem.W.keepIn K (.ref f_OutOfPlace_init) = true)
    (xl_TooMany : K.lookup C_TooMany = some (excClassObj nm_TooMany q_TooMany C_TooMany N_TooMany bs_TooMany bsOverflowError.tail true sn_TooMany sub_TooMany ab_TooMany col_TooMany dd_TooMany m0_TooMany m1_TooMany m2_TooMany m3_TooMany m5_TooMany "OverflowError.__new__"))
    (sa_TooMany : PySem.W.findIn K (.ref C_TooMany) "__setattr__" = some (some (.builtin "object.__setattr__")))
    (kC_TooMany : PySem.W.keepIn K (.ref C_TooMany) = true)
    (a_TooMany_init : PySem.W.findIn K (.ref C_TooMany) "__init__" = some (some (.ref f_TooMany_init)))
    (tI_TooMany : PySem.W.typeIn K (.ref f_TooMany_init) = some (.type "function"))
    (l_TooMany_init : K.lookup f_TooMany_init = some ⟨oc_TooMany, od_TooMany, .func (PySem.W.fnOf "__init__" "TooMany.__init__" (defArgs s_TooMany_init) (defBody s_TooMany_init) (defScope s_TooMany_init) .none kV_TooMany dc_TooMany pm_TooMany an_TooMany cd_TooMany ct_TooMany), sl_TooMany⟩)
    (c_TooMany_init : PySem.W.codeIn K cd_TooMany "TooMany.__init__" = true)
    (k_TooMany_init : PySem.W.keepIn K (.ref f_TooMany_init) = true)
    (nx_TooMany : PySem.W.findIn K (.ref C_TooMany) "most" = some none)
    (vV_LookupError : PySem.W.findCls K (.type "LookupError") (.type "type") "__init__" = some (.val (.builtin "LookupError.__init__")))
    (vV_OverflowError : PySem.W.findCls K (.type "OverflowError") (.type "type") "__init__" = some (.val (.builtin "OverflowError.__init__")))
    (vV_ValueError : PySem.W.findCls K (.type "ValueError") (.type "type") "__init__" = some (.val (.builtin "ValueError.__init__")))
    (a_law_begun : PySem.W.nsIn K mainGlobals "_law_begun" = some (some (.ref f_law_begun)))
    (l_law_begun : K.lookup f_law_begun = some ⟨oc_law_begun, od_law_begun, .func (PySem.W.fnOf "_law_begun" "_law_begun" (defArgs s_law_begun) (defBody s_law_begun) (defScope s_law_begun) .none kV_law_begun dc_law_begun pm_law_begun an_law_begun cd_law_begun ct_law_begun), sl_law_begun⟩)
    (c_law_begun : PySem.W.codeIn K cd_law_begun "_law_begun" = true)
    (k_law_begun : PySem.W.keepIn K (.ref f_law_begun) = true)
    (a_law_next : PySem.W.nsIn K mainGlobals "_law_next" = some (some (.ref f_law_next)))
    (l_law_next : K.lookup f_law_next = some ⟨oc_law_next, od_law_next, .func (PySem.W.fnOf "_law_next" "_law_next" (defArgs s_law_next) (defBody s_law_next) (defScope s_law_next) .none kV_law_next dc_law_next pm_law_next an_law_next cd_law_next ct_law_next), sl_law_next⟩)
    (c_law_next : PySem.W.codeIn K cd_law_next "_law_next" = true)
    (k_law_next : PySem.W.keepIn K (.ref f_law_next) = true)
    (a_law_of : PySem.W.nsIn K mainGlobals "_law_of" = some (some (.ref f_law_of)))
    (l_law_of : K.lookup f_law_of = some ⟨oc_law_of, od_law_of, .func (PySem.W.fnOf "_law_of" "_law_of" (defArgs s_law_of) (defBody s_law_of) (defScope s_law_of) .none kV_law_of dc_law_of pm_law_of an_law_of cd_law_of ct_law_of), sl_law_of⟩)
    (c_law_of : PySem.W.codeIn K cd_law_of "_law_of" = true)
    (k_law_of : PySem.W.keepIn K (.ref f_law_of) = true)
    (a_law_thing : PySem.W.nsIn K mainGlobals "_law_thing" = some (some (.ref f_law_thing)))
    (l_law_thing : K.lookup f_law_thing = some ⟨oc_law_thing, od_law_thing, .func (PySem.W.fnOf "_law_thing" "_law_thing" (defArgs s_law_thing) (defBody s_law_thing) (defScope s_law_thing) .none kV_law_thing dc_law_thing pm_law_thing an_law_thing cd_law_thing ct_law_thing), sl_law_thing⟩)
    (c_law_thing : PySem.W.codeIn K cd_law_thing "_law_thing" = true)
    (k_law_thing : PySem.W.keepIn K (.ref f_law_thing) = true)
    (a_law_all : PySem.W.nsIn K mainGlobals "_law_all" = some (some (.ref f_law_all)))
    (l_law_all : K.lookup f_law_all = some ⟨oc_law_all, od_law_all, .func (PySem.W.fnOf "_law_all" "_law_all" (defArgs s_law_all) (defBody s_law_all) (defScope s_law_all) .none kV_law_all dc_law_all pm_law_all an_law_all cd_law_all ct_law_all), sl_law_all⟩)
    (c_law_all : PySem.W.codeIn K cd_law_all "_law_all" = true)
    (k_law_all : PySem.W.keepIn K (.ref f_law_all) = true)
    (a_law_named : PySem.W.nsIn K mainGlobals "_law_named" = some (some (.ref f_law_named)))
    (l_law_named : K.lookup f_law_named = some ⟨oc_law_named, od_law_named, .func (PySem.W.fnOf "_law_named" "_law_named" (defArgs s_law_named) (defBody s_law_named) (defScope s_law_named) .none kV_law_named dc_law_named pm_law_named an_law_named cd_law_named ct_law_named), sl_law_named⟩)
    (c_law_named : PySem.W.codeIn K cd_law_named "_law_named" = true)
    (k_law_named : PySem.W.keepIn K (.ref f_law_named) = true)
    (a_law_fields : PySem.W.nsIn K mainGlobals "_law_fields" = some (some (.ref f_law_fields)))
    (l_law_fields : K.lookup f_law_fields = some ⟨oc_law_fields, od_law_fields, .func (PySem.W.fnOf "_law_fields" "_law_fields" (defArgs s_law_fields) (defBody s_law_fields) (defScope s_law_fields) .none kV_law_fields dc_law_fields pm_law_fields an_law_fields cd_law_fields ct_law_fields), sl_law_fields⟩)
    (c_law_fields : PySem.W.codeIn K cd_law_fields "_law_fields" = true)
    (k_law_fields : PySem.W.keepIn K (.ref f_law_fields) = true)
    (a_law_marks : PySem.W.nsIn K mainGlobals "_law_marks" = some (some (.ref f_law_marks)))
    (l_law_marks : K.lookup f_law_marks = some ⟨oc_law_marks, od_law_marks, .func (PySem.W.fnOf "_law_marks" "_law_marks" (defArgs s_law_marks) (defBody s_law_marks) (defScope s_law_marks) .none kV_law_marks dc_law_marks pm_law_marks an_law_marks cd_law_marks ct_law_marks), sl_law_marks⟩)
    (c_law_marks : PySem.W.codeIn K cd_law_marks "_law_marks" = true)
    (k_law_marks : PySem.W.keepIn K (.ref f_law_marks) = true)
    (a_law_due : PySem.W.nsIn K mainGlobals "_law_due" = some (some (.ref f_law_due)))
    (l_law_due : K.lookup f_law_due = some ⟨oc_law_due, od_law_due, .func (PySem.W.fnOf "_law_due" "_law_due" (defArgs s_law_due) (defBody s_law_due) (defScope s_law_due) .none kV_law_due dc_law_due pm_law_due an_law_due cd_law_due ct_law_due), sl_law_due⟩)
    (c_law_due : PySem.W.codeIn K cd_law_due "_law_due" = true)
    (k_law_due : PySem.W.keepIn K (.ref f_law_due) = true)
    (a_law_raised : PySem.W.nsIn K mainGlobals "_law_raised" = some (some (.ref f_law_raised)))
    (l_law_raised : K.lookup f_law_raised = some ⟨oc_law_raised, od_law_raised, .func (PySem.W.fnOf "_law_raised" "_law_raised" (defArgs s_law_raised) (defBody s_law_raised) (defScope s_law_raised) .none kV_law_raised dc_law_raised pm_law_raised an_law_raised cd_law_raised ct_law_raised), sl_law_raised⟩)
    (c_law_raised : PySem.W.codeIn K cd_law_raised "_law_raised" = true)
    (k_law_raised : PySem.W.keepIn K (.ref f_law_raised) = true)
    (a_law_caught : PySem.W.nsIn K mainGlobals "_law_caught" = some (some (.ref f_law_caught)))
    (l_law_caught : K.lookup f_law_caught = some ⟨oc_law_caught, od_law_caught, .func (PySem.W.fnOf "_law_caught" "_law_caught" (defArgs s_law_caught) (defBody s_law_caught) (defScope s_law_caught) .none kV_law_caught dc_law_caught pm_law_caught an_law_caught cd_law_caught ct_law_caught), sl_law_caught⟩)
    (c_law_caught : PySem.W.codeIn K cd_law_caught "_law_caught" = true)
    (k_law_caught : PySem.W.keepIn K (.ref f_law_caught) = true)
    (a_law : PySem.W.nsIn K mainGlobals "law" = some (some (.ref f_law)))
    (l_law : K.lookup f_law = some ⟨oc_law, od_law, .func (PySem.W.fnOf "law" "law" (defArgs s_law) (defBody s_law) (defScope s_law) .none kV_law dc_law pm_law an_law cd_law ct_law), sl_law⟩)
    (c_law : PySem.W.codeIn K cd_law "law" = true)
    (k_law : PySem.W.keepIn K (.ref f_law) = true)
    (xg_BadGuard : PySem.W.findIn K (.ref C_BadGuard) "__getattribute__" = some (some (.builtin "BaseException.__getattribute__")))
    (xh_BadGuard : PySem.W.findIn K (.ref C_BadGuard) "__getattr__" = some none)
    (xd_BadGuard : PySem.W.hasDictIn K C_BadGuard = true)
    (xk_BadGuard : PySem.W.findIn K (.ref C_BadGuard) "__class__" = some (some (.builtin "object.__class__")))
    (xm_BadGuard : PySem.W.mroIn K C_BadGuard (.type "object") = some true)
    (xg_BadKind : PySem.W.findIn K (.ref C_BadKind) "__getattribute__" = some (some (.builtin "BaseException.__getattribute__")))
    (xh_BadKind : PySem.W.findIn K (.ref C_BadKind) "__getattr__" = some none)
    (xd_BadKind : PySem.W.hasDictIn K C_BadKind = true)
    (xk_BadKind : PySem.W.findIn K (.ref C_BadKind) "__class__" = some (some (.builtin "object.__class__")))
    (xm_BadKind : PySem.W.mroIn K C_BadKind (.type "object") = some true)
    (xg_BadPaper : PySem.W.findIn K (.ref C_BadPaper) "__getattribute__" = some (some (.builtin "BaseException.__getattribute__")))
    (xh_BadPaper : PySem.W.findIn K (.ref C_BadPaper) "__getattr__" = some none)
    (xd_BadPaper : PySem.W.hasDictIn K C_BadPaper = true)
    (xk_BadPaper : PySem.W.findIn K (.ref C_BadPaper) "__class__" = some (some (.builtin "object.__class__")))
    (xm_BadPaper : PySem.W.mroIn K C_BadPaper (.type "object") = some true)
    (xg_BadText : PySem.W.findIn K (.ref C_BadText) "__getattribute__" = some (some (.builtin "BaseException.__getattribute__")))
    (xh_BadText : PySem.W.findIn K (.ref C_BadText) "__getattr__" = some none)
    (xd_BadText : PySem.W.hasDictIn K C_BadText = true)
    (xk_BadText : PySem.W.findIn K (.ref C_BadText) "__class__" = some (some (.builtin "object.__class__")))
    (xm_BadText : PySem.W.mroIn K C_BadText (.type "object") = some true)
    (xg_BadWish : PySem.W.findIn K (.ref C_BadWish) "__getattribute__" = some (some (.builtin "BaseException.__getattribute__")))
    (xh_BadWish : PySem.W.findIn K (.ref C_BadWish) "__getattr__" = some none)
    (xd_BadWish : PySem.W.hasDictIn K C_BadWish = true)
    (xk_BadWish : PySem.W.findIn K (.ref C_BadWish) "__class__" = some (some (.builtin "object.__class__")))
    (xm_BadWish : PySem.W.mroIn K C_BadWish (.type "object") = some true)
    (xg_Nothing : PySem.W.findIn K (.ref C_Nothing) "__getattribute__" = some (some (.builtin "BaseException.__getattribute__")))
    (xh_Nothing : PySem.W.findIn K (.ref C_Nothing) "__getattr__" = some none)
    (xd_Nothing : PySem.W.hasDictIn K C_Nothing = true)
    (xk_Nothing : PySem.W.findIn K (.ref C_Nothing) "__class__" = some (some (.builtin "object.__class__")))
    (xm_Nothing : PySem.W.mroIn K C_Nothing (.type "object") = some true)
    (xg_OutOfPlace : PySem.W.findIn K (.ref C_OutOfPlace) "__getattribute__" = some (some (.builtin "BaseException.__getattribute__")))
    (xh_OutOfPlace : PySem.W.findIn K (.ref C_OutOfPlace) "__getattr__" = some none)
    (xd_OutOfPlace : PySem.W.hasDictIn K C_OutOfPlace = true)
    (xk_OutOfPlace : PySem.W.findIn K (.ref C_OutOfPlace) "__class__" = some (some (.builtin "object.__class__")))
    (xm_OutOfPlace : PySem.W.mroIn K C_OutOfPlace (.type "object") = some true)
    (xg_TooMany : PySem.W.findIn K (.ref C_TooMany) "__getattribute__" = some (some (.builtin "BaseException.__getattribute__")))
    (xh_TooMany : PySem.W.findIn K (.ref C_TooMany) "__getattr__" = some none)
    (xd_TooMany : PySem.W.hasDictIn K C_TooMany = true)
    (xk_TooMany : PySem.W.findIn K (.ref C_TooMany) "__class__" = some (some (.builtin "object.__class__")))
    (xm_TooMany : PySem.W.mroIn K C_TooMany (.type "object") = some true)
    (xn_0 : PySem.W.specialIn K (.builtin "object.__class__") "__get__" = some (some (.builtin "getset_descriptor.__get__")))
    (xt_0 : PySem.W.takesIn K (.builtin "object.__class__") = some true)
    (sb_BadGuard_IndexError : PySem.W.subIn K (.ref C_BadGuard) (.type "IndexError") = some false)
    (sb_BadGuard_KeyError : PySem.W.subIn K (.ref C_BadGuard) (.type "KeyError") = some false)
    (sb_BadGuard_LookupError : PySem.W.subIn K (.ref C_BadGuard) (.type "LookupError") = some false)
    (sb_BadGuard_OverflowError : PySem.W.subIn K (.ref C_BadGuard) (.type "OverflowError") = some false)
    (sb_BadGuard_RuntimeError : PySem.W.subIn K (.ref C_BadGuard) (.type "RuntimeError") = some false)
    (sb_BadGuard_ValueError : PySem.W.subIn K (.ref C_BadGuard) (.type "ValueError") = some true)
    (sb_BadKind_IndexError : PySem.W.subIn K (.ref C_BadKind) (.type "IndexError") = some false)
    (sb_BadKind_KeyError : PySem.W.subIn K (.ref C_BadKind) (.type "KeyError") = some false)
    (sb_BadKind_LookupError : PySem.W.subIn K (.ref C_BadKind) (.type "LookupError") = some false)
    (sb_BadKind_OverflowError : PySem.W.subIn K (.ref C_BadKind) (.type "OverflowError") = some false)
    (sb_BadKind_RuntimeError : PySem.W.subIn K (.ref C_BadKind) (.type "RuntimeError") = some false)
    (sb_BadKind_ValueError : PySem.W.subIn K (.ref C_BadKind) (.type "ValueError") = some true)
    (sb_BadPaper_IndexError : PySem.W.subIn K (.ref C_BadPaper) (.type "IndexError") = some false)
    (sb_BadPaper_KeyError : PySem.W.subIn K (.ref C_BadPaper) (.type "KeyError") = some false)
    (sb_BadPaper_LookupError : PySem.W.subIn K (.ref C_BadPaper) (.type "LookupError") = some false)
    (sb_BadPaper_OverflowError : PySem.W.subIn K (.ref C_BadPaper) (.type "OverflowError") = some false)
    (sb_BadPaper_RuntimeError : PySem.W.subIn K (.ref C_BadPaper) (.type "RuntimeError") = some false)
    (sb_BadPaper_ValueError : PySem.W.subIn K (.ref C_BadPaper) (.type "ValueError") = some true)
    (sb_BadText_IndexError : PySem.W.subIn K (.ref C_BadText) (.type "IndexError") = some false)
    (sb_BadText_KeyError : PySem.W.subIn K (.ref C_BadText) (.type "KeyError") = some false)
    (sb_BadText_LookupError : PySem.W.subIn K (.ref C_BadText) (.type "LookupError") = some false)
    (sb_BadText_OverflowError : PySem.W.subIn K (.ref C_BadText) (.type "OverflowError") = some false)
    (sb_BadText_RuntimeError : PySem.W.subIn K (.ref C_BadText) (.type "RuntimeError") = some false)
    (sb_BadText_ValueError : PySem.W.subIn K (.ref C_BadText) (.type "ValueError") = some true)
    (sb_BadWish_IndexError : PySem.W.subIn K (.ref C_BadWish) (.type "IndexError") = some false)
    (sb_BadWish_KeyError : PySem.W.subIn K (.ref C_BadWish) (.type "KeyError") = some false)
    (sb_BadWish_LookupError : PySem.W.subIn K (.ref C_BadWish) (.type "LookupError") = some false)
    (sb_BadWish_OverflowError : PySem.W.subIn K (.ref C_BadWish) (.type "OverflowError") = some false)
    (sb_BadWish_RuntimeError : PySem.W.subIn K (.ref C_BadWish) (.type "RuntimeError") = some false)
    (sb_BadWish_ValueError : PySem.W.subIn K (.ref C_BadWish) (.type "ValueError") = some true)
    (sb_Nothing_IndexError : PySem.W.subIn K (.ref C_Nothing) (.type "IndexError") = some false)
    (sb_Nothing_KeyError : PySem.W.subIn K (.ref C_Nothing) (.type "KeyError") = some false)
    (sb_Nothing_LookupError : PySem.W.subIn K (.ref C_Nothing) (.type "LookupError") = some true)
    (sb_Nothing_OverflowError : PySem.W.subIn K (.ref C_Nothing) (.type "OverflowError") = some false)
    (sb_Nothing_RuntimeError : PySem.W.subIn K (.ref C_Nothing) (.type "RuntimeError") = some false)
    (sb_Nothing_ValueError : PySem.W.subIn K (.ref C_Nothing) (.type "ValueError") = some false)
    (sb_OutOfPlace_IndexError : PySem.W.subIn K (.ref C_OutOfPlace) (.type "IndexError") = some false)
    (sb_OutOfPlace_KeyError : PySem.W.subIn K (.ref C_OutOfPlace) (.type "KeyError") = some false)
    (sb_OutOfPlace_LookupError : PySem.W.subIn K (.ref C_OutOfPlace) (.type "LookupError") = some false)
    (sb_OutOfPlace_OverflowError : PySem.W.subIn K (.ref C_OutOfPlace) (.type "OverflowError") = some false)
    (sb_OutOfPlace_RuntimeError : PySem.W.subIn K (.ref C_OutOfPlace) (.type "RuntimeError") = some false)
    (sb_OutOfPlace_ValueError : PySem.W.subIn K (.ref C_OutOfPlace) (.type "ValueError") = some true)
    (sb_TooMany_IndexError : PySem.W.subIn K (.ref C_TooMany) (.type "IndexError") = some false)
    (sb_TooMany_KeyError : PySem.W.subIn K (.ref C_TooMany) (.type "KeyError") = some false)
    (sb_TooMany_LookupError : PySem.W.subIn K (.ref C_TooMany) (.type "LookupError") = some false)
    (sb_TooMany_OverflowError : PySem.W.subIn K (.ref C_TooMany) (.type "OverflowError") = some true)
    (sb_TooMany_RuntimeError : PySem.W.subIn K (.ref C_TooMany) (.type "RuntimeError") = some false)
    (sb_TooMany_ValueError : PySem.W.subIn K (.ref C_TooMany) (.type "ValueError") = some false)
    (z_IndexError : PySem.W.nsIn K mainGlobals "IndexError" = some none)
    (z_KeyError : PySem.W.nsIn K mainGlobals "KeyError" = some none)
    (z_LookupError : PySem.W.nsIn K mainGlobals "LookupError" = some none)
    (z_OverflowError : PySem.W.nsIn K mainGlobals "OverflowError" = some none)
    (z_RuntimeError : PySem.W.nsIn K mainGlobals "RuntimeError" = some none)
    (z_ValueError : PySem.W.nsIn K mainGlobals "ValueError" = some none)
    (z_int : PySem.W.nsIn K mainGlobals "int" = some none)
    (z_isinstance : PySem.W.nsIn K mainGlobals "isinstance" = some none)
    (z_len : PySem.W.nsIn K mainGlobals "len" = some none)
    (z_list : PySem.W.nsIn K mainGlobals "list" = some none)
    (z_min : PySem.W.nsIn K mainGlobals "min" = some none)
    (z_range : PySem.W.nsIn K mainGlobals "range" = some none)
    (z_repr : PySem.W.nsIn K mainGlobals "repr" = some none)
    : ∃ fd : FuncData, (∀ (s : Shared) (v : Value), BindsTo s fd ⟨[v], []⟩ [("script", v)]) ∧ ∀ base : Heap, K.In base → base.Ns mainGlobals mg → FnG l.prog w K mg base (L2.CX l.prog w) 5 fa fd ["script"] (spD ⟨K, w, l.prog⟩ M 1 W_law) := by
  have e := hfa.symm.trans (PySem.W.mg_of X G a_law)
  cases e
  have T : Txt mg := ⟨PySem.W.mg_none_of X G z_IndexError, PySem.W.mg_none_of X G z_KeyError, PySem.W.mg_none_of X G z_LookupError, PySem.W.mg_none_of X G z_OverflowError, PySem.W.mg_none_of X G z_RuntimeError, PySem.W.mg_none_of X G z_ValueError, PySem.W.mg_none_of X G z_int, PySem.W.mg_none_of X G z_isinstance, PySem.W.mg_none_of X G z_len, PySem.W.mg_none_of X G z_list, PySem.W.mg_none_of X G z_min, PySem.W.mg_none_of X G z_range, PySem.W.mg_none_of X G z_repr⟩
  have F_law_begun := fun_mk (st := s_law_begun) l_law_begun c_law_begun k_law_begun
  have b_law_begun := F_law_begun.binds (ps := ["script"]) fun _ _ _ _ _ _ us hl => match us, hl with | [_], _ => rfl
  have F_law_next := fun_mk (st := s_law_next) l_law_next c_law_next k_law_next
  have b_law_next := F_law_next.binds (ps := ["m", "total"]) fun _ _ _ _ _ _ us hl => match us, hl with | [_, _], _ => rfl
  have F_law_of := fun_mk (st := s_law_of) l_law_of c_law_of k_law_of
  have b_law_of := F_law_of.binds (ps := ["m", "some"]) fun _ _ _ _ _ _ us hl => match us, hl with | [_, _], _ => rfl
  have F_law_thing := fun_mk (st := s_law_thing) l_law_thing c_law_thing k_law_thing
  have b_law_thing := F_law_thing.binds (ps := ["m"]) fun _ _ _ _ _ _ us hl => match us, hl with | [_], _ => rfl
  have F_law_all := fun_mk (st := s_law_all) l_law_all c_law_all k_law_all
  have b_law_all := F_law_all.binds (ps := ["thing"]) fun _ _ _ _ _ _ us hl => match us, hl with | [_], _ => rfl
  have F_law_named := fun_mk (st := s_law_named) l_law_named c_law_named k_law_named
  have b_law_named := F_law_named.binds (ps := ["thing"]) fun _ _ _ _ _ _ us hl => match us, hl with | [_], _ => rfl
  have F_law_fields := fun_mk (st := s_law_fields) l_law_fields c_law_fields k_law_fields
  have b_law_fields := F_law_fields.binds (ps := ["some"]) fun _ _ _ _ _ _ us hl => match us, hl with | [_], _ => rfl
  have F_law_marks := fun_mk (st := s_law_marks) l_law_marks c_law_marks k_law_marks
  have b_law_marks := F_law_marks.binds (ps := ["error"]) fun _ _ _ _ _ _ us hl => match us, hl with | [_], _ => rfl
  have F_law_due := fun_mk (st := s_law_due) l_law_due c_law_due k_law_due
  have b_law_due := F_law_due.binds (ps := ["own"]) fun _ _ _ _ _ _ us hl => match us, hl with | [_], _ => rfl
  have F_law_raised := fun_mk (st := s_law_raised) l_law_raised c_law_raised k_law_raised
  have b_law_raised := F_law_raised.binds (ps := ["own", "thing"]) fun _ _ _ _ _ _ us hl => match us, hl with | [_, _], _ => rfl
  have F_law_caught := fun_mk (st := s_law_caught) l_law_caught c_law_caught k_law_caught
  have b_law_caught := F_law_caught.binds (ps := ["own", "thing"]) fun _ _ _ _ _ _ us hl => match us, hl with | [_, _], _ => rfl
  have F_law := fun_mk (st := s_law) l_law c_law k_law
  have b_law := F_law.binds (ps := ["script"]) fun _ _ _ _ _ _ us hl => match us, hl with | [_], _ => rfl
  have F_BadGuard_init := fun_mk (st := s_BadGuard_init) l_BadGuard_init c_BadGuard_init k_BadGuard_init
  have B_BadGuard := F_BadGuard_init.binds (ps := ["self", "part"]) fun _ _ _ _ _ _ us hl => match us, hl with | [_, _], _ => rfl
  have KI_BadGuard := PD.Fun.kwi (ps := ["self", "part"]) (kn := "part") F_BadGuard_init fun _ _ _ _ _ _ _ _ => rfl
  have O_BadGuard : OexC K C_BadGuard := ⟨⟨_, _, _, _, _, _, _, _, _, _, _, _, _, _, _, xl_BadGuard, rv_BadGuard⟩, sa_BadGuard, eC_BadGuard, tC_BadGuard, kC_BadGuard⟩
  have F_BadKind_init := fun_mk (st := s_BadKind_init) l_BadKind_init c_BadKind_init k_BadKind_init
  have B_BadKind := F_BadKind_init.binds (ps := ["self", "part"]) fun _ _ _ _ _ _ us hl => match us, hl with | [_, _], _ => rfl
  have KI_BadKind := PD.Fun.kwi (ps := ["self", "part"]) (kn := "part") F_BadKind_init fun _ _ _ _ _ _ _ _ => rfl
  have O_BadKind : OexC K C_BadKind := ⟨⟨_, _, _, _, _, _, _, _, _, _, _, _, _, _, _, xl_BadKind, rv_BadKind⟩, sa_BadKind, eC_BadKind, tC_BadKind, kC_BadKind⟩
  have F_BadPaper_init := fun_mk (st := s_BadPaper_init) l_BadPaper_init c_BadPaper_init k_BadPaper_init
  have B_BadPaper := F_BadPaper_init.binds (ps := ["self", "part"]) fun _ _ _ _ _ _ us hl => match us, hl with | [_, _], _ => rfl
  have KI_BadPaper := PD.Fun.kwi (ps := ["self", "part"]) (kn := "part") F_BadPaper_init fun _ _ _ _ _ _ _ _ => rfl
  have O_BadPaper : OexC K C_BadPaper := ⟨⟨_, _, _, _, _, _, _, _, _, _, _, _, _, _, _, xl_BadPaper, rv_BadPaper⟩, sa_BadPaper, eC_BadPaper, tC_BadPaper, kC_BadPaper⟩
  have F_BadText_init := fun_mk (st := s_BadText_init) l_BadText_init c_BadText_init k_BadText_init
  have B_BadText := F_BadText_init.binds (ps := ["self", "line"]) fun _ _ _ _ _ _ us hl => match us, hl with | [_, _], _ => rfl
  have KI_BadText := PD.Fun.kwi (ps := ["self", "line"]) (kn := "line") F_BadText_init fun _ _ _ _ _ _ _ _ => rfl
  have O_BadText : OexC K C_BadText := ⟨⟨_, _, _, _, _, _, _, _, _, _, _, _, _, _, _, xl_BadText, rv_BadText⟩, sa_BadText, eC_BadText, tC_BadText, kC_BadText⟩
  have F_BadWish_init := fun_mk (st := s_BadWish_init) l_BadWish_init c_BadWish_init k_BadWish_init
  have B_BadWish := F_BadWish_init.binds (ps := ["self", "part"]) fun _ _ _ _ _ _ us hl => match us, hl with | [_, _], _ => rfl
  have KI_BadWish := PD.Fun.kwi (ps := ["self", "part"]) (kn := "part") F_BadWish_init fun _ _ _ _ _ _ _ _ => rfl
  have O_BadWish : OexC K C_BadWish := ⟨⟨_, _, _, _, _, _, _, _, _, _, _, _, _, _, _, xl_BadWish, rv_BadWish⟩, sa_BadWish, eC_BadWish, tC_BadWish, kC_BadWish⟩
  have F_Nothing_init := fun_mk (st := s_Nothing_init) l_Nothing_init c_Nothing_init k_Nothing_init
  have B_Nothing := F_Nothing_init.binds (ps := ["self", "text"]) fun _ _ _ _ _ _ us hl => match us, hl with | [_, _], _ => rfl
  have KI_Nothing := PD.Fun.kwi (ps := ["self", "text"]) (kn := "text") F_Nothing_init fun _ _ _ _ _ _ _ _ => rfl
  have O_Nothing : OexB bsLookupError K C_Nothing := ⟨⟨_, _, _, _, _, _, _, _, _, _, _, _, _, _, xl_Nothing⟩, sa_Nothing, eC_Nothing, tC_Nothing, kC_Nothing⟩
  have F_OutOfPlace_init := fun_mk (st := s_OutOfPlace_init) l_OutOfPlace_init c_OutOfPlace_init k_OutOfPlace_init
  have B_OutOfPlace := F_OutOfPlace_init.binds (ps := ["self", "text"]) fun _ _ _ _ _ _ us hl => match us, hl with | [_, _], _ => rfl
  have KI_OutOfPlace := PD.Fun.kwi (ps := ["self", "text"]) (kn := "text") F_OutOfPlace_init fun _ _ _ _ _ _ _ _ => rfl
  have O_OutOfPlace : OexC K C_OutOfPlace := ⟨⟨_, _, _, _, _, _, _, _, _, _, _, _, _, _, _, xl_OutOfPlace, rv_OutOfPlace⟩, sa_OutOfPlace, eC_OutOfPlace, tC_OutOfPlace, kC_OutOfPlace⟩
  have F_TooMany_init := fun_mk (st := s_TooMany_init) l_TooMany_init c_TooMany_init k_TooMany_init
  have B_TooMany := F_TooMany_init.binds (ps := ["self", "most"]) fun _ _ _ _ _ _ us hl => match us, hl with | [_, _], _ => rfl
  have KI_TooMany := PD.Fun.kwi (ps := ["self", "most"]) (kn := "most") F_TooMany_init fun _ _ _ _ _ _ _ _ => rfl
  have O_TooMany : OexB bsOverflowError K C_TooMany := ⟨⟨_, _, _, _, _, _, _, _, _, _, _, _, _, _, xl_TooMany⟩, sa_TooMany, eC_TooMany, tC_TooMany, kC_TooMany⟩
  refine ⟨PySem.W.fnOf "law" "law" (defArgs s_law) (defBody s_law) (defScope s_law) .none kV_law dc_law pm_law an_law cd_law ct_law, fun s v => .of_eq rfl, fun base _ _ => ?_⟩
  have te_BadGuard := exm_of eC_BadGuard iC_BadGuard tC_BadGuard sC_BadGuard
  have te_BadKind := exm_of eC_BadKind iC_BadKind tC_BadKind sC_BadKind
  have te_BadPaper := exm_of eC_BadPaper iC_BadPaper tC_BadPaper sC_BadPaper
  have te_BadText := exm_of eC_BadText iC_BadText tC_BadText sC_BadText
  have te_BadWish := exm_of eC_BadWish iC_BadWish tC_BadWish sC_BadWish
  have te_Nothing := exm_of eC_Nothing iC_Nothing tC_Nothing sC_Nothing
  have te_OutOfPlace := exm_of eC_OutOfPlace iC_OutOfPlace tC_OutOfPlace sC_OutOfPlace
  have te_TooMany := exm_of eC_TooMany iC_TooMany tC_TooMany sC_TooMany
  have te_BadGuard_BadKind := exm_of eC_BadKind iC_BadKind tC_BadKind sC_BadGuard_BadKind
  have te_BadGuard_BadPaper := exm_of eC_BadPaper iC_BadPaper tC_BadPaper sC_BadGuard_BadPaper
  have te_BadGuard_BadText := exm_of eC_BadText iC_BadText tC_BadText sC_BadGuard_BadText
  have te_BadGuard_BadWish := exm_of eC_BadWish iC_BadWish tC_BadWish sC_BadGuard_BadWish
  have te_BadGuard_Nothing := exm_of eC_Nothing iC_Nothing tC_Nothing sC_BadGuard_Nothing
  have te_BadGuard_OutOfPlace := exm_of eC_OutOfPlace iC_OutOfPlace tC_OutOfPlace sC_BadGuard_OutOfPlace
  have te_BadGuard_TooMany := exm_of eC_TooMany iC_TooMany tC_TooMany sC_BadGuard_TooMany
  have te_BadKind_BadGuard := exm_of eC_BadGuard iC_BadGuard tC_BadGuard sC_BadKind_BadGuard
  have te_BadKind_BadPaper := exm_of eC_BadPaper iC_BadPaper tC_BadPaper sC_BadKind_BadPaper
  have te_BadKind_BadText := exm_of eC_BadText iC_BadText tC_BadText sC_BadKind_BadText
  have te_BadKind_BadWish := exm_of eC_BadWish iC_BadWish tC_BadWish sC_BadKind_BadWish
  have te_BadKind_Nothing := exm_of eC_Nothing iC_Nothing tC_Nothing sC_BadKind_Nothing
  have te_BadKind_OutOfPlace := exm_of eC_OutOfPlace iC_OutOfPlace tC_OutOfPlace sC_BadKind_OutOfPlace
  have te_BadKind_TooMany := exm_of eC_TooMany iC_TooMany tC_TooMany sC_BadKind_TooMany
  have te_BadPaper_BadGuard := exm_of eC_BadGuard iC_BadGuard tC_BadGuard sC_BadPaper_BadGuard
  have te_BadPaper_BadKind := exm_of eC_BadKind iC_BadKind tC_BadKind sC_BadPaper_BadKind
  have te_BadPaper_BadText := exm_of eC_BadText iC_BadText tC_BadText sC_BadPaper_BadText
  have te_BadPaper_BadWish := exm_of eC_BadWish iC_BadWish tC_BadWish sC_BadPaper_BadWish
  have te_BadPaper_Nothing := exm_of eC_Nothing iC_Nothing tC_Nothing sC_BadPaper_Nothing
  have te_BadPaper_OutOfPlace := exm_of eC_OutOfPlace iC_OutOfPlace tC_OutOfPlace sC_BadPaper_OutOfPlace
  have te_BadPaper_TooMany := exm_of eC_TooMany iC_TooMany tC_TooMany sC_BadPaper_TooMany
  have te_BadText_BadGuard := exm_of eC_BadGuard iC_BadGuard tC_BadGuard sC_BadText_BadGuard
  have te_BadText_BadKind := exm_of eC_BadKind iC_BadKind tC_BadKind sC_BadText_BadKind
  have te_BadText_BadPaper := exm_of eC_BadPaper iC_BadPaper tC_BadPaper sC_BadText_BadPaper
  have te_BadText_BadWish := exm_of eC_BadWish iC_BadWish tC_BadWish sC_BadText_BadWish
  have te_BadText_Nothing := exm_of eC_Nothing iC_Nothing tC_Nothing sC_BadText_Nothing
  have te_BadText_OutOfPlace := exm_of eC_OutOfPlace iC_OutOfPlace tC_OutOfPlace sC_BadText_OutOfPlace
  have te_BadText_TooMany := exm_of eC_TooMany iC_TooMany tC_TooMany sC_BadText_TooMany
  have te_BadWish_BadGuard := exm_of eC_BadGuard iC_BadGuard tC_BadGuard sC_BadWish_BadGuard
  have te_BadWish_BadKind := exm_of eC_BadKind iC_BadKind tC_BadKind sC_BadWish_BadKind
  have te_BadWish_BadPaper := exm_of eC_BadPaper iC_BadPaper tC_BadPaper sC_BadWish_BadPaper
  have te_BadWish_BadText := exm_of eC_BadText iC_BadText tC_BadText sC_BadWish_BadText
  have te_BadWish_Nothing := exm_of eC_Nothing iC_Nothing tC_Nothing sC_BadWish_Nothing
  have te_BadWish_OutOfPlace := exm_of eC_OutOfPlace iC_OutOfPlace tC_OutOfPlace sC_BadWish_OutOfPlace
  have te_BadWish_TooMany := exm_of eC_TooMany iC_TooMany tC_TooMany sC_BadWish_TooMany
  have te_Nothing_BadGuard := exm_of eC_BadGuard iC_BadGuard tC_BadGuard sC_Nothing_BadGuard
  have te_Nothing_BadKind := exm_of eC_BadKind iC_BadKind tC_BadKind sC_Nothing_BadKind
  have te_Nothing_BadPaper := exm_of eC_BadPaper iC_BadPaper tC_BadPaper sC_Nothing_BadPaper
  have te_Nothing_BadText := exm_of eC_BadText iC_BadText tC_BadText sC_Nothing_BadText
  have te_Nothing_BadWish := exm_of eC_BadWish iC_BadWish tC_BadWish sC_Nothing_BadWish
  have te_Nothing_OutOfPlace := exm_of eC_OutOfPlace iC_OutOfPlace tC_OutOfPlace sC_Nothing_OutOfPlace
  have te_Nothing_TooMany := exm_of eC_TooMany iC_TooMany tC_TooMany sC_Nothing_TooMany
  have te_OutOfPlace_BadGuard := exm_of eC_BadGuard iC_BadGuard tC_BadGuard sC_OutOfPlace_BadGuard
  have te_OutOfPlace_BadKind := exm_of eC_BadKind iC_BadKind tC_BadKind sC_OutOfPlace_BadKind
  have te_OutOfPlace_BadPaper := exm_of eC_BadPaper iC_BadPaper tC_BadPaper sC_OutOfPlace_BadPaper
  have te_OutOfPlace_BadText := exm_of eC_BadText iC_BadText tC_BadText sC_OutOfPlace_BadText
  have te_OutOfPlace_BadWish := exm_of eC_BadWish iC_BadWish tC_BadWish sC_OutOfPlace_BadWish
  have te_OutOfPlace_Nothing := exm_of eC_Nothing iC_Nothing tC_Nothing sC_OutOfPlace_Nothing
  have te_OutOfPlace_TooMany := exm_of eC_TooMany iC_TooMany tC_TooMany sC_OutOfPlace_TooMany
  have te_TooMany_BadGuard := exm_of eC_BadGuard iC_BadGuard tC_BadGuard sC_TooMany_BadGuard
  have te_TooMany_BadKind := exm_of eC_BadKind iC_BadKind tC_BadKind sC_TooMany_BadKind
  have te_TooMany_BadPaper := exm_of eC_BadPaper iC_BadPaper tC_BadPaper sC_TooMany_BadPaper
  have te_TooMany_BadText := exm_of eC_BadText iC_BadText tC_BadText sC_TooMany_BadText
  have te_TooMany_BadWish := exm_of eC_BadWish iC_BadWish tC_BadWish sC_TooMany_BadWish
  have te_TooMany_Nothing := exm_of eC_Nothing iC_Nothing tC_Nothing sC_TooMany_Nothing
  have te_TooMany_OutOfPlace := exm_of eC_OutOfPlace iC_OutOfPlace tC_OutOfPlace sC_TooMany_OutOfPlace
  have N_BadGuard := fnx_BadGuard (P := l.prog) (w := w) (base := base) F_BadGuard_init T O_BadGuard nx_BadGuard vV_ValueError
  have N_BadKind := fnx_BadKind (P := l.prog) (w := w) (base := base) F_BadKind_init T O_BadKind nx_BadKind vV_ValueError
  have N_BadPaper := fnx_BadPaper (P := l.prog) (w := w) (base := base) F_BadPaper_init T O_BadPaper nx_BadPaper vV_ValueError
  have N_BadText := fnx_BadText (P := l.prog) (w := w) (base := base) F_BadText_init T O_BadText nx_BadText vV_ValueError
  have N_BadWish := fnx_BadWish (P := l.prog) (w := w) (base := base) F_BadWish_init T O_BadWish nx_BadWish vV_ValueError
  have N_Nothing := fnx_Nothing (P := l.prog) (w := w) (base := base) F_Nothing_init T O_Nothing vV_LookupError
  have N_OutOfPlace := fnx_OutOfPlace (P := l.prog) (w := w) (base := base) F_OutOfPlace_init T O_OutOfPlace vV_ValueError
  have N_TooMany := fnx_TooMany (P := l.prog) (w := w) (base := base) F_TooMany_init T O_TooMany nx_TooMany vV_OverflowError
  have xe_BadGuard : ExcC K C_BadGuard ∧ XfC K C_BadGuard := ⟨⟨xg_BadGuard, xh_BadGuard, eC_BadGuard, xd_BadGuard, xk_BadGuard, xn_0, xt_0, xm_BadGuard⟩, ⟨xg_BadGuard, xh_BadGuard, eC_BadGuard, xd_BadGuard⟩⟩
  have xe_BadKind : ExcC K C_BadKind ∧ XfC K C_BadKind := ⟨⟨xg_BadKind, xh_BadKind, eC_BadKind, xd_BadKind, xk_BadKind, xn_0, xt_0, xm_BadKind⟩, ⟨xg_BadKind, xh_BadKind, eC_BadKind, xd_BadKind⟩⟩
  have xe_BadPaper : ExcC K C_BadPaper ∧ XfC K C_BadPaper := ⟨⟨xg_BadPaper, xh_BadPaper, eC_BadPaper, xd_BadPaper, xk_BadPaper, xn_0, xt_0, xm_BadPaper⟩, ⟨xg_BadPaper, xh_BadPaper, eC_BadPaper, xd_BadPaper⟩⟩
  have xe_BadText : ExcC K C_BadText ∧ XfC K C_BadText := ⟨⟨xg_BadText, xh_BadText, eC_BadText, xd_BadText, xk_BadText, xn_0, xt_0, xm_BadText⟩, ⟨xg_BadText, xh_BadText, eC_BadText, xd_BadText⟩⟩
  have xe_BadWish : ExcC K C_BadWish ∧ XfC K C_BadWish := ⟨⟨xg_BadWish, xh_BadWish, eC_BadWish, xd_BadWish, xk_BadWish, xn_0, xt_0, xm_BadWish⟩, ⟨xg_BadWish, xh_BadWish, eC_BadWish, xd_BadWish⟩⟩
  have xe_Nothing : ExcC K C_Nothing ∧ XfC K C_Nothing := ⟨⟨xg_Nothing, xh_Nothing, eC_Nothing, xd_Nothing, xk_Nothing, xn_0, xt_0, xm_Nothing⟩, ⟨xg_Nothing, xh_Nothing, eC_Nothing, xd_Nothing⟩⟩
  have xe_OutOfPlace : ExcC K C_OutOfPlace ∧ XfC K C_OutOfPlace := ⟨⟨xg_OutOfPlace, xh_OutOfPlace, eC_OutOfPlace, xd_OutOfPlace, xk_OutOfPlace, xn_0, xt_0, xm_OutOfPlace⟩, ⟨xg_OutOfPlace, xh_OutOfPlace, eC_OutOfPlace, xd_OutOfPlace⟩⟩
  have xe_TooMany : ExcC K C_TooMany ∧ XfC K C_TooMany := ⟨⟨xg_TooMany, xh_TooMany, eC_TooMany, xd_TooMany, xk_TooMany, xn_0, xt_0, xm_TooMany⟩, ⟨xg_TooMany, xh_TooMany, eC_TooMany, xd_TooMany⟩⟩
  have eRF := erF_of te_BadGuard te_BadKind te_BadPaper te_BadText te_BadWish te_Nothing te_OutOfPlace te_TooMany te_BadGuard_BadKind te_BadGuard_BadPaper te_BadGuard_BadText te_BadGuard_BadWish te_BadGuard_Nothing te_BadGuard_OutOfPlace te_BadGuard_TooMany te_BadKind_BadGuard te_BadKind_BadPaper te_BadKind_BadText te_BadKind_BadWish te_BadKind_Nothing te_BadKind_OutOfPlace te_BadKind_TooMany te_BadPaper_BadGuard te_BadPaper_BadKind te_BadPaper_BadText te_BadPaper_BadWish te_BadPaper_Nothing te_BadPaper_OutOfPlace te_BadPaper_TooMany te_BadText_BadGuard te_BadText_BadKind te_BadText_BadPaper te_BadText_BadWish te_BadText_Nothing te_BadText_OutOfPlace te_BadText_TooMany te_BadWish_BadGuard te_BadWish_BadKind te_BadWish_BadPaper te_BadWish_BadText te_BadWish_Nothing te_BadWish_OutOfPlace te_BadWish_TooMany te_Nothing_BadGuard te_Nothing_BadKind te_Nothing_BadPaper te_Nothing_BadText te_Nothing_BadWish te_Nothing_OutOfPlace te_Nothing_TooMany te_OutOfPlace_BadGuard te_OutOfPlace_BadKind te_OutOfPlace_BadPaper te_OutOfPlace_BadText te_OutOfPlace_BadWish te_OutOfPlace_Nothing te_OutOfPlace_TooMany te_TooMany_BadGuard te_TooMany_BadKind te_TooMany_BadPaper te_TooMany_BadText te_TooMany_BadWish te_TooMany_Nothing te_TooMany_OutOfPlace xe_BadGuard xe_BadKind xe_BadPaper xe_BadText xe_BadWish xe_Nothing xe_OutOfPlace xe_TooMany nx_BadGuard nx_BadKind nx_BadPaper nx_BadText nx_BadWish nx_TooMany sb_BadGuard_IndexError sb_BadGuard_KeyError sb_BadGuard_LookupError sb_BadGuard_OverflowError sb_BadGuard_RuntimeError sb_BadGuard_ValueError sb_BadKind_IndexError sb_BadKind_KeyError sb_BadKind_LookupError sb_BadKind_OverflowError sb_BadKind_RuntimeError sb_BadKind_ValueError sb_BadPaper_IndexError sb_BadPaper_KeyError sb_BadPaper_LookupError sb_BadPaper_OverflowError sb_BadPaper_RuntimeError sb_BadPaper_ValueError sb_BadText_IndexError sb_BadText_KeyError sb_BadText_LookupError sb_BadText_OverflowError sb_BadText_RuntimeError sb_BadText_ValueError sb_BadWish_IndexError sb_BadWish_KeyError sb_BadWish_LookupError sb_BadWish_OverflowError sb_BadWish_RuntimeError sb_BadWish_ValueError sb_Nothing_IndexError sb_Nothing_KeyError sb_Nothing_LookupError sb_Nothing_OverflowError sb_Nothing_RuntimeError sb_Nothing_ValueError sb_OutOfPlace_IndexError sb_OutOfPlace_KeyError sb_OutOfPlace_LookupError sb_OutOfPlace_OverflowError sb_OutOfPlace_RuntimeError sb_OutOfPlace_ValueError sb_TooMany_IndexError sb_TooMany_KeyError sb_TooMany_LookupError sb_TooMany_OverflowError sb_TooMany_RuntimeError sb_TooMany_ValueError
  have G_law_begun := ok_law_begun (P := l.prog) (w := w) (base := base) F_law_begun T
  have G_law_next := ok_law_next (P := l.prog) (w := w) (base := base) F_law_next T
  have G_law_fields : FnG l.prog w K mg base (L2.CX l.prog w) 1 f_law_fields _ ["some"] (spD ⟨K, w, l.prog⟩ M 1 (W_law_fields C_BadGuard C_BadKind C_BadPaper C_BadText C_BadWish C_Nothing C_OutOfPlace C_TooMany)) := (raw_law_fields (P := l.prog) (w := w) (base := base) (F := F_law_fields) (T := T) (m_BadGuard := PySem.W.mg_of X G a_BadGuard) (m_BadKind := PySem.W.mg_of X G a_BadKind) (m_BadPaper := PySem.W.mg_of X G a_BadPaper) (m_BadText := PySem.W.mg_of X G a_BadText) (m_BadWish := PySem.W.mg_of X G a_BadWish) (m_Nothing := PySem.W.mg_of X G a_Nothing) (m_OutOfPlace := PySem.W.mg_of X G a_OutOfPlace) (m_TooMany := PySem.W.mg_of X G a_TooMany)).imp (spD_imp (by first | exact ok_law_fields eRF | exact ok_law_fields | exact ok_law_fields _))
  have G_law_marks : FnQ l.prog w K mg base (L2.CX l.prog w) 1 f_law_marks _ ["error"] (spD ⟨K, w, l.prog⟩ M 1 (W_law_marks C_BadGuard C_BadKind C_BadPaper C_BadText C_BadWish C_Nothing C_OutOfPlace C_TooMany)) := (raw_law_marks (P := l.prog) (w := w) (base := base) (F := F_law_marks) (T := T) (m_BadGuard := PySem.W.mg_of X G a_BadGuard) (m_BadKind := PySem.W.mg_of X G a_BadKind) (m_BadPaper := PySem.W.mg_of X G a_BadPaper) (m_BadText := PySem.W.mg_of X G a_BadText) (m_BadWish := PySem.W.mg_of X G a_BadWish) (m_Nothing := PySem.W.mg_of X G a_Nothing) (m_OutOfPlace := PySem.W.mg_of X G a_OutOfPlace) (m_TooMany := PySem.W.mg_of X G a_TooMany)).imp (spD_imp (by first | exact ok_law_marks eRF | exact ok_law_marks | exact ok_law_marks _))
  have G_law_due : FnG l.prog w K mg base (L2.CX l.prog w) 1 f_law_due _ ["own"] (spD ⟨K, w, l.prog⟩ M 1 W_law_due) := (raw_law_due (P := l.prog) (w := w) (base := base) (F := F_law_due) (T := T) ).imp (spD_imp (by first | exact ok_law_due eRF | exact ok_law_due | exact ok_law_due _))
  have G_law_of : FnG l.prog w K mg base (L2.CX l.prog w) 2 f_law_of _ ["m", "some"] (spD ⟨K, w, l.prog⟩ M 2 W_law_of) := (raw_law_of (P := l.prog) (w := w) (base := base) (F := F_law_of) (T := T) (g_law_next := PySem.W.mg_of X G a_law_next) (G_law_next := G_law_next) (b_law_next := b_law_next) (k_law_next := k_law_next)).imp (spD_imp (by first | exact ok_law_of eRF | exact ok_law_of | exact ok_law_of _))
  have G_law_thing : FnG l.prog w K mg base (L2.CX l.prog w) 3 f_law_thing _ ["m"] (spD ⟨K, w, l.prog⟩ M 1 W_law_thing) := (raw_law_thing (P := l.prog) (w := w) (base := base) (F := F_law_thing) (T := T) (g_law_next := PySem.W.mg_of X G a_law_next) (g_law_of := PySem.W.mg_of X G a_law_of) (G_law_next := G_law_next) (b_law_next := b_law_next) (k_law_next := k_law_next) (G_law_of := G_law_of) (b_law_of := b_law_of) (k_law_of := k_law_of)).imp (spD_imp (by first | exact ok_law_thing eRF | exact ok_law_thing | exact ok_law_thing _))
  have G_law_all : FnG l.prog w K mg base (L2.CX l.prog w) 3 f_law_all _ ["thing"] (spD ⟨K, w, l.prog⟩ M 1 (W_law_all C_BadGuard C_BadKind C_BadPaper C_BadText C_BadWish C_Nothing C_OutOfPlace C_TooMany)) := (raw_law_all (P := l.prog) (w := w) (base := base) (F := F_law_all) (T := T) (m_BadGuard := PySem.W.mg_of X G a_BadGuard) (m_BadKind := PySem.W.mg_of X G a_BadKind) (m_BadPaper := PySem.W.mg_of X G a_BadPaper) (m_BadText := PySem.W.mg_of X G a_BadText) (m_BadWish := PySem.W.mg_of X G a_BadWish) (m_Nothing := PySem.W.mg_of X G a_Nothing) (m_OutOfPlace := PySem.W.mg_of X G a_OutOfPlace) (m_TooMany := PySem.W.mg_of X G a_TooMany) (Z_BadGuard := ⟨O_BadGuard, a_BadGuard_init, tI_BadGuard⟩) (N_BadGuard := N_BadGuard) (B_BadGuard := B_BadGuard) (Z_BadKind := ⟨O_BadKind, a_BadKind_init, tI_BadKind⟩) (N_BadKind := N_BadKind) (B_BadKind := B_BadKind) (Z_BadPaper := ⟨O_BadPaper, a_BadPaper_init, tI_BadPaper⟩) (N_BadPaper := N_BadPaper) (B_BadPaper := B_BadPaper) (Z_BadText := ⟨O_BadText, a_BadText_init, tI_BadText⟩) (N_BadText := N_BadText) (B_BadText := B_BadText) (Z_BadWish := ⟨O_BadWish, a_BadWish_init, tI_BadWish⟩) (N_BadWish := N_BadWish) (B_BadWish := B_BadWish) (Z_Nothing := ⟨O_Nothing, a_Nothing_init, tI_Nothing⟩) (N_Nothing := N_Nothing) (B_Nothing := B_Nothing) (Z_OutOfPlace := ⟨O_OutOfPlace, a_OutOfPlace_init, tI_OutOfPlace⟩) (N_OutOfPlace := N_OutOfPlace) (B_OutOfPlace := B_OutOfPlace) (Z_TooMany := ⟨O_TooMany, a_TooMany_init, tI_TooMany⟩) (N_TooMany := N_TooMany) (B_TooMany := B_TooMany)).imp (spD_imp (by first | exact ok_law_all eRF | exact ok_law_all | exact ok_law_all _))
  have G_law_named : FnG l.prog w K mg base (L2.CX l.prog w) 3 f_law_named _ ["thing"] (spD ⟨K, w, l.prog⟩ M 1 (W_law_named C_BadGuard C_BadKind C_BadPaper C_BadText C_BadWish C_Nothing C_OutOfPlace C_TooMany)) := (raw_law_named (P := l.prog) (w := w) (base := base) (F := F_law_named) (T := T) (m_BadGuard := PySem.W.mg_of X G a_BadGuard) (m_BadKind := PySem.W.mg_of X G a_BadKind) (m_BadPaper := PySem.W.mg_of X G a_BadPaper) (m_BadText := PySem.W.mg_of X G a_BadText) (m_BadWish := PySem.W.mg_of X G a_BadWish) (m_Nothing := PySem.W.mg_of X G a_Nothing) (m_OutOfPlace := PySem.W.mg_of X G a_OutOfPlace) (m_TooMany := PySem.W.mg_of X G a_TooMany) (Z_BadGuard := ⟨O_BadGuard, a_BadGuard_init, tI_BadGuard⟩) (N_BadGuard := N_BadGuard) (B_BadGuard := B_BadGuard) (KI_BadGuard := KI_BadGuard) (Z_BadKind := ⟨O_BadKind, a_BadKind_init, tI_BadKind⟩) (N_BadKind := N_BadKind) (B_BadKind := B_BadKind) (KI_BadKind := KI_BadKind) (Z_BadPaper := ⟨O_BadPaper, a_BadPaper_init, tI_BadPaper⟩) (N_BadPaper := N_BadPaper) (B_BadPaper := B_BadPaper) (KI_BadPaper := KI_BadPaper) (Z_BadText := ⟨O_BadText, a_BadText_init, tI_BadText⟩) (N_BadText := N_BadText) (B_BadText := B_BadText) (KI_BadText := KI_BadText) (Z_BadWish := ⟨O_BadWish, a_BadWish_init, tI_BadWish⟩) (N_BadWish := N_BadWish) (B_BadWish := B_BadWish) (KI_BadWish := KI_BadWish) (Z_Nothing := ⟨O_Nothing, a_Nothing_init, tI_Nothing⟩) (N_Nothing := N_Nothing) (B_Nothing := B_Nothing) (KI_Nothing := KI_Nothing) (Z_OutOfPlace := ⟨O_OutOfPlace, a_OutOfPlace_init, tI_OutOfPlace⟩) (N_OutOfPlace := N_OutOfPlace) (B_OutOfPlace := B_OutOfPlace) (KI_OutOfPlace := KI_OutOfPlace) (Z_TooMany := ⟨O_TooMany, a_TooMany_init, tI_TooMany⟩) (N_TooMany := N_TooMany) (B_TooMany := B_TooMany) (KI_TooMany := KI_TooMany)).imp (spD_imp (by first | exact ok_law_named eRF | exact ok_law_named | exact ok_law_named _))
  have G_law_raised : FnG l.prog w K mg base (L2.CX l.prog w) 3 f_law_raised _ ["own", "thing"] (spX ⟨K, w, l.prog⟩ M 2 W_law_raised (U_law_raised C_BadGuard C_BadKind C_BadPaper C_BadText C_BadWish C_Nothing C_OutOfPlace C_TooMany)) := (raw_law_raised (P := l.prog) (w := w) (base := base) (F := F_law_raised) (T := T) (m_BadGuard := PySem.W.mg_of X G a_BadGuard) (m_BadKind := PySem.W.mg_of X G a_BadKind) (m_BadPaper := PySem.W.mg_of X G a_BadPaper) (m_BadText := PySem.W.mg_of X G a_BadText) (m_BadWish := PySem.W.mg_of X G a_BadWish) (m_Nothing := PySem.W.mg_of X G a_Nothing) (m_OutOfPlace := PySem.W.mg_of X G a_OutOfPlace) (m_TooMany := PySem.W.mg_of X G a_TooMany) (Z_BadGuard := ⟨O_BadGuard, a_BadGuard_init, tI_BadGuard⟩) (N_BadGuard := N_BadGuard) (B_BadGuard := B_BadGuard) (Z_BadKind := ⟨O_BadKind, a_BadKind_init, tI_BadKind⟩) (N_BadKind := N_BadKind) (B_BadKind := B_BadKind) (Z_BadPaper := ⟨O_BadPaper, a_BadPaper_init, tI_BadPaper⟩) (N_BadPaper := N_BadPaper) (B_BadPaper := B_BadPaper) (Z_BadText := ⟨O_BadText, a_BadText_init, tI_BadText⟩) (N_BadText := N_BadText) (B_BadText := B_BadText) (Z_BadWish := ⟨O_BadWish, a_BadWish_init, tI_BadWish⟩) (N_BadWish := N_BadWish) (B_BadWish := B_BadWish) (Z_Nothing := ⟨O_Nothing, a_Nothing_init, tI_Nothing⟩) (N_Nothing := N_Nothing) (B_Nothing := B_Nothing) (Z_OutOfPlace := ⟨O_OutOfPlace, a_OutOfPlace_init, tI_OutOfPlace⟩) (N_OutOfPlace := N_OutOfPlace) (B_OutOfPlace := B_OutOfPlace) (Z_TooMany := ⟨O_TooMany, a_TooMany_init, tI_TooMany⟩) (N_TooMany := N_TooMany) (B_TooMany := B_TooMany)).imp (spX_imp (by first | exact ok_law_raised eRF | exact ok_law_raised | exact ok_law_raised _) (by first | exact okx_law_raised C_BadGuard C_BadKind C_BadPaper C_BadText C_BadWish C_Nothing C_OutOfPlace C_TooMany | exact okx_law_raised C_BadGuard C_BadKind C_BadPaper C_BadText C_BadWish C_Nothing C_OutOfPlace C_TooMany _))
  have G_law_caught : FnG l.prog w K mg base (L2.CX l.prog w) 4 f_law_caught _ ["own", "thing"] (spD ⟨K, w, l.prog⟩ M 2 (W_law_caught C_BadGuard C_BadKind C_BadPaper C_BadText C_BadWish C_Nothing C_OutOfPlace C_TooMany)) := (raw_law_caught (P := l.prog) (w := w) (base := base) (F := F_law_caught) (T := T) (g_law_marks := PySem.W.mg_of X G a_law_marks) (g_law_raised := PySem.W.mg_of X G a_law_raised) (m_BadGuard := PySem.W.mg_of X G a_BadGuard) (m_BadKind := PySem.W.mg_of X G a_BadKind) (m_BadPaper := PySem.W.mg_of X G a_BadPaper) (m_BadText := PySem.W.mg_of X G a_BadText) (m_BadWish := PySem.W.mg_of X G a_BadWish) (m_Nothing := PySem.W.mg_of X G a_Nothing) (m_OutOfPlace := PySem.W.mg_of X G a_OutOfPlace) (m_TooMany := PySem.W.mg_of X G a_TooMany) (G_law_marks := G_law_marks) (b_law_marks := b_law_marks) (k_law_marks := k_law_marks) (G_law_raised := G_law_raised) (b_law_raised := b_law_raised) (k_law_raised := k_law_raised)).imp (spD_imp (by first | exact ok_law_caught eRF | exact ok_law_caught | exact ok_law_caught _))
  have G_law : FnG l.prog w K mg base (L2.CX l.prog w) 5 fa _ ["script"] (spD ⟨K, w, l.prog⟩ M 1 W_law) := (raw_law (P := l.prog) (w := w) (base := base) (F := F_law) (T := T) (g_law_begun := PySem.W.mg_of X G a_law_begun) (g_law_thing := PySem.W.mg_of X G a_law_thing) (g_law_all := PySem.W.mg_of X G a_law_all) (g_law_named := PySem.W.mg_of X G a_law_named) (g_law_fields := PySem.W.mg_of X G a_law_fields) (g_law_marks := PySem.W.mg_of X G a_law_marks) (g_law_due := PySem.W.mg_of X G a_law_due) (g_law_caught := PySem.W.mg_of X G a_law_caught) (G_law_begun := G_law_begun) (b_law_begun := b_law_begun) (k_law_begun := k_law_begun) (G_law_thing := G_law_thing) (b_law_thing := b_law_thing) (k_law_thing := k_law_thing) (G_law_all := G_law_all) (b_law_all := b_law_all) (k_law_all := k_law_all) (G_law_named := G_law_named) (b_law_named := b_law_named) (k_law_named := k_law_named) (G_law_fields := G_law_fields) (b_law_fields := b_law_fields) (k_law_fields := k_law_fields) (G_law_marks := G_law_marks) (b_law_marks := b_law_marks) (k_law_marks := k_law_marks) (G_law_due := G_law_due) (b_law_due := b_law_due) (k_law_due := k_law_due) (G_law_caught := G_law_caught) (b_law_caught := b_law_caught) (k_law_caught := k_law_caught)).imp (spD_imp (by first | exact ok_law eRF | exact ok_law | exact ok_law _))
  exact G_law
theorem law_head (K : PySem.W.Frag) (w : World) (P : Program) (H : Hp) (a : Addr) (ns : List Int) (hl : ns.length ≤ 63) (hS : SqL K H a (ns.map V.int)) : spD ⟨K, w, P⟩ M 1 W_law [.ref a] H (fun v _ => v = .bl true) fun _ _ _ => False :=
  head_of hS fun k q => ⟨ns, rfl, hl, q⟩
end
end K87
open PySem PySem.W PyProof.Rows
set_option maxRecDepth 100000 in
set_option maxHeartbeats 0 in
theorem PySem.Challenge.cw_guardkeeps_k87_errors_holds : PySem.Challenge.rw_guardkeeps_k87_errors.Holds := by
  w_on; o_law; k_head; (case hw => w_witness2)
  k_fill
  refine PD.walkG (l := PySem.Challenge.rw_guardkeeps_k87_errors) (n := 63) (k := 5) (x := "script") (sp := fun K w => PD.spD ⟨K, w, PySem.Challenge.rw_guardkeeps_k87_errors.prog⟩ K87.M 1 K87.W_law) rfl (by decide) rfl ⟨rfl, by decide, by decide⟩ (fun w h Y => PySem.W.kIn_of Y) ?F fun K w H a ns hl _ hS => K87.law_head K w _ H a ns hl hS
  case F =>
    intro w mg fa h KX G hmg
    refine' K87.all_mk KX G hmg ?a_BadGuard ?a_BadKind ?a_BadPaper ?a_BadText ?a_BadWish ?a_Nothing ?a_OutOfPlace ?a_TooMany ?eC_BadGuard ?tC_BadGuard ?iC_BadGuard ?sC_BadGuard ?sC_BadGuard_BadKind ?sC_BadGuard_BadPaper ?sC_BadGuard_BadText ?sC_BadGuard_BadWish ?sC_BadGuard_Nothing ?sC_BadGuard_OutOfPlace ?sC_BadGuard_TooMany ?eC_BadKind ?tC_BadKind ?iC_BadKind ?sC_BadKind ?sC_BadKind_BadGuard ?sC_BadKind_BadPaper ?sC_BadKind_BadText ?sC_BadKind_BadWish ?sC_BadKind_Nothing ?sC_BadKind_OutOfPlace ?sC_BadKind_TooMany ?eC_BadPaper ?tC_BadPaper ?iC_BadPaper ?sC_BadPaper ?sC_BadPaper_BadGuard ?sC_BadPaper_BadKind ?sC_BadPaper_BadText ?sC_BadPaper_BadWish ?sC_BadPaper_Nothing ?sC_BadPaper_OutOfPlace ?sC_BadPaper_TooMany ?eC_BadText ?tC_BadText ?iC_BadText ?sC_BadText ?sC_BadText_BadGuard ?sC_BadText_BadKind ?sC_BadText_BadPaper ?sC_BadText_BadWish ?sC_BadText_Nothing ?sC_BadText_OutOfPlace ?sC_BadText_TooMany ?eC_BadWish ?tC_BadWish ?iC_BadWish ?sC_BadWish ?sC_BadWish_BadGuard ?sC_BadWish_BadKind ?sC_BadWish_BadPaper ?sC_BadWish_BadText ?sC_BadWish_Nothing ?sC_BadWish_OutOfPlace ?sC_BadWish_TooMany ?eC_Nothing ?tC_Nothing ?iC_Nothing ?sC_Nothing ?sC_Nothing_BadGuard ?sC_Nothing_BadKind ?sC_Nothing_BadPaper ?sC_Nothing_BadText ?sC_Nothing_BadWish ?sC_Nothing_OutOfPlace ?sC_Nothing_TooMany ?eC_OutOfPlace ?tC_OutOfPlace ?iC_OutOfPlace ?sC_OutOfPlace ?sC_OutOfPlace_BadGuard ?sC_OutOfPlace_BadKind ?sC_OutOfPlace_BadPaper ?sC_OutOfPlace_BadText ?sC_OutOfPlace_BadWish ?sC_OutOfPlace_Nothing ?sC_OutOfPlace_TooMany ?eC_TooMany ?tC_TooMany ?iC_TooMany ?sC_TooMany ?sC_TooMany_BadGuard ?sC_TooMany_BadKind ?sC_TooMany_BadPaper ?sC_TooMany_BadText ?sC_TooMany_BadWish ?sC_TooMany_Nothing ?sC_TooMany_OutOfPlace ?xl_BadGuard ?rv_BadGuard ?sa_BadGuard ?kC_BadGuard ?a_BadGuard_init ?tI_BadGuard ?l_BadGuard_init ?c_BadGuard_init ?k_BadGuard_init ?nx_BadGuard ?xl_BadKind ?rv_BadKind ?sa_BadKind ?kC_BadKind ?a_BadKind_init ?tI_BadKind ?l_BadKind_init ?c_BadKind_init ?k_BadKind_init ?nx_BadKind ?xl_BadPaper ?rv_BadPaper ?sa_BadPaper ?kC_BadPaper ?a_BadPaper_init ?tI_BadPaper ?l_BadPaper_init ?c_BadPaper_init ?k_BadPaper_init ?nx_BadPaper ?xl_BadText ?rv_BadText ?sa_BadText ?kC_BadText ?a_BadText_init ?tI_BadText ?l_BadText_init ?c_BadText_init ?k_BadText_init ?nx_BadText ?xl_BadWish ?rv_BadWish ?sa_BadWish ?kC_BadWish ?a_BadWish_init ?tI_BadWish ?l_BadWish_init ?c_BadWish_init ?k_BadWish_init ?nx_BadWish ?xl_Nothing ?sa_Nothing ?kC_Nothing ?a_Nothing_init ?tI_Nothing ?l_Nothing_init ?c_Nothing_init ?k_Nothing_init ?xl_OutOfPlace ?rv_OutOfPlace ?sa_OutOfPlace ?kC_OutOfPlace ?a_OutOfPlace_init ?tI_OutOfPlace ?l_OutOfPlace_init ?c_OutOfPlace_init ?k_OutOfPlace_init ?xl_TooMany ?sa_TooMany ?kC_TooMany ?a_TooMany_init ?tI_TooMany ?l_TooMany_init ?c_TooMany_init ?k_TooMany_init ?nx_TooMany ?vV_LookupError ?vV_OverflowError ?vV_ValueError ?a_law_begun ?l_law_begun ?c_law_begun ?k_law_begun ?a_law_next ?l_law_next ?c_law_next ?k_law_next ?a_law_of ?l_law_of ?c_law_of ?k_law_of ?a_law_thing ?l_law_thing ?c_law_thing ?k_law_thing ?a_law_all ?l_law_all ?c_law_all ?k_law_all ?a_law_named ?l_law_named ?c_law_named ?k_law_named ?a_law_fields ?l_law_fields ?c_law_fields ?k_law_fields ?a_law_marks ?l_law_marks ?c_law_marks ?k_law_marks ?a_law_due ?l_law_due ?c_law_due ?k_law_due ?a_law_raised ?l_law_raised ?c_law_raised ?k_law_raised ?a_law_caught ?l_law_caught ?c_law_caught ?k_law_caught ?a_law ?l_law ?c_law ?k_law ?xg_BadGuard ?xh_BadGuard ?xd_BadGuard ?xk_BadGuard ?xm_BadGuard ?xg_BadKind ?xh_BadKind ?xd_BadKind ?xk_BadKind ?xm_BadKind ?xg_BadPaper ?xh_BadPaper ?xd_BadPaper ?xk_BadPaper ?xm_BadPaper ?xg_BadText ?xh_BadText ?xd_BadText ?xk_BadText ?xm_BadText ?xg_BadWish ?xh_BadWish ?xd_BadWish ?xk_BadWish ?xm_BadWish ?xg_Nothing ?xh_Nothing ?xd_Nothing ?xk_Nothing ?xm_Nothing ?xg_OutOfPlace ?xh_OutOfPlace ?xd_OutOfPlace ?xk_OutOfPlace ?xm_OutOfPlace ?xg_TooMany ?xh_TooMany ?xd_TooMany ?xk_TooMany ?xm_TooMany ?xn_0 ?xt_0 ?sb_BadGuard_IndexError ?sb_BadGuard_KeyError ?sb_BadGuard_LookupError ?sb_BadGuard_OverflowError ?sb_BadGuard_RuntimeError ?sb_BadGuard_ValueError ?sb_BadKind_IndexError ?sb_BadKind_KeyError ?sb_BadKind_LookupError ?sb_BadKind_OverflowError ?sb_BadKind_RuntimeError ?sb_BadKind_ValueError ?sb_BadPaper_IndexError ?sb_BadPaper_KeyError ?sb_BadPaper_LookupError ?sb_BadPaper_OverflowError ?sb_BadPaper_RuntimeError ?sb_BadPaper_ValueError ?sb_BadText_IndexError ?sb_BadText_KeyError ?sb_BadText_LookupError ?sb_BadText_OverflowError ?sb_BadText_RuntimeError ?sb_BadText_ValueError ?sb_BadWish_IndexError ?sb_BadWish_KeyError ?sb_BadWish_LookupError ?sb_BadWish_OverflowError ?sb_BadWish_RuntimeError ?sb_BadWish_ValueError ?sb_Nothing_IndexError ?sb_Nothing_KeyError ?sb_Nothing_LookupError ?sb_Nothing_OverflowError ?sb_Nothing_RuntimeError ?sb_Nothing_ValueError ?sb_OutOfPlace_IndexError ?sb_OutOfPlace_KeyError ?sb_OutOfPlace_LookupError ?sb_OutOfPlace_OverflowError ?sb_OutOfPlace_RuntimeError ?sb_OutOfPlace_ValueError ?sb_TooMany_IndexError ?sb_TooMany_KeyError ?sb_TooMany_LookupError ?sb_TooMany_OverflowError ?sb_TooMany_RuntimeError ?sb_TooMany_ValueError ?z_IndexError ?z_KeyError ?z_LookupError ?z_OverflowError ?z_RuntimeError ?z_ValueError ?z_int ?z_isinstance ?z_len ?z_list ?z_min ?z_range ?z_repr
    (case a_BadGuard => k_is)
    (case a_BadKind => k_is)
    (case a_BadPaper => k_is)
    (case a_BadText => k_is)
    (case a_BadWish => k_is)
    (case a_Nothing => k_is)
    (case a_OutOfPlace => k_is)
    (case a_TooMany => k_is)
    (case eC_BadGuard => k_is)
    (case tC_BadGuard => k_is)
    (case iC_BadGuard => k_is)
    (case sC_BadGuard => first | rfl | k_is)
    (case sC_BadGuard_BadKind => first | rfl | k_is)
    (case sC_BadGuard_BadPaper => first | rfl | k_is)
    (case sC_BadGuard_BadText => first | rfl | k_is)
    (case sC_BadGuard_BadWish => first | rfl | k_is)
    (case sC_BadGuard_Nothing => first | rfl | k_is)
    (case sC_BadGuard_OutOfPlace => first | rfl | k_is)
    (case sC_BadGuard_TooMany => first | rfl | k_is)
    (case eC_BadKind => k_is)
    (case tC_BadKind => k_is)
    (case iC_BadKind => k_is)
    (case sC_BadKind => first | rfl | k_is)
    (case sC_BadKind_BadGuard => first | rfl | k_is)
    (case sC_BadKind_BadPaper => first | rfl | k_is)
    (case sC_BadKind_BadText => first | rfl | k_is)
    (case sC_BadKind_BadWish => first | rfl | k_is)
    (case sC_BadKind_Nothing => first | rfl | k_is)
    (case sC_BadKind_OutOfPlace => first | rfl | k_is)
    (case sC_BadKind_TooMany => first | rfl | k_is)
    (case eC_BadPaper => k_is)
    (case tC_BadPaper => k_is)
    (case iC_BadPaper => k_is)
    (case sC_BadPaper => first | rfl | k_is)
    (case sC_BadPaper_BadGuard => first | rfl | k_is)
    (case sC_BadPaper_BadKind => first | rfl | k_is)
    (case sC_BadPaper_BadText => first | rfl | k_is)
    (case sC_BadPaper_BadWish => first | rfl | k_is)
    (case sC_BadPaper_Nothing => first | rfl | k_is)
    (case sC_BadPaper_OutOfPlace => first | rfl | k_is)
    (case sC_BadPaper_TooMany => first | rfl | k_is)
    (case eC_BadText => k_is)
    (case tC_BadText => k_is)
    (case iC_BadText => k_is)
    (case sC_BadText => first | rfl | k_is)
    (case sC_BadText_BadGuard => first | rfl | k_is)
    (case sC_BadText_BadKind => first | rfl | k_is)
    (case sC_BadText_BadPaper => first | rfl | k_is)
    (case sC_BadText_BadWish => first | rfl | k_is)
    (case sC_BadText_Nothing => first | rfl | k_is)
    (case sC_BadText_OutOfPlace => first | rfl | k_is)
    (case sC_BadText_TooMany => first | rfl | k_is)
    (case eC_BadWish => k_is)
    (case tC_BadWish => k_is)
    (case iC_BadWish => k_is)
    (case sC_BadWish => first | rfl | k_is)
    (case sC_BadWish_BadGuard => first | rfl | k_is)
    (case sC_BadWish_BadKind => first | rfl | k_is)
    (case sC_BadWish_BadPaper => first | rfl | k_is)
    (case sC_BadWish_BadText => first | rfl | k_is)
    (case sC_BadWish_Nothing => first | rfl | k_is)
    (case sC_BadWish_OutOfPlace => first | rfl | k_is)
    (case sC_BadWish_TooMany => first | rfl | k_is)
    (case eC_Nothing => k_is)
    (case tC_Nothing => k_is)
    (case iC_Nothing => k_is)
    (case sC_Nothing => first | rfl | k_is)
    (case sC_Nothing_BadGuard => first | rfl | k_is)
    (case sC_Nothing_BadKind => first | rfl | k_is)
    (case sC_Nothing_BadPaper => first | rfl | k_is)
    (case sC_Nothing_BadText => first | rfl | k_is)
    (case sC_Nothing_BadWish => first | rfl | k_is)
    (case sC_Nothing_OutOfPlace => first | rfl | k_is)
    (case sC_Nothing_TooMany => first | rfl | k_is)
    (case eC_OutOfPlace => k_is)
    (case tC_OutOfPlace => k_is)
    (case iC_OutOfPlace => k_is)
    (case sC_OutOfPlace => first | rfl | k_is)
    (case sC_OutOfPlace_BadGuard => first | rfl | k_is)
    (case sC_OutOfPlace_BadKind => first | rfl | k_is)
    (case sC_OutOfPlace_BadPaper => first | rfl | k_is)
    (case sC_OutOfPlace_BadText => first | rfl | k_is)
    (case sC_OutOfPlace_BadWish => first | rfl | k_is)
    (case sC_OutOfPlace_Nothing => first | rfl | k_is)
    (case sC_OutOfPlace_TooMany => first | rfl | k_is)
    (case eC_TooMany => k_is)
    (case tC_TooMany => k_is)
    (case iC_TooMany => k_is)
    (case sC_TooMany => first | rfl | k_is)
    (case sC_TooMany_BadGuard => first | rfl | k_is)
    (case sC_TooMany_BadKind => first | rfl | k_is)
    (case sC_TooMany_BadPaper => first | rfl | k_is)
    (case sC_TooMany_BadText => first | rfl | k_is)
    (case sC_TooMany_BadWish => first | rfl | k_is)
    (case sC_TooMany_Nothing => first | rfl | k_is)
    (case sC_TooMany_OutOfPlace => first | rfl | k_is)
    (case xl_BadGuard => k_is)
    (case rv_BadGuard => first | decide +kernel | k_is)
    (case sa_BadGuard => k_is)
    (case kC_BadGuard => k_is)
    (case a_BadGuard_init => k_is)
    (case tI_BadGuard => k_is)
    (case l_BadGuard_init => k_is)
    (case c_BadGuard_init => k_is)
    (case k_BadGuard_init => k_is)
    (case nx_BadGuard => k_is)
    (case xl_BadKind => k_is)
    (case rv_BadKind => first | decide +kernel | k_is)
    (case sa_BadKind => k_is)
    (case kC_BadKind => k_is)
    (case a_BadKind_init => k_is)
    (case tI_BadKind => k_is)
    (case l_BadKind_init => k_is)
    (case c_BadKind_init => k_is)
    (case k_BadKind_init => k_is)
    (case nx_BadKind => k_is)
    (case xl_BadPaper => k_is)
    (case rv_BadPaper => first | decide +kernel | k_is)
    (case sa_BadPaper => k_is)
    (case kC_BadPaper => k_is)
    (case a_BadPaper_init => k_is)
    (case tI_BadPaper => k_is)
    (case l_BadPaper_init => k_is)
    (case c_BadPaper_init => k_is)
    (case k_BadPaper_init => k_is)
    (case nx_BadPaper => k_is)
    (case xl_BadText => k_is)
    (case rv_BadText => first | decide +kernel | k_is)
    (case sa_BadText => k_is)
    (case kC_BadText => k_is)
    (case a_BadText_init => k_is)
    (case tI_BadText => k_is)
    (case l_BadText_init => k_is)
    (case c_BadText_init => k_is)
    (case k_BadText_init => k_is)
    (case nx_BadText => k_is)
    (case xl_BadWish => k_is)
    (case rv_BadWish => first | decide +kernel | k_is)
    (case sa_BadWish => k_is)
    (case kC_BadWish => k_is)
    (case a_BadWish_init => k_is)
    (case tI_BadWish => k_is)
    (case l_BadWish_init => k_is)
    (case c_BadWish_init => k_is)
    (case k_BadWish_init => k_is)
    (case nx_BadWish => k_is)
    (case xl_Nothing => k_is)
    (case sa_Nothing => k_is)
    (case kC_Nothing => k_is)
    (case a_Nothing_init => k_is)
    (case tI_Nothing => k_is)
    (case l_Nothing_init => k_is)
    (case c_Nothing_init => k_is)
    (case k_Nothing_init => k_is)
    (case xl_OutOfPlace => k_is)
    (case rv_OutOfPlace => first | decide +kernel | k_is)
    (case sa_OutOfPlace => k_is)
    (case kC_OutOfPlace => k_is)
    (case a_OutOfPlace_init => k_is)
    (case tI_OutOfPlace => k_is)
    (case l_OutOfPlace_init => k_is)
    (case c_OutOfPlace_init => k_is)
    (case k_OutOfPlace_init => k_is)
    (case xl_TooMany => k_is)
    (case sa_TooMany => k_is)
    (case kC_TooMany => k_is)
    (case a_TooMany_init => k_is)
    (case tI_TooMany => k_is)
    (case l_TooMany_init => k_is)
    (case c_TooMany_init => k_is)
    (case k_TooMany_init => k_is)
    (case nx_TooMany => k_is)
    (case vV_LookupError => first | k_is | decide +kernel)
    (case vV_OverflowError => first | k_is | decide +kernel)
    (case vV_ValueError => first | k_is | decide +kernel)
    (case a_law_begun => k_is)
    (case l_law_begun => k_is)
    (case c_law_begun => k_is)
    (case k_law_begun => k_is)
    (case a_law_next => k_is)
    (case l_law_next => k_is)
    (case c_law_next => k_is)
    (case k_law_next => k_is)
    (case a_law_of => k_is)
    (case l_law_of => k_is)
    (case c_law_of => k_is)
    (case k_law_of => k_is)
    (case a_law_thing => k_is)
    (case l_law_thing => k_is)
    (case c_law_thing => k_is)
    (case k_law_thing => k_is)
    (case a_law_all => k_is)
    (case l_law_all => k_is)
    (case c_law_all => k_is)
    (case k_law_all => k_is)
    (case a_law_named => k_is)
    (case l_law_named => k_is)
    (case c_law_named => k_is)
    (case k_law_named => k_is)
    (case a_law_fields => k_is)
    (case l_law_fields => k_is)
    (case c_law_fields => k_is)
    (case k_law_fields => k_is)
    (case a_law_marks => k_is)
    (case l_law_marks => k_is)
    (case c_law_marks => k_is)
    (case k_law_marks => k_is)
    (case a_law_due => k_is)
    (case l_law_due => k_is)
    (case c_law_due => k_is)
    (case k_law_due => k_is)
    (case a_law_raised => k_is)
    (case l_law_raised => k_is)
    (case c_law_raised => k_is)
    (case k_law_raised => k_is)
    (case a_law_caught => k_is)
    (case l_law_caught => k_is)
    (case c_law_caught => k_is)
    (case k_law_caught => k_is)
    (case a_law => k_is)
    (case l_law => k_is)
    (case c_law => k_is)
    (case k_law => k_is)
    (case xg_BadGuard => k_is)
    (case xh_BadGuard => k_is)
    (case xd_BadGuard => k_is)
    (case xk_BadGuard => k_is)
    (case xm_BadGuard => k_is)
    (case xg_BadKind => k_is)
    (case xh_BadKind => k_is)
    (case xd_BadKind => k_is)
    (case xk_BadKind => k_is)
    (case xm_BadKind => k_is)
    (case xg_BadPaper => k_is)
    (case xh_BadPaper => k_is)
    (case xd_BadPaper => k_is)
    (case xk_BadPaper => k_is)
    (case xm_BadPaper => k_is)
    (case xg_BadText => k_is)
    (case xh_BadText => k_is)
    (case xd_BadText => k_is)
    (case xk_BadText => k_is)
    (case xm_BadText => k_is)
    (case xg_BadWish => k_is)
    (case xh_BadWish => k_is)
    (case xd_BadWish => k_is)
    (case xk_BadWish => k_is)
    (case xm_BadWish => k_is)
    (case xg_Nothing => k_is)
    (case xh_Nothing => k_is)
    (case xd_Nothing => k_is)
    (case xk_Nothing => k_is)
    (case xm_Nothing => k_is)
    (case xg_OutOfPlace => k_is)
    (case xh_OutOfPlace => k_is)
    (case xd_OutOfPlace => k_is)
    (case xk_OutOfPlace => k_is)
    (case xm_OutOfPlace => k_is)
    (case xg_TooMany => k_is)
    (case xh_TooMany => k_is)
    (case xd_TooMany => k_is)
    (case xk_TooMany => k_is)
    (case xm_TooMany => k_is)
    (case xn_0 => k_is)
    (case xt_0 => k_is)
    (case sb_BadGuard_IndexError => k_is)
    (case sb_BadGuard_KeyError => k_is)
    (case sb_BadGuard_LookupError => k_is)
    (case sb_BadGuard_OverflowError => k_is)
    (case sb_BadGuard_RuntimeError => k_is)
    (case sb_BadGuard_ValueError => k_is)
    (case sb_BadKind_IndexError => k_is)
    (case sb_BadKind_KeyError => k_is)
    (case sb_BadKind_LookupError => k_is)
    (case sb_BadKind_OverflowError => k_is)
    (case sb_BadKind_RuntimeError => k_is)
    (case sb_BadKind_ValueError => k_is)
    (case sb_BadPaper_IndexError => k_is)
    (case sb_BadPaper_KeyError => k_is)
    (case sb_BadPaper_LookupError => k_is)
    (case sb_BadPaper_OverflowError => k_is)
    (case sb_BadPaper_RuntimeError => k_is)
    (case sb_BadPaper_ValueError => k_is)
    (case sb_BadText_IndexError => k_is)
    (case sb_BadText_KeyError => k_is)
    (case sb_BadText_LookupError => k_is)
    (case sb_BadText_OverflowError => k_is)
    (case sb_BadText_RuntimeError => k_is)
    (case sb_BadText_ValueError => k_is)
    (case sb_BadWish_IndexError => k_is)
    (case sb_BadWish_KeyError => k_is)
    (case sb_BadWish_LookupError => k_is)
    (case sb_BadWish_OverflowError => k_is)
    (case sb_BadWish_RuntimeError => k_is)
    (case sb_BadWish_ValueError => k_is)
    (case sb_Nothing_IndexError => k_is)
    (case sb_Nothing_KeyError => k_is)
    (case sb_Nothing_LookupError => k_is)
    (case sb_Nothing_OverflowError => k_is)
    (case sb_Nothing_RuntimeError => k_is)
    (case sb_Nothing_ValueError => k_is)
    (case sb_OutOfPlace_IndexError => k_is)
    (case sb_OutOfPlace_KeyError => k_is)
    (case sb_OutOfPlace_LookupError => k_is)
    (case sb_OutOfPlace_OverflowError => k_is)
    (case sb_OutOfPlace_RuntimeError => k_is)
    (case sb_OutOfPlace_ValueError => k_is)
    (case sb_TooMany_IndexError => k_is)
    (case sb_TooMany_KeyError => k_is)
    (case sb_TooMany_LookupError => k_is)
    (case sb_TooMany_OverflowError => k_is)
    (case sb_TooMany_RuntimeError => k_is)
    (case sb_TooMany_ValueError => k_is)
    (case z_IndexError => k_is)
    (case z_KeyError => k_is)
    (case z_LookupError => k_is)
    (case z_OverflowError => k_is)
    (case z_RuntimeError => k_is)
    (case z_ValueError => k_is)
    (case z_int => k_is)
    (case z_isinstance => k_is)
    (case z_len => k_is)
    (case z_list => k_is)
    (case z_min => k_is)
    (case z_range => k_is)
    (case z_repr => k_is)
