import PyProof.Rows.All
import Wide.All
import OpenK.AllK
import Wide.FinOn
import HandS.ForMost
import HandS.Zip
import HandS.Rev
import HandS.RevRange
import HandS.Small
import HandS.Deep
import HandS.Exc
import HandS.More
import HandS.Conv
import HandS.HeadHook4
import KE.KDictKeyed
import HandS.TupAny
import HandS.TupLe
import HandS.TupLen
import HandS.IsInst
import HandS.Style
import HandS.TupMul
import HandS.SortInts
import HandS.RaiseMore
import HandS.NoneIn
import PyProof.ReprRoads
import HandS.TryOnly
import HandS.Words
import KE.GoesEnum
import HandS.WordsDict
import PyProof.ReprBulk
import HandS.Text
import HandS.Dict
import PyProof.ListMulRoad
import HandS.SortKw
import KE.KTupSum
import PyProof.TupleOfSeq
import KE.GoesEnumKw
import HandS.Head0
import HandS.Head1
import HandS.Head2
import HandS.HeadHook1
import HandS.HeadHook2
import HandS.HeadHook3
import HandS.Ends
import HandS.Defaults
import PyProof.StrBlock2
import KE.SortData
import KE.DataMinMax
import PyProof.Claim2Refuses
import PyProof.P3In
import HandS.Replace
import PyProof.Rows.StrCountLaw
import PyProof.Rows.StrLawsPart
import HandS.SetFor
import HandS.Strs
import KE.KIndexOf
import HandS.SetBool
import HandS.Sort
import KE.KDictDisplayH
import KE.KDictCopyH
import HandS.DictComp
import KE.GoesZip
import HandS.DictTup
import PySem.Challenge.RW_gathersheets_k10_edges_exact
set_option Elab.async false
set_option linter.all false
set_option autoImplicit false
set_option maxRecDepth 100000
set_option maxHeartbeats 3999999
namespace DL
open PySem PySem.Spec PyProof.Rows L2
structure KW where
  K : PySem.W.Frag
  w : World
abbrev gX (X : Cx) : KW := ⟨X.K, X.w⟩
/-- data: what never changes any more; ref n: the n-th object of the abstract heap -/
inductive D where
  | non | bl (b : Bool) | int (i : Int) | str (x : Str) | tup (xs : List D) | lst (xs : List D)
  | dk (ks : List Key) (xs : List D) | dt (ks : List (List Key)) (xs : List D)
  | cd (ks : List Str) (xs : List D) | ct (xs : List D)
  | ref (n : Nat) | fn (a : Addr) | ty (n : String)
  deriving Inhabited
/-- an exception: the class, the values of its fields -/
structure AX where
  cls : Str
  fs : List (Str × D)
/-- an object that may change; fz d: it is d for ever; gone: nothing is known -/
inductive AO where
  | lst (xs : List D) | dk (ks : List Key) (xs : List D) | dt (ks : List (List Key)) (xs : List D)
  | fz (d : D) | gone | tab (x : Str) | xd (e dd : Addr) (x : AX) | rng (lo hi : Int) | dx (ks : List D) (ds : List D) | ins (C : Str) (fs : List (Str × D))
abbrev AH := List AO
abbrev AE := List (Option D)
inductive Res (α : Type) where
  | ok (a : α) (h : AH)
  | exc (x : AX) (e : AE) (h : AH)
  | bad
def Res.bind {α β : Type} (r : Res α) (k : α → AH → Res β) : Res β := match r with
  | .ok a h => k a h
  | .exc x e h => .exc x e h
  | .bad => .bad
@[simp] theorem Res.bind_ok {α β : Type} (a : α) (h : AH) (k : α → AH → Res β) : (Res.ok a h).bind k = k a h := rfl
@[simp] theorem Res.bind_exc {α β : Type} (x : AX) (e : AE) (h : AH) (k : α → AH → Res β) : (Res.exc x e h : Res α).bind k = .exc x e h := rfl
@[simp] theorem Res.bind_bad {α β : Type} (k : α → AH → Res β) : (Res.bad : Res α).bind k = .bad := rfl
/-- what must not raise -/
def Res.nox {α : Type} (r : Res α) : Res α := match r with
  | .ok a h => .ok a h
  | _ => .bad
@[simp] theorem Res.nox_ok {α : Type} (a : α) (h : AH) : (Res.ok a h).nox = .ok a h := rfl
abbrev FE := AE → AH → Res D
abbrev LX := List (NestedKey × Addr × V)
abbrev Rx (p : NestedKey × Addr × V) (q : NestedKey × Addr × Value) : Prop := p.1 = q.1 ∧ p.2.1 = q.2.1 ∧ RelV p.2.2 q.2.2
/-- a dict with keys of any depth: what its one object tells -/
def DxOk (w : World) (h : Heap) (a : Addr) (L : LX) : Prop := L.length ≤ sizeLine ∧ (a == sysModules) = false ∧ (∀ p ∈ L, p.1.depth ≤ 8) ∧ ∃ xs : List (NestedKey × Addr × Value), Paired Rx L xs ∧
  ∃ (P : Program) (o : Obj) (es : Array DictEntry) (ep : Nat), h.get? a = some o ∧ o.ExactDict ∧ o.data = .dict es ep ∧ es.toList = xs.map (entryOfKey (nestedKind P w)) ∧ (xs.map (·.1)).Nodup
def DTx (w : World) (a : Addr) (L : LX) : HO := .ext fun h => DxOk w h a L
mutual
/-- the key that the data is -/
def nkD : D → Option NestedKey
  | .non => some .none
  | .bl b => some (.num (if b = true then 1 else 0))
  | .int i => some (.num i)
  | .str x => some (.text x)
  | .tup ds => (nkDs ds).map .tup
  | .ct ds => (nkDs ds).map .tup
  | _ => none
def nkDs : List D → Option (List NestedKey)
  | [] => some []
  | d :: ds => match nkD d, nkDs ds with
    | some k, some ks => some (k :: ks)
    | _, _ => none
end
def FzL (H : Hp) (a : Addr) (vs : List V) : Prop := ∃ o, H a = some (.frz o (.lst vs))
theorem FzL.rd {H : Hp} {a : Addr} {vs : List V} (h : FzL H a vs) : Rd H a (.lst vs) := .inr h
theorem FzL.sq {K : PySem.W.Frag} {H : Hp} {a : Addr} {vs : List V} (h : FzL H a vs) : SqL K H a vs := .inl h.rd
/-- what lasts: tuples and what is frozen -/
def Ext (H H' : Hp) : Prop := (∀ a xs, H a = some (.tup xs) → H' a = some (.tup xs)) ∧ ∀ a o u, H a = some (.frz o u) → H' a = some (.frz o u)
theorem Ext.refl (H : Hp) : Ext H H := ⟨fun _ _ h => h, fun _ _ _ h => h⟩
theorem Ext.trans {H H1 H2 : Hp} (a : Ext H H1) (b : Ext H1 H2) : Ext H H2 := ⟨fun c xs h => b.1 c xs (a.1 c xs h), fun c o u h => b.2 c o u (a.2 c o u h)⟩
theorem Ext.of_same {H H' : Hp} (h : Same H H') : Ext H H' := ⟨fun a xs e => h a _ e, fun a o u e => h a _ e⟩
theorem same_new {H : Hp} {p : Addr} {o : HO} (h : H p = none) : Same H (upd H p o) := fun b x e => by
  rw [upd_ne (ne_of_none e h)]
  exact e
theorem Ext.upd {H : Hp} {p : Addr} {o u : HO} (h : H p = some o) (ht : ∀ xs, o ≠ .tup xs) (hf : ∀ ob v, o ≠ .frz ob v) : Ext H (L2.upd H p u) := by
  refine ⟨fun a xs e => ?_, fun a ob v e => ?_⟩
  · have : a ≠ p := fun q => by subst q; rw [h] at e; exact ht xs (Option.some.inj e)
    rw [upd_ne this]; exact e
  · have : a ≠ p := fun q => by subst q; rw [h] at e; exact hf ob v (Option.some.inj e)
    rw [upd_ne this]; exact e
/-- a tuple that stands in the module, or one whose object is known -/
def CtO (G : KW) (H : Hp) (a : Addr) (vs : List V) : Prop := (∃ (o : Obj) (its : Array Value) (n : Nat), G.K.lookup a = some o ∧ o.cls = .type "tuple" ∧ o.data = .seq its n ∧ its.size ≤ sizeLine ∧ Vals vs its.toList ∧ o.dict = none) ∨ ∃ o : Obj, H a = some (.frz o (.tup vs)) ∧ o.dict = none
theorem CtO.sqt {G : KW} {H : Hp} {a : Addr} {vs : List V} (h : CtO G H a vs) : SqT G.K H a vs := by
  rcases h with ⟨o, its, n, h1, h2, h3, h4, h5, _⟩ | ⟨o, h, _⟩
  · exact .inr ⟨o, its, n, h1, h2, h3, h4, h5⟩
  · exact .inl (.inr ⟨o, h⟩)
theorem CtO.ext {G : KW} {H H' : Hp} (e : Ext H H') {a : Addr} {vs : List V} (h : CtO G H a vs) : CtO G H' a vs := by
  rcases h with h | ⟨o, h, k⟩
  · exact .inl h
  · exact .inr ⟨o, e.2 _ _ _ h, k⟩
section
variable (G : KW) (η : List Addr) (H : Hp)
mutual
inductive Rel : D → V → Prop
  | non : Rel .non .non
  | bl (b : Bool) : Rel (.bl b) (.bl b)
  | int (i : Int) : Rel (.int i) (.int i)
  | str (x : Str) : Rel (.str x) (.str x)
  | tup {a : Addr} {vs : List V} {ds : List D} : H a = some (.tup vs) → RelAll ds vs → Rel (.tup ds) (.ref a)
  | ct {a : Addr} {vs : List V} {ds : List D} : CtO G H a vs → RelAll ds vs → Rel (.ct ds) (.ref a)
  | lst {a : Addr} {vs : List V} {ds : List D} : FzL H a vs → RelAll ds vs → Rel (.lst ds) (.ref a)
  | dk {a : Addr} {o : Obj} {kvs : List (Key × V)} {ks : List Key} {ds : List D} : H a = some (.frz o (.dK kvs)) → kvs.map (·.1) = ks → RelAll ds (kvs.map (·.2)) → Rel (.dk ks ds) (.ref a)
  | dt {a : Addr} {o : Obj} {kvs : List (List Key × V)} {ks : List (List Key)} {ds : List D} : H a = some (.frz o (.dT kvs)) → kvs.map (·.1) = ks → RelAll ds (kvs.map (·.2)) → Rel (.dt ks ds) (.ref a)
  | cd {a : Addr} {ks : List Str} {ds : List D} {vs : List V} : (∀ (i : Nat) z v, ks[i]? = some z → vs[i]? = some v → KDct G.K G.w a z v) → ks.length = vs.length → RelAll ds vs → Rel (.cd ks ds) (.ref a)
  | ref {n : Nat} {a : Addr} : η[n]? = some a → Rel (.ref n) (.ref a)
  | fn (a : Addr) : Rel (.fn a) (.ref a)
  | ty (n : String) : Rel (.ty n) (.ty n)
inductive RelAll : List D → List V → Prop
  | nil : RelAll [] []
  | cons {d : D} {v : V} {ds : List D} {vs : List V} : Rel d v → RelAll ds vs → RelAll (d :: ds) (v :: vs)
end
end
section
variable {G : KW} {η η' : List Addr} {H H' : Hp}
theorem SqT.ext {K : PySem.W.Frag} (e : Ext H H') {a : Addr} {vs : List V} (h : SqT K H a vs) : SqT K H' a vs := by
  rcases h with (h | ⟨o, h⟩) | h
  · exact .inl (.inl (e.1 _ _ h))
  · exact .inl (.inr ⟨o, e.2 _ _ _ h⟩)
  · exact .inr h
theorem FzL.ext (e : Ext H H') {a : Addr} {vs : List V} (h : FzL H a vs) : FzL H' a vs := by
  obtain ⟨o, h⟩ := h
  exact ⟨o, e.2 _ _ _ h⟩
mutual
theorem Rel.ext (g : η <+: η') (e : Ext H H') : ∀ {d : D} {v : V}, Rel G η H d v → Rel G η' H' d v
  | _, _, .non => .non
  | _, _, .bl b => .bl b
  | _, _, .int b => .int b
  | _, _, .str b => .str b
  | _, _, .tup h r => .tup (e.1 _ _ h) (RelAll.ext g e r)
  | _, _, .ct h r => .ct (h.ext e) (RelAll.ext g e r)
  | _, _, .lst h r => .lst (FzL.ext e h) (RelAll.ext g e r)
  | _, _, .dk h k r => .dk (e.2 _ _ _ h) k (RelAll.ext g e r)
  | _, _, .dt h k r => .dt (e.2 _ _ _ h) k (RelAll.ext g e r)
  | _, _, .cd h k r => .cd h k (RelAll.ext g e r)
  | _, _, .ref h => .ref (by
      obtain ⟨t, rfl⟩ := g
      rw [List.getElem?_append_left (List.getElem?_eq_some_iff.mp h).1]
      exact h)
  | _, _, .fn a => .fn a
  | _, _, .ty a => .ty a
theorem RelAll.ext (g : η <+: η') (e : Ext H H') : ∀ {ds : List D} {vs : List V}, RelAll G η H ds vs → RelAll G η' H' ds vs
  | _, _, .nil => .nil
  | _, _, .cons h r => .cons (Rel.ext g e h) (RelAll.ext g e r)
end
theorem RelAll.length : ∀ {ds : List D} {vs : List V}, RelAll G η H ds vs → ds.length = vs.length
  | _, _, .nil => rfl
  | _, _, .cons _ r => congrArg (· + 1) (RelAll.length r)
theorem RelAll.get : ∀ {ds : List D} {vs : List V} {i : Nat} {d : D}, RelAll G η H ds vs → ds[i]? = some d → ∃ v, vs[i]? = some v ∧ Rel G η H d v
  | _, _, i, d, .nil, h => by simp at h
  | _, _, 0, d, .cons h r, e => by simp at e; subst e; exact ⟨_, by simp, h⟩
  | _, _, i + 1, d, .cons h r, e => by
    obtain ⟨v, h1, h2⟩ := RelAll.get (i := i) r (by simpa using e)
    exact ⟨v, by simpa using h1, h2⟩
theorem RelAll.append : ∀ {ds es : List D} {vs us : List V}, RelAll G η H ds vs → RelAll G η H es us → RelAll G η H (ds ++ es) (vs ++ us)
  | _, _, _, _, .nil, h => h
  | _, _, _, _, .cons h r, q => .cons h (RelAll.append r q)
theorem RelAll.set {d : D} {v : V} (h : Rel G η H d v) : ∀ {ds : List D} {vs : List V} (i : Nat), RelAll G η H ds vs → RelAll G η H (ds.set i d) (vs.set i v)
  | _, _, _, .nil => .nil
  | _, _, 0, .cons _ r => .cons h r
  | _, _, i + 1, .cons q r => .cons q (RelAll.set h i r)
theorem RelAll.take : ∀ {ds : List D} {vs : List V} (n : Nat), RelAll G η H ds vs → RelAll G η H (ds.take n) (vs.take n)
  | _, _, 0, _ => .nil
  | _, _, _ + 1, .nil => .nil
  | _, _, n + 1, .cons h r => .cons h (RelAll.take n r)
theorem RelAll.drop : ∀ {ds : List D} {vs : List V} (n : Nat), RelAll G η H ds vs → RelAll G η H (ds.drop n) (vs.drop n)
  | _, _, 0, h => h
  | _, _, _ + 1, .nil => .nil
  | _, _, n + 1, .cons h r => RelAll.drop n r
theorem RelAll.snoc {ds : List D} {vs : List V} {d : D} {v : V} (r : RelAll G η H ds vs) (h : Rel G η H d v) : RelAll G η H (ds ++ [d]) (vs ++ [v]) := r.append (.cons h .nil)
theorem RelAll.reverse : ∀ {ds : List D} {vs : List V}, RelAll G η H ds vs → RelAll G η H ds.reverse vs.reverse
  | _, _, .nil => .nil
  | _, _, .cons h r => by
    rw [List.reverse_cons, List.reverse_cons]
    exact (RelAll.reverse r).snoc h
theorem RelAll.rep {d : D} {v : V} (h : Rel G η H d v) : ∀ n : Nat, RelAll G η H (List.replicate n d) (List.replicate n v)
  | 0 => .nil
  | n + 1 => .cons h (RelAll.rep h n)
theorem RelAll.repL {ds : List D} {vs : List V} (h : RelAll G η H ds vs) : ∀ n : Nat, RelAll G η H (List.replicate n ds).flatten (List.replicate n vs).flatten
  | 0 => .nil
  | n + 1 => h.append (RelAll.repL h n)
end
section
variable (G : KW) (η : List Addr) (H : Hp)
def AOk (a : Addr) : AO → Prop
  | .lst ds => ∃ vs, H a = some (.lst vs) ∧ RelAll G η H ds vs
  | .dk ks ds => ∃ kvs, H a = some (.dK kvs) ∧ kvs.map (·.1) = ks ∧ RelAll G η H ds (kvs.map (·.2))
  | .dt ks ds => ∃ kvs, H a = some (.dT kvs) ∧ kvs.map (·.1) = ks ∧ RelAll G η H ds (kvs.map (·.2))
  | .fz d => (∃ o, H a = some o) ∧ Rel G η H d (.ref a)
  | .gone => ∃ o, H a = some o
  | .rng lo hi => H a = some (.rng lo hi)
  | .dx ks ds => ∃ L : LX, H a = some (DTx G.w a L) ∧ (L.map fun p => some p.1) = ks.map nkD ∧ RelAll G η H ks (L.map fun p => V.ref p.2.1) ∧ RelAll G η H ds (L.map (·.2.2))
  | .ins C fs => ∃ dx vs, H a = some (.ins (He.ga G.K C) dx vs) ∧ vs.map (·.1) = fs.map (·.1) ∧ RelAll G η H (fs.map (·.2)) (vs.map (·.2))
  | .xd _ dd x => a = dd ∧ ∃ vs, H a = some (.xd vs) ∧ vs.map (·.1) = x.fs.map (·.1) ∧ RelAll G η H (x.fs.map (·.2)) (vs.map (·.2))
  | .tab x => a = (He.cT G.K (x, none)).2 ∧ ∃ ps : Array Value, H a = some (.tbl ps) ∧ TriplesOk ps.toList
structure HpOk (ah : AH) : Prop where
  len : η.length = ah.length
  nd : η.Nodup
  ok : ∀ (n : Nat) (a : Addr) (o : AO), η[n]? = some a → ah[n]? = some o → AOk G η H a o
/-- the names' values -/
structure EnvOk (env : AE) (S : L2.St) : Prop where
  len : env.length = S.length
  ok : ∀ (i : Nat) (d : D), env[i]? = some (some d) → ∃ v, S[i]? = some (some v) ∧ Rel G η H d v
end
section
variable {G : KW} {η η' : List Addr} {H H' : Hp} {ah : AH} {env : AE} {S : L2.St}
theorem EnvOk.ext (g : η <+: η') (e : Ext H H') (h : EnvOk G η H env S) : EnvOk G η' H' env S := ⟨h.len, fun i d q => by
  obtain ⟨v, h1, h2⟩ := h.ok i d q
  exact ⟨v, h1, h2.ext g e⟩⟩
theorem EnvOk.set (h : EnvOk G η H env S) (i : Nat) {d : D} {v : V} (r : Rel G η H d v) : EnvOk G η H (env.set i (some d)) (S.set i (some v)) := by
  refine ⟨by simp [h.len], fun j e q => ?_⟩
  by_cases hj : j = i
  · subst hj
    have hl : j < env.length := by
      have := (List.getElem?_eq_some_iff.mp q).1
      simpa using this
    rw [List.getElem?_set_self hl] at q
    cases q
    exact ⟨v, List.getElem?_set_self (by rw [← h.len]; exact hl), r⟩
  · rw [List.getElem?_set_ne (Ne.symm hj)] at q
    obtain ⟨w, h1, h2⟩ := h.ok j e q
    exact ⟨w, by rw [List.getElem?_set_ne (Ne.symm hj)]; exact h1, h2⟩
theorem AOk.keep (g : η <+: η') (s : Same H H') {a : Addr} : ∀ {o : AO}, AOk G η H a o → AOk G η' H' a o
  | .lst ds, ⟨vs, h, r⟩ => ⟨vs, s _ _ h, r.ext g (.of_same s)⟩
  | .dk _ ds, ⟨vs, h, k, r⟩ => ⟨vs, s _ _ h, k, r.ext g (.of_same s)⟩
  | .dt _ ds, ⟨vs, h, k, r⟩ => ⟨vs, s _ _ h, k, r.ext g (.of_same s)⟩
  | .fz d, ⟨⟨o, h⟩, r⟩ => ⟨⟨o, s _ _ h⟩, r.ext g (.of_same s)⟩
  | .gone, ⟨o, h⟩ => ⟨o, s _ _ h⟩
  | .rng _ _, h => s _ _ h
  | .dx _ _, ⟨L, h, k, e, r⟩ => ⟨L, s _ _ h, k, e.ext g (.of_same s), r.ext g (.of_same s)⟩
  | .tab _, ⟨e, ps, h, t⟩ => ⟨e, ps, s _ _ h, t⟩
  | .xd _ _ _, ⟨z, vs, h, e, r⟩ => ⟨z, vs, s _ _ h, e, r.ext g (.of_same s)⟩
  | .ins _ _, ⟨dx, vs, h, e, r⟩ => ⟨dx, vs, s _ _ h, e, r.ext g (.of_same s)⟩
theorem AOk.there {a : Addr} : ∀ {o : AO}, AOk G η H a o → ∃ u, H a = some u
  | .lst ds, ⟨vs, h, r⟩ => ⟨_, h⟩
  | .dk _ ds, ⟨vs, h, k, r⟩ => ⟨_, h⟩
  | .dt _ ds, ⟨vs, h, k, r⟩ => ⟨_, h⟩
  | .fz d, ⟨⟨o, h⟩, r⟩ => ⟨_, h⟩
  | .gone, ⟨o, h⟩ => ⟨_, h⟩
  | .rng _ _, h => ⟨_, h⟩
  | .dx _ _, ⟨L, h, _⟩ => ⟨_, h⟩
  | .tab _, ⟨e, ps, h, t⟩ => ⟨_, h⟩
  | .xd _ _ _, ⟨z, vs, h, e, r⟩ => ⟨_, h⟩
  | .ins _ _, ⟨dx, vs, h, e, r⟩ => ⟨_, h⟩
theorem HpOk.same (h : HpOk G η H ah) (s : Same H H') : HpOk G η H' ah := ⟨h.len, h.nd, fun n a o e1 e2 => (h.ok n a o e1 e2).keep (List.prefix_refl _) s⟩
theorem HpOk.at (h : HpOk G η H ah) {n : Nat} {a : Addr} (e : η[n]? = some a) : ∃ o, ah[n]? = some o ∧ AOk G η H a o := by
  have hl : n < ah.length := by rw [← h.len]; exact (List.getElem?_eq_some_iff.mp e).1
  exact ⟨ah[n], by simp [hl], h.ok n a _ e (by simp [hl])⟩
theorem HpOk.in_there (h : HpOk G η H ah) {a : Addr} (m : a ∈ η) : ∃ u, H a = some u := by
  obtain ⟨n, hn, rfl⟩ := List.mem_iff_getElem.mp m
  obtain ⟨o, _, q⟩ := h.at (n := n) (a := η[n]) (by simp [hn])
  exact q.there
theorem HpOk.fresh (h : HpOk G η H ah) {p : Addr} (hp : H p = none) : p ∉ η := fun m => by
  obtain ⟨u, e⟩ := h.in_there m
  rw [hp] at e; cases e
/-- a new object -/
theorem HpOk.new (h : HpOk G η H ah) {p : Addr} {u : HO} {o : AO} (hp : H p = none) (ok : AOk G (η ++ [p]) (upd H p u) p o) : HpOk G (η ++ [p]) (upd H p u) (ah ++ [o]) := by
  refine ⟨by simp [h.len], ?_, fun n a o' e1 e2 => ?_⟩
  · rw [List.nodup_append]
    refine ⟨h.nd, by simp, fun a ha b hb => ?_⟩
    simp at hb
    subst hb
    rintro rfl
    exact h.fresh hp ha
  · by_cases hn : n < η.length
    · rw [List.getElem?_append_left hn] at e1
      rw [List.getElem?_append_left (by rw [← h.len]; exact hn)] at e2
      exact (h.ok n a o' e1 e2).keep (List.prefix_append _ _) (same_new hp)
    · rw [List.getElem?_append_right (by omega)] at e1
      rw [List.getElem?_append_right (by rw [← h.len]; omega)] at e2
      rw [h.len] at e1
      have h0 : n - ah.length = 0 := by
        have := (List.getElem?_eq_some_iff.mp e1).1
        simp at this
        omega
      rw [h0] at e1 e2
      simp at e1 e2
      subst e1; subst e2
      exact ok
/-- an object is changed -/
theorem HpOk.put (h : HpOk G η H ah) {n : Nat} {a : Addr} {o0 : HO} {u : HO} {o : AO} (ha : η[n]? = some a) (e : H a = some o0) (ht : ∀ xs, o0 ≠ .tup xs) (hf : ∀ ob v, o0 ≠ .frz ob v)
    (ok : AOk G η (upd H a u) a o) : HpOk G η (upd H a u) (ah.set n o) := by
  have E : Ext H (upd H a u) := Ext.upd e ht hf
  have pf := List.prefix_refl η
  refine ⟨by simp [h.len], h.nd, fun m b o' e1 e2 => ?_⟩
  by_cases hm : m = n
  · subst hm
    rw [ha] at e1; cases e1
    have hl : m < ah.length := by
      have := (List.getElem?_eq_some_iff.mp e2).1
      simpa using this
    rw [List.getElem?_set_self hl] at e2
    cases e2
    exact ok
  · rw [List.getElem?_set_ne (Ne.symm hm)] at e2
    have hab : b ≠ a := fun q => by
      subst q
      exact hm ((List.getElem_inj h.nd).mp (((List.getElem?_eq_some_iff.mp e1).2).trans ((List.getElem?_eq_some_iff.mp ha).2).symm))
    have k := h.ok m b o' e1 e2
    cases o' with
    | lst ds => obtain ⟨vs, q, r⟩ := k; exact ⟨vs, by rw [upd_ne hab]; exact q, r.ext pf E⟩
    | dk ks ds => obtain ⟨vs, q, z, r⟩ := k; exact ⟨vs, by rw [upd_ne hab]; exact q, z, r.ext pf E⟩
    | dt ks ds => obtain ⟨vs, q, z, r⟩ := k; exact ⟨vs, by rw [upd_ne hab]; exact q, z, r.ext pf E⟩
    | fz d => obtain ⟨⟨ob, q⟩, r⟩ := k; exact ⟨⟨ob, by rw [upd_ne hab]; exact q⟩, r.ext pf E⟩
    | gone => obtain ⟨ob, q⟩ := k; exact ⟨ob, by rw [upd_ne hab]; exact q⟩
    | rng lo hi => exact (show upd _ _ _ _ = _ by rw [upd_ne hab]; exact k)
    | dx ks ds => obtain ⟨L, q, kk, e, r⟩ := k; exact ⟨L, by rw [upd_ne hab]; exact q, kk, e.ext pf E, r.ext pf E⟩
    | tab p => obtain ⟨e, ps, q, t⟩ := k; exact ⟨e, ps, by rw [upd_ne hab]; exact q, t⟩
    | xd b dd x => obtain ⟨z, vs, q, e, r⟩ := k; exact ⟨z, vs, by rw [upd_ne hab]; exact q, e, r.ext pf E⟩
    | ins C fs => obtain ⟨dx, vs, q, e, r⟩ := k; exact ⟨dx, vs, by rw [upd_ne hab]; exact q, e, r.ext pf E⟩
end
structure Mv (η : List Addr) (H : Hp) (η' : List Addr) (H' : Hp) : Prop where
  pre : η <+: η'
  ext : Ext H H'
  new : ∀ a, a ∈ η' → a ∈ η ∨ H a = none
  frm : ∀ a u, H a = some u → a ∉ η → H' a = some u
  live : ∀ a u, H a = some u → ∃ u', H' a = some u'
section
variable {G : KW} {η η1 η' : List Addr} {H H1 H' : Hp}
theorem Mv.refl : Mv η H η H := ⟨List.prefix_refl _, Ext.refl _, fun _ h => .inl h, fun _ _ h _ => h, fun _ u h => ⟨u, h⟩⟩
theorem Mv.trans (m : Mv η H η1 H1) (k : Mv η1 H1 η' H') : Mv η H η' H' where
  pre := m.pre.trans k.pre
  ext := m.ext.trans k.ext
  new := fun a h => by
    rcases k.new a h with q | q
    · exact m.new a q
    · cases e : H a with
      | none => exact .inr rfl
      | some u => obtain ⟨u', z⟩ := m.live a u e; rw [q] at z; cases z
  frm := fun a u e n => k.frm a u (m.frm a u e n) fun z => (m.new a z).elim n fun q => by rw [e] at q; cases q
  live := fun a u e => by
    obtain ⟨u1, e1⟩ := m.live a u e
    exact k.live a u1 e1
theorem Mv.same (s : Same H H') : Mv η H η H' := ⟨List.prefix_refl _, .of_same s, fun _ h => .inl h, fun a u h _ => s a u h, fun a u h => ⟨u, s a u h⟩⟩
/-- an object of ours is changed -/
theorem Mv.upd {a : Addr} {o u : HO} (m : a ∈ η) (h : H a = some o) (ht : ∀ xs, o ≠ .tup xs) (hf : ∀ ob v, o ≠ .frz ob v) : Mv η H η (L2.upd H a u) where
  pre := List.prefix_refl _
  ext := Ext.upd h ht hf
  new := fun _ h => .inl h
  frm := fun b v e n => by rw [upd_ne (fun z => n (by rw [z]; exact m))]; exact e
  live := fun b v e => by
    by_cases hb : b = a
    · subst hb; exact ⟨u, upd_same⟩
    · exact ⟨v, by rw [upd_ne hb]; exact e⟩
/-- a new object of ours -/
theorem Mv.made {a : Addr} {u : HO} (h : H a = none) : Mv η H (η ++ [a]) (L2.upd H a u) where
  pre := List.prefix_append _ _
  ext := .of_same (same_new h)
  new := fun b m => by
    rcases List.mem_append.mp m with q | q
    · exact .inl q
    · simp at q; subst q; exact .inr h
  frm := fun b v e n => same_new h b v e
  live := fun b v e => ⟨v, same_new h b v e⟩
/-- an object that is not ours (yet), new since the base, is changed -/
theorem Mv.side {a : Addr} {o u : HO} (m : Mv η H η1 H1) (h0 : H a = none) (h : H1 a = some o) : Mv η H η1 (L2.upd H1 a u) where
  pre := m.pre
  ext := ⟨fun b xs e => by rw [upd_ne (ne_of_none e h0)]; exact m.ext.1 b xs e, fun b ob v e => by rw [upd_ne (ne_of_none e h0)]; exact m.ext.2 b ob v e⟩
  new := m.new
  frm := fun b v e n => by rw [upd_ne (ne_of_none e h0)]; exact m.frm b v e n
  live := fun b v e => by rw [upd_ne (ne_of_none e h0)]; exact m.live b v e
theorem HpOk.side {a : Addr} {o u : HO} {ah : AH} (p : HpOk G η H ah) (n : a ∉ η) (h : H a = some o) (ht : ∀ xs, o ≠ .tup xs) (hf : ∀ ob v, o ≠ .frz ob v) : HpOk G η (L2.upd H a u) ah := by
  have E : Ext H (L2.upd H a u) := Ext.upd h ht hf
  have pf := List.prefix_refl η
  refine ⟨p.len, p.nd, fun m b o' e1 e2 => ?_⟩
  have hb : b ≠ a := fun z => n (by rw [← z]; exact List.mem_of_getElem? e1)
  have k := p.ok m b o' e1 e2
  cases o' with
  | lst ds => obtain ⟨vs, q, r⟩ := k; exact ⟨vs, by rw [upd_ne hb]; exact q, r.ext pf E⟩
  | dk ks ds => obtain ⟨vs, q, z, r⟩ := k; exact ⟨vs, by rw [upd_ne hb]; exact q, z, r.ext pf E⟩
  | dt ks ds => obtain ⟨vs, q, z, r⟩ := k; exact ⟨vs, by rw [upd_ne hb]; exact q, z, r.ext pf E⟩
  | fz d => obtain ⟨⟨ob, q⟩, r⟩ := k; exact ⟨⟨ob, by rw [upd_ne hb]; exact q⟩, r.ext pf E⟩
  | gone => obtain ⟨ob, q⟩ := k; exact ⟨ob, by rw [upd_ne hb]; exact q⟩
  | rng lo hi => exact (show upd _ _ _ _ = _ by rw [upd_ne hb]; exact k)
  | dx ks ds => obtain ⟨L, q, kk, e, r⟩ := k; exact ⟨L, by rw [upd_ne hb]; exact q, kk, e.ext pf E, r.ext pf E⟩
  | tab p => obtain ⟨e, ps, q, t⟩ := k; exact ⟨e, ps, by rw [upd_ne hb]; exact q, t⟩
  | xd b dd x => obtain ⟨z, vs, q, e, r⟩ := k; exact ⟨z, vs, by rw [upd_ne hb]; exact q, e, r.ext pf E⟩
  | ins C fs => obtain ⟨dx, vs, q, e, r⟩ := k; exact ⟨dx, vs, by rw [upd_ne hb]; exact q, e, r.ext pf E⟩
theorem Mv.fresh {d : Option Addr} (m : Mv η H η1 H1) (h : ∀ dd, d = some dd → H1 dd = none) : ∀ dd, d = some dd → H dd = none := fun dd e => by
  cases q : H dd with
  | none => rfl
  | some u =>
    obtain ⟨u', z⟩ := m.live dd u q
    rw [h dd e] at z
    cases z
/-- an object that stands becomes ours -/
theorem HpOk.add {a : Addr} {o : AO} {ah : AH} (p : HpOk G η H ah) (n : a ∉ η) (ok : AOk G (η ++ [a]) H a o) : HpOk G (η ++ [a]) H (ah ++ [o]) := by
  refine ⟨by simp [p.len], ?_, fun m b o' e1 e2 => ?_⟩
  · rw [List.nodup_append]
    refine ⟨p.nd, by simp, fun c hc b hb => ?_⟩
    simp at hb
    subst hb
    rintro rfl
    exact n hc
  · by_cases hn : m < η.length
    · rw [List.getElem?_append_left hn] at e1
      rw [List.getElem?_append_left (by rw [← p.len]; exact hn)] at e2
      exact (p.ok m b o' e1 e2).keep (List.prefix_append _ _) (Same.refl _)
    · rw [List.getElem?_append_right (by omega)] at e1
      rw [List.getElem?_append_right (by rw [← p.len]; omega)] at e2
      rw [p.len] at e1
      have h0 : m - ah.length = 0 := by
        have := (List.getElem?_eq_some_iff.mp e1).1
        simp at this
        omega
      rw [h0] at e1 e2
      simp at e1 e2
      subst e1; subst e2
      exact ok
/-- nothing more is known of an object -/
theorem HpOk.lose {ah : AH} (p : HpOk G η H ah) (n : Nat) : HpOk G η H (ah.set n .gone) := by
  refine ⟨by rw [List.length_set]; exact p.len, p.nd, fun m a o e1 e2 => ?_⟩
  by_cases h : m = n
  · subst h
    obtain ⟨o2, z, k⟩ := p.at e1
    have hl : m < ah.length := (List.getElem?_eq_some_iff.mp z).1
    rw [List.getElem?_set_self hl] at e2
    cases e2
    exact k.there
  · rw [List.getElem?_set_ne (Ne.symm h)] at e2
    exact p.ok m a o e1 e2
theorem Rel.mv {d : D} {v : V} (r : Rel G η H d v) (m : Mv η H η' H') : Rel G η' H' d v := r.ext m.pre m.ext
theorem RelAll.mv {d : List D} {v : List V} (r : RelAll G η H d v) (m : Mv η H η' H') : RelAll G η' H' d v := r.ext m.pre m.ext
theorem EnvOk.mv {env : AE} {S : L2.St} (r : EnvOk G η H env S) (m : Mv η H η' H') : EnvOk G η' H' env S := r.ext m.pre m.ext
end
/-- what is wanted of an exception -/
abbrev XW := WX
def noW : XW := fun _ _ _ _ => False
section
variable (G : KW) (W : XW)
/-- an exception's object: its own dict holds the fields -/
def ExcOk (η : List Addr) (H : Hp) (x : AX) (d : Option Addr) : Prop := ∃ (dd : Addr) (vs : List (Str × V)), d = some dd ∧ dd ∉ η ∧ H dd = some (.xd vs) ∧ vs.map (·.1) = x.fs.map (·.1) ∧ RelAll G η H (x.fs.map (·.2)) (vs.map (·.2))
/-- what stands behind a reading -/
def Post {α : Type} (η : List Addr) (H : Hp) (r : Res α) (Q : α → List Addr → Hp → AH → Prop) : Prop := match r with
  | .ok d ah' => ∀ η' H', Mv η H η' H' → HpOk G η' H' ah' → Q d η' H' ah'
  | .exc x env' ah' => ∀ η' H' d S', Mv η H η' H' → HpOk G η' H' ah' → ExcOk G η' H' x d → (∀ dd, d = some dd → H dd = none) → EnvOk G η' H' env' S' → W (.ref (He.ga G.K x.cls)) d S' H'
  | .bad => False
/-- behind: the value is told -/
def QV (Q : VK) : D → List Addr → Hp → AH → Prop := fun d η H _ => ∀ v, Rel G η H d v → Q v H
end
section
variable {G : KW} {W : XW}
theorem Post.imp {α : Type} {η η1 : List Addr} {H H1 : Hp} {r : Res α} {Q Q' : α → List Addr → Hp → AH → Prop} (h : Post G W η H r Q) (m : Mv η H η1 H1) (k : ∀ d η' H' ah', Mv η1 H1 η' H' → HpOk G η' H' ah' → Q d η' H' ah' → Q' d η' H' ah') :
    Post G W η1 H1 r Q' := by
  cases r with
  | ok d ah' => exact fun η' H' m' p => k d η' H' ah' m' p (h η' H' (m.trans m') p)
  | exc x env' ah' => exact fun η' H' d S' m' p q n => h η' H' d S' (m.trans m') p q (m.fresh n)
  | bad => exact h
theorem Post.imp0 {α : Type} {η : List Addr} {H : Hp} {r : Res α} {Q Q' : α → List Addr → Hp → AH → Prop} (h : Post G W η H r Q) (k : ∀ d η' H' ah', Mv η H η' H' → HpOk G η' H' ah' → Q d η' H' ah' → Q' d η' H' ah') :
    Post G W η H r Q' := h.imp Mv.refl k
theorem Post.mono {α : Type} {η η1 : List Addr} {H H1 : Hp} {r : Res α} {Q : α → List Addr → Hp → AH → Prop} (h : Post G W η H r Q) (m : Mv η H η1 H1) : Post G W η1 H1 r Q := h.imp m fun _ _ _ _ _ _ q => q
theorem Post.bind {α β : Type} {η : List Addr} {H : Hp} {r : Res α} {k : α → AH → Res β} {Q : β → List Addr → Hp → AH → Prop} (h : Post G W η H (r.bind k) Q) :
    Post G W η H r fun d η' H' ah' => Post G W η' H' (k d ah') Q := by
  cases r with
  | ok d ah' => exact fun η' H' m p => h.mono m
  | exc x env' ah' => exact h
  | bad => exact h
/-- .. the rest stays told from the base -/
theorem Post.bindB {α β : Type} {η η1 : List Addr} {H H1 : Hp} {r : Res α} {k : α → AH → Res β} {Q : β → List Addr → Hp → AH → Prop} (h : Post G W η1 H1 (r.bind k) Q) (m : Mv η1 H1 η H) :
    Post G W η H r fun d _ _ ah' => Post G W η1 H1 (k d ah') Q := by
  cases r with
  | ok d ah' => exact fun η' H' _ p => h
  | exc x env' ah' => exact fun η' H' d S' m' p q n => h η' H' d S' (m.trans m') p q (m.fresh n)
  | bad => exact h
theorem Post.at {α : Type} {η : List Addr} {H : Hp} {d : α} {ah : AH} {Q : α → List Addr → Hp → AH → Prop} (h : Post G W η H (.ok d ah) Q) (p : HpOk G η H ah) : Q d η H ah := h η H Mv.refl p
theorem Post.nox {α : Type} {W' : XW} {η : List Addr} {H : Hp} {r : Res α} {Q : α → List Addr → Hp → AH → Prop} (h : Post G W η H r.nox Q) : Post G W' η H r Q := by
  cases r with
  | ok d ah' => exact h
  | exc x env' ah' => exact h.elim
  | bad => exact h
end
/-- an expression, by its function -/
def SJ (G : KW) (W : XW) (f : FE) : TE := fun S H Q => ∃ (env : AE) (ah : AH) (η : List Addr), EnvOk G η H env S ∧ HpOk G η H ah ∧ Post G W η H (f env ah) (QV G Q)
/-- weaken a reading -/
theorem PE.imp {X : Cx} {e : Expr} {t t' : TE} (h : PE X e t) (k : ∀ S H Q, t' S H Q → t S H Q) : PE X e t' := ⟨fun pins s σ H Q I q => h.run pins s σ H Q I (k σ H Q q)⟩
theorem PT.imp {X : Cx} {e : Expr} {t t' : TT} (h : PT X e t) (k : ∀ S H Q, t' S H Q → t S H Q) : PT X e t' := ⟨fun pins s σ H Q I q => h.run pins s σ H Q I (k σ H Q q)⟩
theorem PA.imp {X : Cx} {e : List Expr} {t t' : TA} (h : PA X e t) (k : ∀ S H Q, t' S H Q → t S H Q) : PA X e t' := ⟨fun pos pins s σ H Q I q => h.run pos pins s σ H Q I (k σ H Q q)⟩
theorem PS.imp {X : Cx} {e : Stmt} {t t' : TS} (h : PS X e t) (k : ∀ D S H, t' D S H → t D S H) : PS X e t' := ⟨fun pins s σ H D I q => h.run pins s σ H D I (k D σ H q)⟩
theorem PSs.imp {X : Cx} {e : List Stmt} {t t' : TS} (h : PSs X e t) (k : ∀ D S H, t' D S H → t D S H) : PSs X e t' := ⟨fun pins s σ H D I q => h.run pins s σ H D I (k D σ H q)⟩
theorem PI.imp {X : Cx} {tg e : Expr} {t t' : TI} (h : PI X tg e t) (k : ∀ S H R, t' S H R → t S H R) : PI X tg e t' := ⟨fun pins s σ H R I q => h.run pins s σ H R I (k σ H R q)⟩
theorem PG.imp {X : Cx} {e : Expr} {t t' : TG} (h : PG X e t) (k : ∀ v S H Q, t' v S H Q → t v S H Q) : PG X e t' := ⟨fun pins s σ H v u Q I r q => h.run pins s σ H v u Q I r (k v σ H Q q)⟩
theorem PGs.imp {X : Cx} {e : List Expr} {t t' : TGs} (h : PGs X e t) (k : ∀ v S H Q, t' v S H Q → t v S H Q) : PGs X e t' := ⟨fun pins s σ H v u Q I r q => h.run pins s σ H v u Q I r (k v σ H Q q)⟩
theorem PTs.imp {X : Cx} {e : List Expr} {t t' : TT} (h : PTs X e t) (k : ∀ S H Q, t' S H Q → t S H Q) : PTs X e t' := ⟨fun pins s σ H Q I q => h.run pins s σ H Q I (k σ H Q q)⟩
/-- the value's list (dict) is frozen behind an expression, where that is wanted -/
theorem pe_fz {X : Cx} {e : Expr} {t : TE} (h : PE X e t) : PE X e fun S H Q => t S H fun v H1 => Q v H1 ∨ ∃ a u, v = .ref a ∧ H1 a = some u ∧ Mut (some u) ∧ ∀ od, Q v (upd H1 a (.frz od u)) := by
  refine ⟨fun pins s σ H Q I q => ?_⟩
  refine thn (h.run pins s σ H _ I q) fun w s1 ⟨v, H1, I1, r1, q1⟩ => ?_
  rcases q1 with q1 | ⟨a, u, rfl, ha, hm, q1⟩
  · exact ⟨v, H1, I1, r1, q1⟩
  · obtain ⟨od, I2⟩ := I1.lock ha hm
    exact ⟨.ref a, _, I2, r1, q1 od⟩
end DL
namespace DL
open PySem PySem.Spec PyProof.Rows L2
abbrev SX (X : Cx) (W : XW) (f : FE) : TE := SJ (gX X) W f
/-- wanted, or wanted behind a freeze -/
def QF (Q : VK) : VK := fun v H1 => Q v H1 ∨ ∃ a u, v = .ref a ∧ H1 a = some u ∧ Mut (some u) ∧ ∀ od, Q v (upd H1 a (.frz od u))
/-- a sequence's items; true: a tuple -/
def seqD (ah : AH) : D → Option (Bool × List D)
  | .tup ds => some (true, ds)
  | .ct ds => some (true, ds)
  | .lst ds => some (false, ds)
  | .ref n => match ah[n]? with
    | some (.lst ds) => some (false, ds)
    | some (.fz (.lst ds)) => some (false, ds)
    | _ => none
  | _ => none
def keyD : D → Option Key
  | .int i => some (.inl i)
  | .str x => some (.inr x)
  | _ => none
def keysL : List D → Option (List Key)
  | [] => some []
  | d :: ds => match keyD d, keysL ds with
    | some k, some ks => some (k :: ks)
    | _, _ => none
def dkD (ah : AH) : D → Option (List Key × List D)
  | .dk ks xs => some (ks, xs)
  | .ref n => match ah[n]? with
    | some (.dk ks xs) => some (ks, xs)
    | some (.fz (.dk ks xs)) => some (ks, xs)
    | _ => none
  | _ => none
def dtD (ah : AH) : D → Option (List (List Key) × List D)
  | .dt ks xs => some (ks, xs)
  | .ref n => match ah[n]? with
    | some (.dt ks xs) => some (ks, xs)
    | some (.fz (.dt ks xs)) => some (ks, xs)
    | _ => none
  | _ => none
def lkD {κ : Type} [DecidableEq κ] : List κ → List D → κ → Option D
  | k :: ks, d :: ds, q => if k = q then some d else lkD ks ds q
  | _, _, _ => none
def hasD {κ : Type} [DecidableEq κ] (ks : List κ) (q : κ) : Bool := ks.any fun k => decide (k = q)
/-- the values behind d[q] = e -/
def ptV {κ : Type} [DecidableEq κ] : List κ → List D → κ → D → List D
  | k :: ks, d :: ds, q, e => (if k = q then e else d) :: ptV ks ds q e
  | _, _, _, _ => []
def ptD {κ : Type} [DecidableEq κ] (ks : List κ) (ds : List D) (q : κ) (e : D) : List κ × List D :=
  if hasD ks q then (ks, ptV ks ds q e) else (ks ++ [q], ds ++ [e])
section
variable {G : KW} {η : List Addr} {H : Hp} {ah : AH} {d : D} {v : V}
theorem seq_rel {b : Bool} {ds : List D} (p : HpOk G η H ah) (r : Rel G η H d v) (e : seqD ah d = some (b, ds)) :
    ∃ a vs, v = .ref a ∧ RelAll G η H ds vs ∧ (b = true → SqT G.K H a vs) ∧ (b = false → Rd H a (.lst vs)) := by
  cases r with
  | tup h r => cases e; exact ⟨_, _, rfl, r, (fun _ => .inl (.inl h)), fun z => Bool.noConfusion z⟩
  | ct h r => cases e; exact ⟨_, _, rfl, r, (fun _ => h.sqt), fun z => Bool.noConfusion z⟩
  | lst h r => cases e; exact ⟨_, _, rfl, r, (fun z => Bool.noConfusion z), fun _ => h.rd⟩
  | ref hn =>
    obtain ⟨o, ho, k⟩ := p.at hn
    simp only [seqD, ho] at e
    cases o with
    | lst xs => cases e; obtain ⟨vs, h1, h2⟩ := k; exact ⟨_, vs, rfl, h2, (fun z => Bool.noConfusion z), fun _ => .inl h1⟩
    | fz d =>
      cases d with
      | lst xs => cases e; obtain ⟨_, h2⟩ := k; cases h2 with | lst h r => exact ⟨_, _, rfl, r, (fun z => Bool.noConfusion z), fun _ => h.rd⟩
      | _ => cases e
    | _ => cases e
  | _ => cases e
theorem keyD_rel {k : Key} (r : Rel G η H d v) (e : keyD d = some k) : v = kV k := by
  cases r <;> cases e <;> rfl
theorem keysL_rel : ∀ {ds : List D} {vs : List V} {ks : List Key}, RelAll G η H ds vs → keysL ds = some ks → vs = ks.map kV
  | _, _, _, .nil, e => by cases e; rfl
  | d :: ds, _, ks, .cons h r, e => by
    simp only [keysL] at e
    split at e
    · rename_i k ks' h1 h2
      cases e
      rw [List.map_cons, keyD_rel h h1, ← keysL_rel r h2]
    · cases e
theorem lk_some {κ : Type} [DecidableEq κ] : ∀ {kvs : List (κ × V)} {ks : List κ} {ds : List D} {q : κ} {e : D}, kvs.map (·.1) = ks → RelAll G η H ds (kvs.map (·.2)) → lkD ks ds q = some e → ∃ v, valV kvs q = some v ∧ Rel G η H e v
  | [], _, _, _, _, hk, r, h => by subst hk; cases r; cases h
  | (k, w) :: kvs, _, _, q, e, hk, r, h => by
    subst hk
    cases r with
    | cons h1 r =>
      simp only [List.map_cons, lkD] at h
      by_cases e1 : k = q
      · rw [if_pos e1] at h
        cases h
        exact ⟨w, valV_pos (p := (k, w)) e1, h1⟩
      · rw [if_neg e1] at h
        rw [valV_neg (p := (k, w)) e1]
        exact lk_some rfl r h
theorem lk_none {κ : Type} [DecidableEq κ] : ∀ {kvs : List (κ × V)} {ks : List κ} {ds : List D} {q : κ}, kvs.map (·.1) = ks → RelAll G η H ds (kvs.map (·.2)) → lkD ks ds q = none → valV kvs q = none
  | [], _, _, _, hk, r, h => rfl
  | (k, w) :: kvs, _, _, q, hk, r, h => by
    subst hk
    cases r with
    | cons h1 r =>
      simp only [List.map_cons, lkD] at h
      by_cases e1 : k = q
      · rw [if_pos e1] at h; cases h
      · rw [if_neg e1] at h
        rw [valV_neg (p := (k, w)) e1]
        exact lk_none rfl r h
theorem has_any {κ : Type} [DecidableEq κ] {kvs : List (κ × V)} {ks : List κ} (hk : kvs.map (·.1) = ks) (q : κ) : (kvs.any fun kv => decide (kv.1 = q)) = hasD ks q := by
  subst hk
  unfold hasD
  rw [List.any_map]
  rfl
theorem ptV_rel {κ : Type} [DecidableEq κ] {q : κ} {e : D} {w : V} (h : Rel G η H e w) : ∀ {kvs : List (κ × V)} {ds : List D}, RelAll G η H ds (kvs.map (·.2)) →
    RelAll G η H (ptV (kvs.map (·.1)) ds q e) ((kvs.map (fun kv => if kv.1 = q then (kv.1, w) else kv)).map (·.2))
  | [], _, r => by cases r; exact .nil
  | (k, u) :: kvs, _, r => by
    cases r with
    | cons h1 r =>
      simp only [List.map_cons, ptV]
      refine .cons ?_ (ptV_rel h r)
      by_cases e1 : k = q
      · rw [if_pos e1, if_pos e1]; exact h
      · rw [if_neg e1, if_neg e1]; exact h1
theorem pt_rel {κ : Type} [DecidableEq κ] {q : κ} {e : D} {w : V} {kvs : List (κ × V)} {ks : List κ} {ds : List D} (h : Rel G η H e w) (hk : kvs.map (·.1) = ks) (r : RelAll G η H ds (kvs.map (·.2))) :
    (putK kvs q w).map (·.1) = (ptD ks ds q e).1 ∧ RelAll G η H (ptD ks ds q e).2 ((putK kvs q w).map (·.2)) := by
  unfold putK ptD
  rw [has_any hk q]
  by_cases c : hasD ks q = true
  · rw [if_pos c, if_pos c]
    subst hk
    refine ⟨?_, ptV_rel h r⟩
    rw [List.map_map]
    refine List.map_congr_left fun kv _ => ?_
    show (if kv.1 = q then (kv.1, w) else kv).1 = kv.1
    split <;> rfl
  · rw [if_neg c, if_neg c]
    subst hk
    exact ⟨by simp, by rw [List.map_append]; exact r.append (.cons h .nil)⟩
end
theorem at_rel {G : KW} {η : List Addr} {H : Hp} {ds : List D} {vs : List V} {i : Int} {d : D} (r : RelAll G η H ds vs) (e : atI ds i = some d) : ∃ v, atI vs i = some v ∧ Rel G η H d v := by
  unfold atI at e ⊢
  rw [← r.length]
  cases h : ixN ds.length i with
  | none => rw [h] at e; cases e
  | some j =>
    rw [h] at e
    exact r.get (i := j) e
section
variable {G : KW} {W : XW} {η : List Addr} {H : Hp} {ah : AH} {Q : VK}
theorem post_val {d : D} {v : V} (p : HpOk G η H ah) (r : Rel G η H d v) (h : Post G W η H (.ok d ah) (QV G Q)) : QF Q v H := .inl (h.at p v r)
theorem post_same {d : D} {v : V} {H' : Hp} (p : HpOk G η H ah) (s : Same H H') (r : Rel G η H' d v) (h : Post G W η H (.ok d ah) (QV G Q)) : Q v H' :=
  h η H' (.same s) (p.same s) v r
theorem post_tup {ds : List D} {vs : List V} {a : Addr} (p : HpOk G η H ah) (r : RelAll G η H ds vs) (h : Post G W η H (.ok (.tup ds) ah) (QV G Q)) (ha : H a = none) : QF Q (.ref a) (upd H a (.tup vs)) :=
  .inl (post_same p (same_new ha) (.tup upd_same (r.mv (.same (same_new ha)))) h)
theorem post_fz {ds : List D} {vs : List V} {a : Addr} (p : HpOk G η H ah) (r : RelAll G η H ds vs) (h : Post G W η H (.ok (.lst ds) ah) (QV G Q)) (ha : H a = none) : QF Q (.ref a) (upd H a (.lst vs)) := by
  refine .inr ⟨a, .lst vs, rfl, upd_same, trivial, fun od => ?_⟩
  rw [upd_upd]
  exact post_same p (same_new ha) (.lst ⟨od, upd_same⟩ (r.mv (.same (same_new ha)))) h
/-- a new list that will change -/
theorem post_mut {ds : List D} {vs : List V} {a : Addr} (p : HpOk G η H ah) (r : RelAll G η H ds vs) (h : Post G W η H (.ok (.ref ah.length) (ah ++ [.lst ds])) (QV G Q)) (ha : H a = none) : QF Q (.ref a) (upd H a (.lst vs)) := by
  have m : Mv η H (η ++ [a]) (upd H a (.lst vs)) := .made ha
  refine .inl (h (η ++ [a]) _ m (p.new ha ⟨vs, upd_same, r.mv m⟩) _ (.ref ?_))
  rw [← p.len, List.getElem?_append_right (Nat.le_refl _)]
  simp
end
def iC (d : D) : FE := fun _ ah => .ok d ah
def iVar (i : Nat) : FE := fun env ah => match env[i]? with
  | some (some d) => .ok d ah
  | _ => .bad
def iBin (o : D → D → AH → Res D) (fa fb : FE) : FE := fun env ah => (fa env ah).bind fun x ah1 => (fb env ah1).bind fun y ah2 => o x y ah2
def iUn (o : D → AH → Res D) (fa : FE) : FE := fun env ah => (fa env ah).bind fun x ah1 => o x ah1
/-- a two-place rule serves an operation -/
def OpOk (G : KW) (W : XW) (r : R2) (o : D → D → AH → Res D) : Prop :=
  ∀ (η : List Addr) (H : Hp) (ah : AH) (x y : D) (v u : V) (Q : VK), HpOk G η H ah → Rel G η H x v → Rel G η H y u → Post G W η H (o x y ah) (QV G Q) → r v u H (QF Q)
def UnOk (G : KW) (W : XW) (r : V → Hp → VK → Prop) (o : D → AH → Res D) : Prop :=
  ∀ (η : List Addr) (H : Hp) (ah : AH) (x : D) (v : V) (Q : VK), HpOk G η H ah → Rel G η H x v → Post G W η H (o x ah) (QV G Q) → r v H (QF Q)
section
variable {X : Cx} {W : XW} {a b e : Expr} {fa fb f : FE} {pos : Pos}
theorem j_int {i : Int} {j : Nat} : PE X (.Constant (.int i) j pos) (SX X W (iC (.int i))) := PE.imp pe_int fun S H Q ⟨env, ah, η, e, p, h⟩ => h.at p _ (.int i)
theorem j_str {x : Str} {j : Nat} (y : Str) (hxy : x = y) : PE X (.Constant (.str x) j pos) (SX X W (iC (.str y))) := PE.imp pe_str fun S H Q ⟨env, ah, η, e, p, h⟩ => h.at p _ (by rw [hxy]; exact .str y)
theorem j_bl {x : Bool} {j : Nat} : PE X (.Constant (.bool x) j pos) (SX X W (iC (.bl x))) := PE.imp pe_bl fun S H Q ⟨env, ah, η, e, p, h⟩ => h.at p _ (.bl x)
theorem j_non {j : Nat} : PE X (.Constant .none j pos) (SX X W (iC .non)) := PE.imp pe_non fun S H Q ⟨env, ah, η, e, p, h⟩ => h.at p _ .non
theorem j_var (i : Nat) {x : Str} (hN : X.N[i]? = some x := by rfl) (hv : Vis X.env.scope x := by first | exact Or.inl rfl | exact Or.inr (Or.inl rfl) | exact Or.inr (Or.inr rfl)) (hd : (x == ("__debug__" : Str)) = false := by decide)
    (hcd : (x == ("__classdict__" : Str)) = false := by decide) : PE X (.Name x pos) (SX X W (iVar i)) := PE.imp (pe_var hN hv hd hcd) fun S H Q ⟨env, ah, η, e, p, h⟩ => by
  unfold iVar at h
  split at h
  · rename_i d hd
    obtain ⟨v, h1, h2⟩ := e.ok i d hd
    exact ⟨v, h1, h.at p v h2⟩
  · exact h.elim
theorem bin2 {G : KW} {r : R2} {o : D → D → AH → Res D} (k : OpOk G W r o) {S : L2.St} {H : Hp} {Q : VK} (h : SJ G W (iBin o fa fb) S H Q) : tOp r (SJ G W fa) (SJ G W fb) S H (QF Q) := by
  obtain ⟨env, ah, η, e, p, h⟩ := h
  have pf := List.prefix_refl η
  refine ⟨env, ah, η, e, p, h.bind.imp0 fun d η1 H1 ah1 m1 p1 q => fun v rv => ?_⟩
  refine ⟨env, ah1, η1, e.mv m1, p1, q.bind.imp0 fun d2 η2 H2 ah2 m2 p2 q2 => fun u ru => ?_⟩
  exact k η2 H2 ah2 d d2 v u Q p2 (rv.mv m2) ru q2
theorem un1 {G : KW} {r : V → Hp → VK → Prop} {o : D → AH → Res D} (k : UnOk G W r o) {S : L2.St} {H : Hp} {Q : VK} (h : SJ G W (iUn o fa) S H Q) : tUn r (SJ G W fa) S H (QF Q) := by
  obtain ⟨env, ah, η, e, p, h⟩ := h
  exact ⟨env, ah, η, e, p, h.bind.imp0 fun d η1 H1 ah1 m1 p1 q => fun v rv => k η1 H1 ah1 d v Q p1 rv q⟩
theorem j_bin {op : Operator} {r : R2} {o : D → D → AH → Res D} (ho : OpR X (binaryOp op) r) (k : OpOk (gX X) W r o) (ha : PE X a (SX X W fa)) (hb : PE X b (SX X W fb)) : PE X (.BinOp a op b pos) (SX X W (iBin o fa fb)) :=
  PE.imp (pe_fz (pe_op ho ha hb)) fun S H Q h => bin2 k h
theorem j_un {op : UnaryOp} {r : V → Hp → VK → Prop} {o : D → AH → Res D} (ho : UnR X (unaryOp op) r) (k : UnOk (gX X) W r o) (ha : PE X a (SX X W fa)) : PE X (.UnaryOp op a pos) (SX X W (iUn o fa)) :=
  PE.imp (pe_fz (pe_un ho ha)) fun S H Q h => un1 k h
theorem j_ix0 {r : R2} {o : D → D → AH → Res D} (ho : IxR X r) (k : OpOk (gX X) W r o) (ha : PE X a (SX X W fa)) (hb : PE X b (SX X W fb)) (hs : PlainIx b := by exact fun _ _ => rfl) : PE X (.Subscript a b pos) (SX X W (iBin o fa fb)) :=
  PE.imp (pe_fz (pe_ix ho ha hb hs)) fun S H Q h => bin2 k h
end
end DL
namespace DL
open PySem PySem.Spec PyProof.Rows L2
mutual
def toPy : D → Option PyData
  | .non => some .none
  | .bl b => some (.bool b)
  | .int i => some (.int i)
  | .str x => some (.str x)
  | .tup ds => match toPyL ds with
    | some ps => some (.tuple ps)
    | none => none
  | .ct ds => match toPyL ds with
    | some ps => some (.tuple ps)
    | none => none
  | .lst ds => match toPyL ds with
    | some ps => some (.list ps)
    | none => none
  | .dk _ _ => none
  | .dt _ _ => none
  | .cd _ _ => none
  | .ref _ => none
  | .fn _ => none
  | .ty _ => none
def toPyL : List D → Option (List PyData)
  | [] => some []
  | d :: ds => match toPy d, toPyL ds with
    | some p, some ps => some (p :: ps)
    | _, _ => none
end
section
variable {G : KW} {η : List Addr} {H : Hp} {ah : AH}
mutual
theorem rel_dp : ∀ (d : D) {v : V} {q : PyData}, Rel G η H d v → toPy d = some q → Dp G.K H v q
  | .non, _, _, r, e => by cases r; simp only [toPy] at e; cases e; exact .non
  | .bl b, _, _, r, e => by cases r; simp only [toPy] at e; cases e; exact .bl b
  | .int b, _, _, r, e => by cases r; simp only [toPy] at e; cases e; exact .int b
  | .str b, _, _, r, e => by cases r; simp only [toPy] at e; cases e; exact .str b
  | .tup ds, _, _, r, e => by
    cases r with
    | tup h r =>
      simp only [toPy] at e
      split at e
      · rename_i ps hp
        cases e
        exact .tup (.inl (.inl h)) (rel_dpL ds r hp)
      · cases e
  | .ct ds, _, _, r, e => by
    cases r with
    | ct h r =>
      simp only [toPy] at e
      split at e
      · rename_i ps hp
        cases e
        exact .tup h.sqt (rel_dpL ds r hp)
      · cases e
  | .lst ds, _, _, r, e => by
    cases r with
    | lst h r =>
      simp only [toPy] at e
      split at e
      · rename_i ps hp
        cases e
        exact .lst h.sq (rel_dpL ds r hp)
      · cases e
  | .dk _ _, _, _, _, e => by simp only [toPy] at e; cases e
  | .dt _ _, _, _, _, e => by simp only [toPy] at e; cases e
  | .cd _ _, _, _, _, e => by simp only [toPy] at e; cases e
  | .ref _, _, _, _, e => by simp only [toPy] at e; cases e
  | .fn _, _, _, _, e => by simp only [toPy] at e; cases e
  | .ty _, _, _, _, e => by simp only [toPy] at e; cases e
theorem rel_dpL : ∀ (ds : List D) {vs : List V} {qs : List PyData}, RelAll G η H ds vs → toPyL ds = some qs → DpAll G.K H vs qs
  | [], _, _, r, e => by cases r; simp only [toPyL] at e; cases e; exact .nil
  | d :: ds, _, _, r, e => by
    cases r with
    | cons h r =>
      simp only [toPyL] at e
      split at e
      · rename_i p ps hp hq
        cases e
        exact .cons (rel_dp d h hp) (rel_dpL ds r hq)
      · cases e
end
end
def rCatL : R2 := fun x y H Q => ∃ l b xs zs, x = .ref l ∧ y = .ref b ∧ Rd H l (.lst xs) ∧ Rd H b (.lst zs) ∧ xs.length + zs.length ≤ sizeLine ∧ ∀ p, H p = none → Q (.ref p) (upd H p (.lst (xs ++ zs)))
section
variable {X : Cx} {W : XW}
theorem lstRd {pnz : List (Addr × Obj)} {σ : L2.St} {H : Hp} {s : Shared} {l : Addr} {xs : List V} (I : Inv X pnz σ H s) (h : Rd H l (.lst xs)) : xs.length ≤ sizeLine ∧ ∃ (its : List Value) (n : Nat), Vals xs its ∧ xs.length = its.length ∧ s.heap.get? l = some { cls := .type "list", data := .seq its.toArray n } := by
  obtain ⟨z, its, n, r, e⟩ := h.ok I.hok
  exact ⟨z, its, n, r, r.length, e⟩
theorem op_catL : OpR X (binaryOp .Add) rCatL := by
  intro pnz s σ H x y v u Q I rx ry h
  obtain ⟨l, b, xs, zs, rfl, rfl, hH, hB, hzz, q⟩ := h
  cases rx
  cases ry
  obtain ⟨z, its, n, r, hl, e⟩ := lstRd I hH
  obtain ⟨z2, its2, n2, r2, hl2, e2⟩ := lstRd I hB
  refine PySem.P.add_list e e2 ?_ (by rw [List.size_toArray, List.size_toArray]; omega)
  have ea : its.toArray ++ its2.toArray = (its ++ its2).toArray := by simp
  rw [ea]
  exact ⟨.ref _, _, I.lnew (t' := s.toks) (r.append r2) (by rw [List.length_append]; omega), rfl, q _ I.fresh⟩
def oAdd (x y : D) (ah : AH) : Res D := match x, y with
  | .int i, .int j => .ok (.int (i + j)) ah
  | .str a, .str b => if a.length + b.length ≤ sizeLine then .ok (.str (a ++ b)) ah else .bad
  | .int i, .bl b => .ok (.int (i + b2i b)) ah
  | x, y => match seqD ah x, seqD ah y with
    | some (true, xs), some (true, ys) => if xs.length + ys.length ≤ sizeLine then (if xs = [] then .ok y ah else if ys = [] then .ok x ah else .ok (.tup (xs ++ ys)) ah) else .bad
    | some (false, xs), some (false, ys) => if xs.length + ys.length ≤ sizeLine then .ok (.lst (xs ++ ys)) ah else .bad
    | _, _ => .bad
def rAddA (K : PySem.W.Frag) : R2 := fun x y H Q => (∃ i j, x = .int i ∧ y = .int j ∧ Q (.int (i + j)) H) ∨ (∃ i j, x = .str i ∧ y = .str j ∧ i.length + j.length ≤ sizeLine ∧ Q (.str (i ++ j)) H) ∨ (∃ i k, x = .int i ∧ y = .bl k ∧ Q (.int (i + b2i k)) H) ∨ rCatA K x y H Q ∨ rCatL x y H Q
theorem op_addA : OpR X (binaryOp .Add) (rAddA X.K) := op_add.or (op_add_str.or (op_add_ib.or (op_catA.or op_catL)))
end
section
variable {G : KW} {W : XW}
theorem nil_rel {η : List Addr} {H : Hp} {ds : List D} {vs : List V} (r : RelAll G η H ds vs) : ds = [] ↔ vs = [] := by
  cases r <;> simp
theorem ok_add : OpOk G W (rAddA G.K) oAdd := by
  intro η H ah x y v u Q p rx ry h
  unfold oAdd at h
  split at h
  · cases rx; cases ry; exact .inl ⟨_, _, rfl, rfl, post_val p (.int _) h⟩
  · cases rx; cases ry
    split at h
    · exact .inr (.inl ⟨_, _, rfl, rfl, by assumption, post_val p (.str _) h⟩)
    · exact h.elim
  · cases rx; cases ry; exact .inr (.inr (.inl ⟨_, _, rfl, rfl, post_val p (.int _) h⟩))
  · split at h
    · rename_i xs ys e1 e2
      split at h
      · rename_i hzz
        obtain ⟨a, vs, rfl, r1, q1, _⟩ := seq_rel p rx e1
        obtain ⟨b, us, rfl, r2, q2, _⟩ := seq_rel p ry e2
        refine .inr (.inr (.inr (.inl ⟨a, b, vs, us, rfl, rfl, q1 rfl, q2 rfl, by rw [← r1.length, ← r2.length]; exact hzz, fun z => ?_, fun z1 z2 => ?_, fun z1 z2 q hq => ?_⟩)))
        · rw [if_pos ((nil_rel r1).mpr z)] at h; exact post_val p ry h
        · rw [if_neg (fun z => z1 ((nil_rel r1).mp z)), if_pos ((nil_rel r2).mpr z2)] at h; exact post_val p rx h
        · rw [if_neg (fun z => z1 ((nil_rel r1).mp z)), if_neg (fun z => z2 ((nil_rel r2).mp z))] at h; exact post_tup p (r1.append r2) h hq
      · exact h.elim
    · rename_i xs ys e1 e2
      split at h
      · rename_i hzz
        obtain ⟨a, vs, rfl, r1, _, q1⟩ := seq_rel p rx e1
        obtain ⟨b, us, rfl, r2, _, q2⟩ := seq_rel p ry e2
        exact .inr (.inr (.inr (.inr ⟨a, b, vs, us, rfl, rfl, q1 rfl, q2 rfl, by rw [← r1.length, ← r2.length]; exact hzz, fun q hq => post_fz p (r1.append r2) h hq⟩)))
      · exact h.elim
    · exact h.elim
def oI (C : Int → Int → Prop) [∀ i j, Decidable (C i j)] (g : Int → Int → Int) (x y : D) (ah : AH) : Res D := match x, y with
  | .int i, .int j => if C i j then .ok (.int (g i j)) ah else .bad
  | _, _ => .bad
theorem ok_i {C : Int → Int → Prop} [∀ i j, Decidable (C i j)] {g : Int → Int → Int} : OpOk G W (rI C fun i j => .int (g i j)) (oI C g) := by
  intro η H ah x y v u Q p rx ry h
  unfold oI at h
  split at h
  · cases rx; cases ry
    split at h
    · exact ⟨_, _, rfl, rfl, by assumption, post_val p (.int _) h⟩
    · exact h.elim
  · exact h.elim
def oSub (x y : D) (ah : AH) : Res D := match x, y with
  | .int i, .int j => .ok (.int (i - j)) ah
  | _, _ => .bad
theorem ok_sub : OpOk G W (rI0 fun i j => .int (i - j)) oSub := by
  intro η H ah x y v u Q p rx ry h
  unfold oSub at h
  split at h
  · cases rx; cases ry; exact ⟨_, _, rfl, rfl, post_val p (.int _) h⟩
  · exact h.elim
instance : ∀ i j, Decidable (CMul i j) := fun i j => by unfold CMul; infer_instance
instance : ∀ i j, Decidable (CDiv i j) := fun i j => by unfold CDiv; infer_instance
instance : ∀ i j, Decidable (CPow i j) := fun i j => by unfold CPow; infer_instance
def C0 (_ j : Int) : Prop := 0 < j
instance : ∀ i j, Decidable (C0 i j) := fun i j => by unfold C0; infer_instance
def oDiv : D → D → AH → Res D := oI CDiv fun i j => i / j
def oMod : D → D → AH → Res D := oI C0 fun i j => i % j
def oPow : D → D → AH → Res D := oI CPow fun i j => i ^ j.toNat
def oShl : D → D → AH → Res D := oI CPow fun i j => i * 2 ^ j.toNat
def Cnn (_ j : Int) : Prop := 0 ≤ j
instance : ∀ i j, Decidable (Cnn i j) := fun i j => by unfold Cnn; infer_instance
def oShr : D → D → AH → Res D := oI Cnn fun i j => i / 2 ^ j.toNat
def Ct (_ _ : Int) : Prop := True
instance : ∀ i j, Decidable (Ct i j) := fun i j => by unfold Ct; infer_instance
def rRepL : R2 := fun x y H Q => ∃ l k xs, x = .ref l ∧ y = .int k ∧ Rd H l (.lst xs) ∧ -(2 ^ 63) ≤ k ∧ k < 2 ^ 63 ∧ xs.length * k.toNat ≤ sizeLine ∧ ∀ p, H p = none → Q (.ref p) (upd H p (.lst (List.replicate k.toNat xs).flatten))
end
section
variable {X : Cx} {W : XW}
theorem op_repL : OpR X (binaryOp .Mult) rRepL := by
  intro pnz s σ H x y v u Q I rx ry h
  obtain ⟨l, k, xs, rfl, rfl, hH, h1, h2, hzz, q⟩ := h
  rcases hH with hH | ⟨ob, hH⟩
  · exact op_rep pnz s σ H _ _ v u Q I rx ry ⟨l, k, xs, rfl, rfl, hH, h1, h2, hzz, q⟩
  · cases rx
    obtain ⟨t, rfl⟩ := ry
    obtain ⟨z, its, n, r, hl, e⟩ := lstRd I (.inr ⟨ob, hH⟩)
    have hln : its.toArray.size * k.toNat ≤ sizeLine := by rw [List.size_toArray, ← hl]; exact hzz
    have hcap : ¬ its.toArray.size * k.toNat > (2 ^ 63 - 1) / 8 := by
      have : (sizeLine : Nat) ≤ (2 ^ 63 - 1) / 8 := by decide
      omega
    have hfit : ¬ (!Builtin.List.listFitsIndex k) = true := by
      rw [fitsIndex_both h1 h2]
      exact Bool.false_ne_true
    have hlong : ¬ Builtin.List.listTooLong (its.toArray.size * k.toNat) = true := by
      rw [notLongL hln]
      exact Bool.false_ne_true
    have hnew : List.foldl (fun a b => a ++ b) #[] (List.replicate (if its.toArray.isEmpty = true then 0 else k.toNat) its.toArray) = (List.replicate k.toNat its).flatten.toArray := by
      have f0 : ∀ m : Nat, List.foldl (fun a b => a ++ b) #[] (List.replicate m its.toArray) = (List.replicate m its).flatten.toArray := fun m => by simpa using foldl_rep its m []
      rw [f0]
      cases its with
      | nil => simp
      | cons _ _ => rw [if_neg (by simp)]
    refine wpAny_binaryOp_repeat_ref (T := "list") (U := "int") (by decide) ⟨_, e, rfl⟩ (fun z => typeIs_int z k t) noFill_list_mul F.fills_int_mul
      F.slot_int_rmul repeat_list F.slot_int_index.lookup (call_meets F.slot_int_rmul (typeIs_int s k t) F.entry_int_rmul
      (F.args_int_rmul_2 _ _) (int___rmul___int_list k t l its.toArray n) ⟨e, rfl, ⟨_, e, rfl⟩,
      call_meets F.slot_list_mul ⟨_, e, rfl⟩ F.entry_list_mul (F.args_list_mul_2 _ _)
      (AutoListH.list___mul___list_int_3 l its.toArray n k t hfit hcap hlong) ⟨e, ?_⟩⟩)
    rw [hnew]
    exact ⟨.ref _, _, I.lnew (t' := s.toks) (r.rep k.toNat) (by rw [PyProof.Rows.lm_len_rep_flat, Nat.mul_comm]; exact hzz), rfl, q _ I.fresh⟩
end
section
variable {X : Cx} {G : KW} {W : XW}
def oMul (x y : D) (ah : AH) : Res D := match x, y with
  | .int i, .int j => if CMul i j then .ok (.int (i * j)) ah else .bad
  | x, .int k => match seqD ah x with
    | some (false, xs) => if -(2 ^ 63) ≤ k ∧ k < 2 ^ 63 ∧ xs.length * k.toNat ≤ sizeLine then .ok (.lst (List.replicate k.toNat xs).flatten) ah else .bad
    | some (true, xs) => if xs ≠ [] ∧ 2 ≤ k ∧ k ≤ 1000 ∧ xs.length ≤ 1000 then .ok (.tup (List.replicate k.toNat xs).flatten) ah else .bad
    | _ => .bad
  | _, _ => .bad
/-- the list will change -/
def oMulM (x y : D) (ah : AH) : Res D := match y with
  | .int k => match seqD ah x with
    | some (false, xs) => if -(2 ^ 63) ≤ k ∧ k < 2 ^ 63 ∧ xs.length * k.toNat ≤ sizeLine then .ok (.ref ah.length) (ah ++ [.lst (List.replicate k.toNat xs).flatten]) else .bad
    | _ => .bad
  | _ => .bad
def rMulA (K : PySem.W.Frag) : R2 := fun x y H Q => rI CMul (fun i j => .int (i * j)) x y H Q ∨ rRepL x y H Q ∨ rRepT K x y H Q
theorem op_mulA : OpR X (binaryOp .Mult) (rMulA X.K) := op_mul.or (op_repL.or op_repT)
theorem ok_mul : OpOk G W (rMulA G.K) oMul := by
  intro η H ah x y v u Q p rx ry h
  unfold oMul at h
  split at h
  · cases rx; cases ry
    split at h
    · exact .inl ⟨_, _, rfl, rfl, by assumption, post_val p (.int _) h⟩
    · exact h.elim
  · cases ry
    split at h
    · rename_i xs e1
      split at h
      · rename_i hzz
        obtain ⟨a, vs, rfl, r1, _, q1⟩ := seq_rel p rx e1
        exact .inr (.inl ⟨a, _, vs, rfl, rfl, q1 rfl, hzz.1, hzz.2.1, by rw [← r1.length]; exact hzz.2.2, fun q hq => post_fz p (r1.repL _) h hq⟩)
      · exact h.elim
    · rename_i xs e1
      split at h
      · rename_i hzz
        obtain ⟨a, vs, rfl, r1, q1, _⟩ := seq_rel p rx e1
        exact .inr (.inr ⟨a, _, vs, rfl, rfl, q1 rfl, fun z => hzz.1 ((nil_rel r1).mpr z), hzz.2.1, hzz.2.2.1, by rw [← r1.length]; exact hzz.2.2.2, fun q hq => post_tup p (r1.repL _) h hq⟩)
      · exact h.elim
    · exact h.elim
  · exact h.elim
theorem ok_mulM : OpOk G W (rMulA G.K) oMulM := by
  intro η H ah x y v u Q p rx ry h
  unfold oMulM at h
  split at h
  · cases ry
    split at h
    · rename_i xs e1
      split at h
      · rename_i hzz
        obtain ⟨a, vs, rfl, r1, _, q1⟩ := seq_rel p rx e1
        exact .inr (.inl ⟨a, _, vs, rfl, rfl, q1 rfl, hzz.1, hzz.2.1, by rw [← r1.length]; exact hzz.2.2, fun q hq => post_mut p (r1.repL _) h hq⟩)
      · exact h.elim
    · exact h.elim
  · exact h.elim
/-- scalars -/
def scalD : D → D → Option Bool
  | .non, .non => some true
  | .non, .int _ => some false
  | .int _, .non => some false
  | .non, .bl _ => some false
  | .bl _, .non => some false
  | .non, .str _ => some false
  | .str _, .non => some false
  | .int i, .int j => some (decide (i = j))
  | .bl i, .bl j => some (decide (i = j))
  | .str i, .str j => some (decide (i = j))
  | .int _, .str _ => some false
  | .str _, .int _ => some false
  | .bl _, .str _ => some false
  | .str _, .bl _ => some false
  | _, _ => none
def eqD (x y : D) : Option Bool := match scalD x y with
  | some b => some b
  | none => match toPy x, toPy y with
    | some p, some q => if SeqAt.shaped p = true ∧ SeqAt.shaped q = true then some (PyData.eqv p q) else none
    | _, _ => none
def oEq (x y : D) (ah : AH) : Res D := match eqD x y with
  | some b => .ok (.bl b) ah
  | none => .bad
def oNe (x y : D) (ah : AH) : Res D := match eqD x y with
  | some b => .ok (.bl (!b)) ah
  | none => .bad
theorem scal_rel {η : List Addr} {H : Hp} {x y : D} {v u : V} {b : Bool} (rx : Rel G η H x v) (ry : Rel G η H y u) (e : scalD x y = some b) : scal v u = true ∧ decide (v = u) = b := by
  unfold scalD at e
  split at e <;> first
    | (cases e; done)
    | (cases rx; cases ry; cases e; refine ⟨rfl, ?_⟩; first | rfl | (simp; done) | (rw [Bool.eq_iff_iff]; simp))
def rEqA (K : PySem.W.Frag) : R2 := fun x y H Q => rEq x y H Q ∨ rEqD K x y H Q
def rNeA (K : PySem.W.Frag) : R2 := fun x y H Q => rNe x y H Q ∨ rNeD K x y H Q
theorem op_eqA (hu : X.A.units + 64 < cLine) : OpR X (compareOp .Eq) (rEqA X.K) := op_eq.or (op_eqD hu)
theorem op_neA (hu : X.A.units + 64 < cLine) : OpR X (compareOp .NotEq) (rNeA X.K) := op_ne.or (op_neD hu)
theorem ok_eq : OpOk G W (rEqA G.K) oEq := by
  intro η H ah x y v u Q p rx ry h
  unfold oEq eqD at h
  cases e : scalD x y with
  | some b =>
    simp only [e] at h
    obtain ⟨h1, h2⟩ := scal_rel rx ry e
    exact .inl ⟨h1, by rw [h2]; exact post_val p (.bl b) h⟩
  | none =>
    simp only [e] at h
    cases e1 : toPy x with
    | none => simp only [e1] at h; exact h.elim
    | some q1 =>
      cases e2 : toPy y with
      | none => simp only [e1, e2] at h; exact h.elim
      | some q2 =>
        simp only [e1, e2] at h
        by_cases c : SeqAt.shaped q1 = true ∧ SeqAt.shaped q2 = true
        · simp only [if_pos c] at h
          exact .inr ⟨q1, q2, rel_dp x rx e1, rel_dp y ry e2, c.1, c.2, post_val p (.bl _) h⟩
        · simp only [if_neg c] at h; exact h.elim
theorem ok_ne : OpOk G W (rNeA G.K) oNe := by
  intro η H ah x y v u Q p rx ry h
  unfold oNe eqD at h
  cases e : scalD x y with
  | some b =>
    simp only [e] at h
    obtain ⟨h1, h2⟩ := scal_rel rx ry e
    exact .inl ⟨h1, by rw [h2]; exact post_val p (.bl (!b)) h⟩
  | none =>
    simp only [e] at h
    cases e1 : toPy x with
    | none => simp only [e1] at h; exact h.elim
    | some q1 =>
      cases e2 : toPy y with
      | none => simp only [e1, e2] at h; exact h.elim
      | some q2 =>
        simp only [e1, e2] at h
        by_cases c : SeqAt.shaped q1 = true ∧ SeqAt.shaped q2 = true
        · simp only [if_pos c] at h
          exact .inr ⟨q1, q2, rel_dp x rx e1, rel_dp y ry e2, c.1, c.2, post_val p (.bl _) h⟩
        · simp only [if_neg c] at h; exact h.elim
def oCmp (pi : Int → Int → Bool) (ps : Str → Str → Bool) (x y : D) (ah : AH) : Res D := match x, y with
  | .int i, .int j => .ok (.bl (pi i j)) ah
  | .str i, .str j => .ok (.bl (ps i j)) ah
  | _, _ => .bad
def rCmpA (pi : Int → Int → Bool) (ps : Str → Str → Bool) : R2 := fun x y H Q => rI0 (fun i j => .bl (pi i j)) x y H Q ∨ ∃ i j, x = .str i ∧ y = .str j ∧ Q (.bl (ps i j)) H
theorem ok_cmp {pi : Int → Int → Bool} {ps : Str → Str → Bool} : OpOk G W (rCmpA pi ps) (oCmp pi ps) := by
  intro η H ah x y v u Q p rx ry h
  unfold oCmp at h
  split at h
  · cases rx; cases ry; exact .inl ⟨_, _, rfl, rfl, post_val p (.bl _) h⟩
  · cases rx; cases ry; exact .inr ⟨_, _, rfl, rfl, post_val p (.bl _) h⟩
  · exact h.elim
def oLt : D → D → AH → Res D := oCmp (fun i j => decide (i < j)) fun i j => decide (i.cps.toList < j.cps.toList)
def oLe : D → D → AH → Res D := oCmp (fun i j => decide (i ≤ j)) fun i j => !decide (j.cps.toList < i.cps.toList)
def oGt : D → D → AH → Res D := oCmp (fun i j => decide (j < i)) fun i j => decide (j.cps.toList < i.cps.toList)
def oGe : D → D → AH → Res D := oCmp (fun i j => decide (j ≤ i)) fun i j => !decide (i.cps.toList < j.cps.toList)
theorem op_ltA : OpR X (compareOp .Lt) (rCmpA (fun i j => decide (i < j)) fun i j => decide (i.cps.toList < j.cps.toList)) := op_lt.or op_lt_str
theorem op_leA : OpR X (compareOp .LtE) (rCmpA (fun i j => decide (i ≤ j)) fun i j => !decide (j.cps.toList < i.cps.toList)) := op_le.or op_le_str
theorem op_gtA : OpR X (compareOp .Gt) (rCmpA (fun i j => decide (j < i)) fun i j => decide (j.cps.toList < i.cps.toList)) := op_gt.or op_gt_str
theorem op_geA : OpR X (compareOp .GtE) (rCmpA (fun i j => decide (j ≤ i)) fun i j => !decide (i.cps.toList < j.cps.toList)) := op_ge.or op_ge_str
def isNonD : D → Bool
  | .non => true
  | _ => false
def isD (x y : D) : Option Bool := match y with
  | .non => some (isNonD x)
  | .bl b => match x with | .bl a => some (decide (a = b)) | _ => none
  | _ => none
def oIs (x y : D) (ah : AH) : Res D := match isD x y with
  | some b => .ok (.bl b) ah
  | none => .bad
def oIsNot (x y : D) (ah : AH) : Res D := match isD x y with
  | some b => .ok (.bl (!b)) ah
  | none => .bad
def rIsA : R2 := fun x y H Q => (y = .non ∧ Q (.bl (decide (x = .non))) H) ∨ rIsB x y H Q
def rIsNotA : R2 := fun x y H Q => (y = .non ∧ Q (.bl (!decide (x = .non))) H) ∨ rNotB x y H Q
theorem op_isA : OpR X (compareOp .Is) rIsA := op_isN.or op_isBl
theorem op_isNotA : OpR X (compareOp .IsNot) rIsNotA := op_notN.or op_notBl
theorem non_rel {η : List Addr} {H : Hp} {x : D} {v : V} (rx : Rel G η H x v) : isNonD x = decide (v = .non) := by
  cases rx <;> simp [isNonD]
theorem ok_is : OpOk G W rIsA oIs := by
  intro η H ah x y v u Q p rx ry h
  unfold oIs isD at h
  cases ry with
  | non => exact .inl ⟨rfl, by rw [← non_rel rx]; exact post_val p (.bl _) h⟩
  | bl b =>
    cases rx with
    | bl a => exact .inr ⟨a, b, rfl, rfl, post_val p (.bl _) h⟩
    | _ => exact h.elim
  | _ => exact h.elim
theorem ok_isNot : OpOk G W rIsNotA oIsNot := by
  intro η H ah x y v u Q p rx ry h
  unfold oIsNot isD at h
  cases ry with
  | non => exact .inl ⟨rfl, by rw [← non_rel rx]; exact post_val p (.bl _) h⟩
  | bl b =>
    cases rx with
    | bl a => exact .inr ⟨a, b, rfl, rfl, post_val p (.bl _) h⟩
    | _ => exact h.elim
  | _ => exact h.elim
def flatD : D → Option V
  | .non => some .non
  | .bl b => some (.bl b)
  | .int i => some (.int i)
  | .str x => some (.str x)
  | _ => none
def flatL : List D → Option (List V)
  | [] => some []
  | d :: ds => match flatD d, flatL ds with
    | some v, some vs => some (v :: vs)
    | _, _ => none
/-- what d is said to hold, of a key -/
def dgD (ah : AH) (d k : D) : Option (Option D) := match dkD ah d with
  | some (ks, xs) => match keyD k with
    | some q => some (lkD ks xs q)
    | none => none
  | none => match dtD ah d with
    | some (ks, xs) => match k with
      | .tup ds => match keysL ds with
        | some q => some (lkD ks xs q)
        | none => none
      | _ => none
    | none => none
def oInB (ah : AH) (x y : D) : Option Bool := match y with
  | .str z => match x with
    | .str i => some (match i.cps.toList with
      | [c] => decide (c ∈ z.cps.toList)
      | _ => !(Builtin.Str.occurrences z i 0 z.length 1).isEmpty)
    | _ => none
  | y => match seqD ah y with
    | some (_, ds) => match flatD x, flatL ds with
      | some v, some vs => some (inV v vs)
      | _, _ => match toPy x, toPy (.lst ds), y with
        | some p, some (.list qs), .lst _ => if SeqAt.shaped p = true ∧ SeqAt.shaped (.list qs) = true then some (qs.any fun z => PyData.eqv z p) else none
        | _, _, _ => none
    | none => match dgD ah y x with
      | some o => some o.isSome
      | none => none
def oIn (x y : D) (ah : AH) : Res D := match oInB ah x y with
  | some b => .ok (.bl b) ah
  | none => .bad
def oNotIn (x y : D) (ah : AH) : Res D := match oInB ah x y with
  | some b => .ok (.bl (!b)) ah
  | none => .bad
theorem flat_rel {η : List Addr} {H : Hp} {x : D} {v w : V} (rx : Rel G η H x v) (e : flatD x = some w) : v = w ∧ flatV v = true := by
  cases rx <;> cases e <;> exact ⟨rfl, rfl⟩
theorem flatL_rel {η : List Addr} {H : Hp} : ∀ {ds : List D} {vs ws : List V}, RelAll G η H ds vs → flatL ds = some ws → vs = ws ∧ vs.all flatV = true
  | _, _, _, .nil, e => by cases e; exact ⟨rfl, rfl⟩
  | d :: ds, _, ws, .cons h r, e => by
    simp only [flatL] at e
    split at e
    · rename_i v vs h1 h2
      cases e
      obtain ⟨rfl, f1⟩ := flat_rel h h1
      obtain ⟨rfl, f2⟩ := flatL_rel r h2
      exact ⟨rfl, by rw [List.all_cons, f1, f2]; rfl⟩
    · cases e
theorem dk_rel {η : List Addr} {H : Hp} {ah : AH} {d : D} {v : V} {ks : List Key} {xs : List D} (p : HpOk G η H ah) (r : Rel G η H d v) (e : dkD ah d = some (ks, xs)) :
    ∃ a kvs, v = .ref a ∧ Rd H a (.dK kvs) ∧ kvs.map (·.1) = ks ∧ RelAll G η H xs (kvs.map (·.2)) := by
  cases r with
  | dk h k r => cases e; exact ⟨_, _, rfl, .inr ⟨_, h⟩, k, r⟩
  | ref hn =>
    obtain ⟨o, ho, k⟩ := p.at hn
    simp only [dkD, ho] at e
    cases o with
    | dk ks xs => cases e; obtain ⟨kvs, h1, h2, h3⟩ := k; exact ⟨_, kvs, rfl, .inl h1, h2, h3⟩
    | fz d =>
      cases d with
      | dk ks xs => cases e; obtain ⟨_, h2⟩ := k; cases h2 with | dk h k r => exact ⟨_, _, rfl, .inr ⟨_, h⟩, k, r⟩
      | _ => cases e
    | _ => cases e
  | _ => cases e
theorem dt_rel {η : List Addr} {H : Hp} {ah : AH} {d : D} {v : V} {ks : List (List Key)} {xs : List D} (p : HpOk G η H ah) (r : Rel G η H d v) (e : dtD ah d = some (ks, xs)) :
    ∃ a kvs, v = .ref a ∧ Rd H a (.dT kvs) ∧ kvs.map (·.1) = ks ∧ RelAll G η H xs (kvs.map (·.2)) := by
  cases r with
  | dt h k r => cases e; exact ⟨_, _, rfl, .inr ⟨_, h⟩, k, r⟩
  | ref hn =>
    obtain ⟨o, ho, k⟩ := p.at hn
    simp only [dtD, ho] at e
    cases o with
    | dt ks xs => cases e; obtain ⟨kvs, h1, h2, h3⟩ := k; exact ⟨_, kvs, rfl, .inl h1, h2, h3⟩
    | fz d =>
      cases d with
      | dt ks xs => cases e; obtain ⟨_, h2⟩ := k; cases h2 with | dt h k r => exact ⟨_, _, rfl, .inr ⟨_, h⟩, k, r⟩
      | _ => cases e
    | _ => cases e
  | _ => cases e
theorem dg_rel {η : List Addr} {H : Hp} {ah : AH} {d k : D} {v u : V} {o : Option D} (p : HpOk G η H ah) (r : Rel G η H d v) (rk : Rel G η H k u) (e : dgD ah d k = some o) :
    ∃ a w, v = .ref a ∧ DGet H a u w ∧ (∀ x, o = some x → ∃ z, w = some z ∧ Rel G η H x z) ∧ (o = none → w = none) := by
  unfold dgD at e
  split at e
  · rename_i ks xs e1
    split at e
    · rename_i q e2
      cases e
      obtain ⟨a, kvs, rfl, h1, h2, h3⟩ := dk_rel p r e1
      refine ⟨a, _, rfl, .inl ⟨kvs, q, h1, keyD_rel rk e2, rfl⟩, fun x hx => ?_, fun hx => lk_none h2 h3 hx⟩
      exact lk_some h2 h3 hx
    · cases e
  · split at e
    · rename_i ks xs e1
      split at e
      · rename_i ds
        split at e
        · rename_i q e2
          cases e
          obtain ⟨a, kvs, rfl, h1, h2, h3⟩ := dt_rel p r e1
          cases rk with
          | tup hb rb =>
            have := keysL_rel rb e2
            subst this
            refine ⟨a, _, rfl, .inr ⟨kvs, q, _, h1, rfl, hb, rfl⟩, fun x hx => ?_, fun hx => lk_none h2 h3 hx⟩
            exact lk_some h2 h3 hx
        · cases e
      · cases e
    · cases e
def rInDct (neg : Bool) : R2 := fun x y H Q => ∃ a o, y = .ref a ∧ DGet H a x o ∧ Q (.bl (if neg then !o.isSome else o.isSome)) H
theorem op_inDct (hu : X.A.units + 1 < cLine) : OpR X (compareOp .In) (rInDct false) := by
  intro pnz s σ H x y v u Q I rx ry h
  obtain ⟨a, o, rfl, g, q⟩ := h
  cases ry
  exact d_in hu I g rx fun s' I' => ⟨.bl o.isSome, H, I', rfl, q⟩
theorem op_notInDct (hu : X.A.units + 1 < cLine) : OpR X (compareOp .NotIn) (rInDct true) := by
  intro pnz s σ H x y v u Q I rx ry h
  obtain ⟨a, o, rfl, g, q⟩ := h
  cases ry
  exact d_notIn hu I g rx fun s' I' => ⟨.bl (!o.isSome), H, I', rfl, q⟩
def rInA (K : PySem.W.Frag) : R2 := fun x y H Q => (∃ (c : Nat) (z : Str), x = .str ⟨#[c]⟩ ∧ y = .str z ∧ Q (.bl (decide (c ∈ z.cps.toList))) H) ∨
  (∃ i j, x = .str i ∧ y = .str j ∧ Q (.bl (!(Builtin.Str.occurrences j i 0 j.length 1).isEmpty)) H) ∨ rIn K false x y H Q ∨ rInD K x y H Q ∨ rInDct false x y H Q
def rNotInA (K : PySem.W.Frag) : R2 := fun x y H Q => (∃ (c : Nat) (z : Str), x = .str ⟨#[c]⟩ ∧ y = .str z ∧ Q (.bl (!decide (c ∈ z.cps.toList))) H) ∨
  (∃ i j, x = .str i ∧ y = .str j ∧ Q (.bl (!(!(Builtin.Str.occurrences j i 0 j.length 1).isEmpty))) H) ∨ rIn K true x y H Q ∨ rNotInD K x y H Q ∨ rInDct true x y H Q
theorem op_inA (hu : X.A.units + 65 < cLine) : OpR X (compareOp .In) (rInA X.K) := op_in_sign.or (op_in_str.or (op_in_seq.or ((op_inD hu).or (op_inDct (by omega)))))
theorem op_notInA (hu : X.A.units + 65 < cLine) : OpR X (compareOp .NotIn) (rNotInA X.K) := op_notIn_sign.or (op_notin_str.or (op_notIn_seq.or ((op_notInD hu).or (op_notInDct (by omega)))))
theorem in_cases {η : List Addr} {H : Hp} {ah : AH} {x y : D} {v u : V} {b : Bool} (p : HpOk G η H ah) (rx : Rel G η H x v) (ry : Rel G η H y u) (e : oInB ah x y = some b) {Q : VK} :
    (Q (.bl b) H → rInA G.K v u H Q) ∧ (Q (.bl (!b)) H → rNotInA G.K v u H Q) := by
  unfold oInB at e
  split at e
  · rename_i z
    cases ry
    split at e
    · rename_i i
      cases rx
      cases e
      split
      · rename_i c hc
        have hi : i = ⟨#[c]⟩ := by
          cases i with | mk a => cases a; simp at hc; subst hc; rfl
        subst hi
        exact ⟨fun q => .inl ⟨c, z, rfl, rfl, q⟩, fun q => .inl ⟨c, z, rfl, rfl, q⟩⟩
      · exact ⟨fun q => .inr (.inl ⟨_, _, rfl, rfl, q⟩), fun q => .inr (.inl ⟨_, _, rfl, rfl, q⟩)⟩
    · cases e
  · split at e
    · rename_i bb ds e1
      split at e
      · rename_i w ws e2 e3
        cases e
        obtain ⟨a, vs, rfl, r1, q1, q2⟩ := seq_rel p ry e1
        obtain ⟨rfl, f1⟩ := flat_rel rx e2
        obtain ⟨rfl, f2⟩ := flatL_rel r1 e3
        have hq : SqL G.K H a vs ∨ SqT G.K H a vs := by
          cases bb with
          | true => exact .inr (q1 rfl)
          | false => exact .inl (.inl (q2 rfl))
        exact ⟨fun q => .inr (.inr (.inl ⟨a, vs, rfl, hq, f1, f2, q⟩)), fun q => .inr (.inr (.inl ⟨a, vs, rfl, hq, f1, f2, q⟩))⟩
      · split at e
        · rename_i p1 qs zs e2 e3 e9
          split at e
          · rename_i hc
            cases e
            simp only [seqD] at e1
            cases e1
            exact ⟨fun q => .inr (.inr (.inr (.inl ⟨p1, qs, rel_dp x rx e2, rel_dp _ ry e3, hc.1, hc.2, q⟩))), fun q => .inr (.inr (.inr (.inl ⟨p1, qs, rel_dp x rx e2, rel_dp _ ry e3, hc.1, hc.2, q⟩)))⟩
          · cases e
        · cases e
    · split at e
      · rename_i o e1
        cases e
        obtain ⟨a, w, rfl, g, h1, h2⟩ := dg_rel p ry rx e1
        have hs : o.isSome = w.isSome := by
          cases o with
          | none => rw [h2 rfl]; rfl
          | some x => obtain ⟨z, rfl, _⟩ := h1 x rfl; rfl
        rw [hs]
        exact ⟨fun q => .inr (.inr (.inr (.inr ⟨a, w, rfl, g, q⟩))), fun q => .inr (.inr (.inr (.inr ⟨a, w, rfl, g, q⟩)))⟩
      · cases e
theorem ok_in : OpOk G W (rInA G.K) oIn := by
  intro η H ah x y v u Q p rx ry h
  unfold oIn at h
  cases e : oInB ah x y with
  | none => simp only [e] at h; exact h.elim
  | some b => simp only [e] at h; exact (in_cases p rx ry e).1 (post_val p (.bl b) h)
theorem ok_notIn : OpOk G W (rNotInA G.K) oNotIn := by
  intro η H ah x y v u Q p rx ry h
  unfold oNotIn at h
  cases e : oInB ah x y with
  | none => simp only [e] at h; exact h.elim
  | some b => simp only [e] at h; exact (in_cases p rx ry e).2 (post_val p (.bl (!b)) h)
end
end DL
namespace DL
open PySem PySem.Spec PyProof.Rows L2
def oIx (x y : D) (ah : AH) : Res D := match y with
  | .int i => match seqD ah x with
    | some (_, ds) => match atI ds i with
      | some d => .ok d ah
      | none => .bad
    | none => match x with
      | .str z => if z.length ≤ sizeLine then (match atI z.cps.toList i with
        | some c => .ok (.str ⟨#[c]⟩) ah
        | none => .bad) else .bad
      | x => match dgD ah x (.int i) with
        | some (some d) => .ok d ah
        | _ => .bad
  | y => match x with
    | .cd ks xs => match y with
      | .str z => match lkD ks xs z with
        | some d => .ok d ah
        | none => .bad
      | _ => .bad
    | x => match dgD ah x y with
      | some (some d) => .ok d ah
      | _ => .bad
section
variable {X : Cx} {G : KW} {W : XW}
def rIxDct : R2 := fun x y H Q => ∃ a w, x = .ref a ∧ DGet H a y (some w) ∧ Q w H
theorem ix_dct (hu : X.A.units + 1 < cLine) : IxR X rIxDct := by
  intro value slice pnz s σ H x y v u Q Iv rx ry h hs
  obtain ⟨a, w, rfl, g, q⟩ := h
  cases rx
  exact tail_any (dict_typeIs Iv g) PySem.F.slot_dict_getitem.lookup (d_getItem hu Iv g ry fun w' s' I' r' => ⟨w, H, I', r', q⟩) hs
def rIxA (K : PySem.W.Frag) (w : World) : R2 := fun x y H Q => rIx K x y H Q ∨ rIxDct x y H Q ∨ rIxD K w x y H Q
theorem ix_all (hu : X.A.units + 1 < cLine) : IxR X (rIxA X.K X.w) := ix_seq.or ((ix_dct hu).or ix_kdict)
theorem cd_rel {η : List Addr} {H : Hp} {a : Addr} : ∀ {ks : List Str} {ds : List D} {vs : List V} {z : Str} {d : D}, (∀ (i : Nat) z v, ks[i]? = some z → vs[i]? = some v → KDct G.K G.w a z v) → RelAll G η H ds vs → lkD ks ds z = some d →
    ∃ v, KDct G.K G.w a z v ∧ Rel G η H d v
  | [], _, _, _, _, _, r, h => by cases h
  | k :: ks, _, _, z, d, hk, .nil, h => by cases h
  | k :: ks, _, _, z, d, hk, .cons h1 r, h => by
    simp only [lkD] at h
    by_cases e : k = z
    · rw [if_pos e] at h
      cases h
      subst e
      exact ⟨_, hk 0 _ _ rfl rfl, h1⟩
    · rw [if_neg e] at h
      exact cd_rel (fun i z v e1 e2 => hk (i + 1) z v (by simpa using e1) (by simpa using e2)) r h
theorem ok_ix : OpOk G W (rIxA G.K G.w) oIx := by
  intro η H ah x y v u Q p rx ry h
  have dct : ∀ d, dgD ah x y = some (some d) → Post G W η H (.ok d ah) (QV G Q) → rIxA G.K G.w v u H (QF Q) := fun d e h => by
    obtain ⟨a, w, rfl, g, h1, _⟩ := dg_rel p rx ry e
    obtain ⟨z, rfl, rz⟩ := h1 d rfl
    exact .inr (.inl ⟨a, z, rfl, g, post_val p rz h⟩)
  unfold oIx at h
  split at h
  · rename_i i
    split at h
    · rename_i b ds e1
      split at h
      · rename_i d e2
        obtain ⟨a, vs, rfl, r1, q1, q2⟩ := seq_rel p rx e1
        obtain ⟨w, hw, rw'⟩ := at_rel r1 e2
        cases ry
        cases b with
        | true => exact .inl (.inr (.inl ⟨a, vs, i, w, rfl, rfl, q1 rfl, hw, post_val p rw' h⟩))
        | false => exact .inl (.inl ⟨a, vs, i, w, rfl, rfl, .inl (q2 rfl), hw, post_val p rw' h⟩)
      · exact h.elim
    · split at h
      · cases rx; cases ry
        split at h
        · split at h
          · exact .inl (.inr (.inr ⟨_, i, _, rfl, rfl, by assumption, by assumption, post_val p (.str _) h⟩))
          · exact h.elim
        · exact h.elim
      · split at h
        · exact dct _ (by assumption) h
        · exact h.elim
  · split at h
    · split at h
      · split at h
        · rename_i e1
          cases ry
          cases rx with
          | cd hk hl r =>
            obtain ⟨w, k1, r1⟩ := cd_rel hk r e1
            exact .inr (.inr ⟨_, _, w, rfl, rfl, k1, post_val p r1 h⟩)
        · exact h.elim
      · exact h.elim
    · split at h
      · exact dct _ (by assumption) h
      · exact h.elim
variable {a b e : Expr} {fa fb f : FE} {pos : Pos}
theorem j_ix (hu : X.A.units + 1 < cLine) (ha : PE X a (SX X W fa)) (hb : PE X b (SX X W fb)) (hs : PlainIx b := by exact fun _ _ => rfl) : PE X (.Subscript a b pos) (SX X W (iBin oIx fa fb)) := j_ix0 (ix_all hu) ok_ix ha hb hs
def cutD (xs : List D) (lo hi : Option Int) : List D := (xs.drop (HT.sIx xs.length 0 lo)).take (HT.sIx xs.length xs.length hi - HT.sIx xs.length 0 lo)
theorem cut_rel {η : List Addr} {H : Hp} {xs : List D} {vs : List V} (r : RelAll G η H xs vs) (lo hi : Option Int) : RelAll G η H (cutD xs lo hi) (cutV vs lo hi) := by
  unfold cutD cutV
  rw [← r.length]
  exact (r.drop _).take _
abbrev FO := AE → AH → Res (Option Int)
def iNoP : FO := fun _ ah => .ok none ah
def iPart (f : FE) : FO := fun env ah => (f env ah).bind fun d ah1 => match d with
  | .int i => .ok (some i) ah1
  | _ => .bad
def OJ (G : KW) (W : XW) (f : FO) : TO := fun S H Q => ∃ (env : AE) (ah : AH) (η : List Addr), EnvOk G η H env S ∧ HpOk G η H ah ∧ Post G W η H (f env ah) fun o _ H' _ => Q o H'
theorem j_noP : PO X none (OJ (gX X) W iNoP) := ⟨fun pnz s σ H Q Iv ⟨env, ah, η, e, p, h⟩ => po_none.run pnz s σ H Q Iv (h.at p)⟩
theorem j_part (h : PE X e (SX X W f)) : PO X (some e) (OJ (gX X) W (iPart f)) := ⟨fun pnz s σ H Q Iv ⟨env, ah, η, e, p, q⟩ => (po_some h).run pnz s σ H Q Iv ⟨env, ah, η, e, p, q.bind.imp0 fun d η1 H1 ah1 m1 p1 q1 => fun v rvv => by
  cases rvv with
  | int i => exact ⟨i, rfl, q1.at p1⟩
  | _ => exact q1.elim⟩⟩
def iSl (o : D → Option Int → Option Int → AH → Res D) (f : FE) (fl fh : FO) : FE := fun env ah => (f env ah).bind fun x ah1 => (fl env ah1).bind fun l ah2 => (fh env ah2).bind fun u ah3 => o x l u ah3
def SlOk (G : KW) (W : XW) (r : V → Option Int → Option Int → Hp → VK → Prop) (o : D → Option Int → Option Int → AH → Res D) : Prop :=
  ∀ (η : List Addr) (H : Hp) (ah : AH) (x : D) (v : V) (l u : Option Int) (Q : VK), HpOk G η H ah → Rel G η H x v → Post G W η H (o x l u ah) (QV G Q) → r v l u H (QF Q)
theorem j_sl0 {r : V → Option Int → Option Int → Hp → VK → Prop} {o : D → Option Int → Option Int → AH → Res D} {lo hi : Option Expr} {fl fh : FO} {p2 : Pos} (hr : SlR X r) (k : SlOk (gX X) W r o) (he : PE X e (SX X W f)) (hl : PO X lo (OJ (gX X) W fl)) (hu : PO X hi (OJ (gX X) W fh)) :
    PE X (.Subscript e (.Slice lo hi none p2) pos) (SX X W (iSl o f fl fh)) := PE.imp (pe_fz (pe_slice hr he hl hu)) fun S H Q ⟨env, ah, η, e, p, h⟩ => by
  refine ⟨env, ah, η, e, p, h.bind.imp0 fun d η1 H1 ah1 m1 p1 q => fun v rvv => ?_⟩
  refine ⟨env, ah1, η1, e.mv m1, p1, q.bind.imp0 fun l η2 H2 ah2 m2 p2 q2 => ?_⟩
  refine ⟨env, ah2, η2, (e.mv m1).mv m2, p2, q2.bind.imp0 fun u η3 H3 ah3 m3 p3 q3 => ?_⟩
  exact k η3 H3 ah3 d v l u Q p3 ((rvv.mv m2).mv m3) q3
def oSl (x : D) (l u : Option Int) (ah : AH) : Res D := match x with
  | .str z => if z.length ≤ sizeLine then .ok (.str (cutS z l u)) ah else .bad
  | x => match seqD ah x with
    | some (true, xs) => if HT.sIx xs.length 0 l = 0 ∧ HT.sIx xs.length xs.length u = xs.length then .ok x ah else .ok (.tup (cutD xs l u)) ah
    | some (false, xs) => .ok (.lst (cutD xs l u)) ah
    | none => .bad
def rSlAll (K : PySem.W.Frag) : V → Option Int → Option Int → Hp → VK → Prop := fun x lo hi H Q => rSlS x lo hi H Q ∨ rSlA K x lo hi H Q ∨ rSlL K x lo hi H Q
theorem sl_all : SlR X (rSlAll X.K) := sl_str.or (sl_tupA.or sl_list)
theorem ok_sl : SlOk G W (rSlAll G.K) oSl := by
  intro η H ah x v l u Q p rx h
  unfold oSl at h
  split at h
  · cases rx
    split at h
    · exact .inl ⟨_, rfl, by assumption, post_val p (.str _) h⟩
    · exact h.elim
  · split at h
    · rename_i xs e1
      obtain ⟨a, vs, rfl, r1, q1, _⟩ := seq_rel p rx e1
      refine .inr (.inl ⟨a, vs, rfl, q1 rfl, fun c => ?_, fun c q hq => ?_⟩)
      · rw [if_pos (by rw [r1.length]; exact c)] at h; exact post_val p rx h
      · rw [if_neg (by rw [r1.length]; exact c)] at h; exact post_tup p (cut_rel r1 l u) h hq
    · rename_i xs e1
      obtain ⟨a, vs, rfl, r1, _, q1⟩ := seq_rel p rx e1
      exact .inr (.inr ⟨a, vs, rfl, .inl (q1 rfl), fun q hq => post_fz p (cut_rel r1 l u) h hq⟩)
    · exact h.elim
theorem j_sl {lo hi : Option Expr} {fl fh : FO} {p2 : Pos} (he : PE X e (SX X W f)) (hl : PO X lo (OJ (gX X) W fl)) (hu : PO X hi (OJ (gX X) W fh)) : PE X (.Subscript e (.Slice lo hi none p2) pos) (SX X W (iSl oSl f fl fh)) := j_sl0 sl_all ok_sl he hl hu
def oNeg (x : D) (ah : AH) : Res D := match x with
  | .int i => .ok (.int (-i)) ah
  | _ => .bad
theorem ok_neg : UnOk G W (rU fun i => .int (-i)) oNeg := by
  intro η H ah x v Q p rx h
  unfold oNeg at h
  split at h
  · cases rx; exact ⟨_, rfl, post_val p (.int _) h⟩
  · exact h.elim
def truD (ah : AH) : D → Option Bool
  | .bl b => some b
  | .int i => some (i != 0)
  | .str x => if x.length ≤ sizeLine then some ((x.length : Int) != 0) else none
  | .non => some false
  | d => match seqD ah d with
    | some (_, ds) => some (!ds.isEmpty)
    | none => none
abbrev FT := AE → AH → Res Bool
def iTr (f : FE) : FT := fun env ah => (f env ah).bind fun d ah1 => match d with
  | .bl b => .ok b ah1
  | _ => .bad
def TJ (G : KW) (W : XW) (f : FT) : TT := fun S H Q => ∃ (env : AE) (ah : AH) (η : List Addr), EnvOk G η H env S ∧ HpOk G η H ah ∧ Post G W η H (f env ah) fun b _ H' _ => Q b H'
abbrev TX (X : Cx) (W : XW) (f : FT) : TT := TJ (gX X) W f
theorem tr_tB {S : L2.St} {H : Hp} {Q : Bool → Hp → Prop} (h : TJ G W (iTr f) S H Q) : tB (SJ G W f) S H Q := by
  obtain ⟨env, ah, η, e, p, h⟩ := h
  exact ⟨env, ah, η, e, p, h.bind.imp0 fun d η1 H1 ah1 m1 p1 q1 => fun v rvv => by
    cases rvv with
    | bl b => exact ⟨b, rfl, q1.at p1⟩
    | _ => exact q1.elim⟩
/-- a comparison -/
def PCx (X : Cx) (op : CmpOp) (a b : Expr) (f : FE) (W : XW) : Prop := PC X op a b (SX X W f)
theorem pc_fz {op : CmpOp} {t : TE} (h : PC X op a b t) : PC X op a b fun S H Q => t S H (QF Q) := by
  refine ⟨fun pnz s σ H Q Iv q => ?_⟩
  refine thn (h.run pnz s σ H _ Iv q) fun v s1 h1 => thn h1 fun u s2 h2 => thn h2 fun w s3 ⟨x, H1, I1, r1, q1⟩ => ?_
  rcases q1 with q1 | ⟨c, o, rfl, ha, hm, q1⟩
  · exact ⟨x, H1, I1, r1, q1⟩
  · obtain ⟨od, I2⟩ := I1.lock ha hm
    exact ⟨.ref c, _, I2, r1, q1 od⟩
theorem PC.imp {op : CmpOp} {t t' : TE} (h : PC X op a b t) (k : ∀ S H Q, t' S H Q → t S H Q) : PC X op a b t' := ⟨fun pnz s σ H Q Iv q => h.run pnz s σ H Q Iv (k σ H Q q)⟩
theorem pc_op {op : CmpOp} {r : R2} {ta tb : TE} (ho : OpR X (compareOp op) r) (ha : PE X a ta) (hb : PE X b tb) : PC X op a b (tOp r ta tb) :=
  ⟨fun pnz s σ H Q Iv h => binT ha hb Iv h fun v u s2 x y H2 I2 rx ry q => ho pnz s2 σ H2 x y v u Q I2 rx ry q⟩
theorem j_pc {op : CmpOp} {r : R2} {o : D → D → AH → Res D} (ho : OpR X (compareOp op) r) (k : OpOk (gX X) W r o) (ha : PE X a (SX X W fa)) (hb : PE X b (SX X W fb)) : PC X op a b (SX X W (iBin o fa fb)) :=
  PC.imp (pc_fz (pc_op ho ha hb)) fun S H Q h => bin2 k h
theorem j_cmp {op : CmpOp} (h : PC X op a b (SX X W f)) (h1 : behindInMarks op b = false := by first | exact nobehind _ (by decide) (by decide) | rfl) : PE X (.Compare a [op] [b] pos) (SX X W f) := pe_cmp h h1
theorem t_cmp {op : CmpOp} (h : PC X op a b (SX X W f)) (h1 : behindInMarks op b = false := by first | exact nobehind _ (by decide) (by decide) | rfl) : PT X (.Compare a [op] [b] pos) (TX X W (iTr f)) := PT.imp (pt_cmp h h1) fun S H Q q => tr_tB q
/-- any expression whose value is a bool -/
theorem t_val (h : PE X e (SX X W f)) (he : ∀ whole, isTrue e X.env whole = (do let v ← whole; standAt e.pos; holding [v] (truthy v)) := by exact fun _ => rfl) : PT X e (TX X W (iTr f)) := PT.imp (pt_val h he) fun S H Q q => tr_tB q
/-- by truth -/
def iTru (f : FE) : FT := fun env ah => (f env ah).bind fun d ah1 => match truD ah1 d with
  | some b => .ok b ah1
  | none => .bad
theorem tru_rel {η : List Addr} {H : Hp} {ah : AH} {d : D} {v : V} {b : Bool} (p : HpOk G η H ah) (r : Rel G η H d v) (e : truD ah d = some b) : TruV G.K v H b := by
  have sq : ∀ {ds : List D} {t : Bool}, seqD ah d = some (t, ds) → (!ds.isEmpty) = b → TruV G.K v H b := fun {ds t} h1 h2 => by
    obtain ⟨a, vs, rfl, r1, q1, q2⟩ := seq_rel p r h1
    have hv : ds.isEmpty = vs.isEmpty := by
      cases r1 <;> rfl
    subst h2
    rw [hv]
    cases t with
    | true => exact .inr (.inl ⟨vs, q1 rfl, rfl⟩)
    | false => exact .inl ⟨vs, .inl (q2 rfl), rfl⟩
  have fin : (match seqD ah d with
      | some (_, ds) => some (!ds.isEmpty)
      | none => none) = some b → TruV G.K v H b := fun e => by
    split at e
    · rename_i t ds e1
      exact sq e1 (Option.some.inj e)
    · cases e
  cases r with
  | non => simp only [truD] at e; cases e; exact rfl
  | bl _ => simp only [truD] at e; cases e; exact rfl
  | int _ => simp only [truD] at e; cases e; exact rfl
  | str z =>
    simp only [truD] at e
    split at e
    · cases e; exact ⟨by assumption, rfl⟩
    · cases e
  | _ => exact fin e
theorem t_tru (h : PE X e (SX X W f)) (he : ∀ whole, isTrue e X.env whole = (do let v ← whole; standAt e.pos; holding [v] (truthy v)) := by exact fun _ => rfl) : PT X e (TX X W (iTru f)) := PT.imp (pt_truth h he) fun S H Q ⟨env, ah, η, e, p, h⟩ =>
  ⟨env, ah, η, e, p, h.bind.imp0 fun d η1 H1 ah1 m1 p1 q1 => fun v rvv => by
    split at q1
    · rename_i b eb
      exact ⟨b, tru_rel p1 rvv eb, q1.at p1⟩
    · exact q1.elim⟩
def bAnd (f g : FT) : FT := fun env ah => (f env ah).bind fun b ah1 => if b = true then g env ah1 else .ok false ah1
def bOr (f g : FT) : FT := fun env ah => (f env ah).bind fun b ah1 => if b = true then .ok true ah1 else g env ah1
def bNot (f : FT) : FT := fun env ah => (f env ah).bind fun b ah1 => .ok (!b) ah1
variable {ft gt : FT} {rest : List Expr}
theorem tj_and {S : L2.St} {H : Hp} {Q : Bool → Hp → Prop} {G : KW} (h : TJ G W (bAnd ft gt) S H Q) : tAnd (TJ G W ft) (TJ G W gt) S H Q := by
  obtain ⟨env, ah, η, e, p, h⟩ := h
  refine ⟨env, ah, η, e, p, h.bind.imp0 fun b η1 H1 ah1 m1 p1 q1 => ?_⟩
  cases b with
  | true => exact ⟨env, ah1, η1, e.mv m1, p1, q1⟩
  | false => exact q1.at p1
theorem tj_or {S : L2.St} {H : Hp} {Q : Bool → Hp → Prop} {G : KW} (h : TJ G W (bOr ft gt) S H Q) : tOr (TJ G W ft) (TJ G W gt) S H Q := by
  obtain ⟨env, ah, η, e, p, h⟩ := h
  refine ⟨env, ah, η, e, p, h.bind.imp0 fun b η1 H1 ah1 m1 p1 q1 => ?_⟩
  cases b with
  | false => exact ⟨env, ah1, η1, e.mv m1, p1, q1⟩
  | true => exact q1.at p1
theorem PW.imp {t t' : TT} (h : PW X e t) (k : ∀ S H Q, t' S H Q → t S H Q) : PW X e t' := ⟨fun w pnz s σ H Q Iv q => h.run w pnz s σ H Q Iv (k σ H Q q)⟩
theorem w_and1 (h : PT X a (TX X W ft)) : PW X (.BoolOp .And [a] pos) (TX X W ft) := pw_and1 h
theorem w_or1 (h : PT X a (TX X W ft)) : PW X (.BoolOp .Or [a] pos) (TX X W ft) := pw_or1 h
theorem w_and (h : PT X a (TX X W ft)) (k : PW X (.BoolOp .And (b :: rest) pos) (TX X W gt)) : PW X (.BoolOp .And (a :: b :: rest) pos) (TX X W (bAnd ft gt)) := PW.imp (pw_and h k) fun _ _ _ q => tj_and q
theorem w_or (h : PT X a (TX X W ft)) (k : PW X (.BoolOp .Or (b :: rest) pos) (TX X W gt)) : PW X (.BoolOp .Or (a :: b :: rest) pos) (TX X W (bOr ft gt)) := PW.imp (pw_or h k) fun _ _ _ q => tj_or q
theorem t_not (h : PT X a (TX X W ft)) : PT X (.UnaryOp .Not a pos) (TX X W (bNot ft)) := PT.imp (pt_not h) fun S H Q ⟨env, ah, η, e, p, h⟩ => ⟨env, ah, η, e, p, h.bind.imp0 fun b η1 H1 ah1 m1 p1 q1 => q1.at p1⟩
/-- as values: bools -/
def iAnd (f g : FE) : FE := fun env ah => (f env ah).bind fun d ah1 => match d with
  | .bl true => g env ah1
  | .bl false => .ok (.bl false) ah1
  | _ => .bad
def iOr (f g : FE) : FE := fun env ah => (f env ah).bind fun d ah1 => match d with
  | .bl true => .ok (.bl true) ah1
  | .bl false => g env ah1
  | _ => .bad
def iNot (f : FE) : FE := fun env ah => (f env ah).bind fun d ah1 => match d with
  | .bl b => .ok (.bl (!b)) ah1
  | _ => .bad
theorem j_one {op : BoolOp} (h : PE X a (SX X W f)) : PE X (.BoolOp op [a] pos) (SX X W f) := pe_one h
theorem j_and (h : PE X a (SX X W fa)) (k : PE X (.BoolOp .And (b :: rest) pos) (SX X W fb)) : PE X (.BoolOp .And (a :: b :: rest) pos) (SX X W (iAnd fa fb)) := PE.imp (pe_and h k) fun S H Q ⟨env, ah, η, e, p, h⟩ =>
  ⟨env, ah, η, e, p, h.bind.imp0 fun d η1 H1 ah1 m1 p1 q1 => fun v rvv => by
    cases rvv with
    | bl b =>
      cases b with
      | true => exact ⟨true, rfl, env, ah1, η1, e.mv m1, p1, q1⟩
      | false => exact ⟨false, rfl, q1.at p1 _ (.bl _)⟩
    | _ => exact q1.elim⟩
theorem j_or (h : PE X a (SX X W fa)) (k : PE X (.BoolOp .Or (b :: rest) pos) (SX X W fb)) : PE X (.BoolOp .Or (a :: b :: rest) pos) (SX X W (iOr fa fb)) := PE.imp (pe_or h k) fun S H Q ⟨env, ah, η, e, p, h⟩ =>
  ⟨env, ah, η, e, p, h.bind.imp0 fun d η1 H1 ah1 m1 p1 q1 => fun v rvv => by
    cases rvv with
    | bl b =>
      cases b with
      | false => exact ⟨false, rfl, env, ah1, η1, e.mv m1, p1, q1⟩
      | true => exact ⟨true, rfl, q1.at p1 _ (.bl _)⟩
    | _ => exact q1.elim⟩
theorem j_not (h : PE X a (SX X W fa)) : PE X (.UnaryOp .Not a pos) (SX X W (iNot fa)) := PE.imp (pe_not h) fun S H Q ⟨env, ah, η, e, p, h⟩ =>
  ⟨env, ah, η, e, p, h.bind.imp0 fun d η1 H1 ah1 m1 p1 q1 => fun v rvv => by
    cases rvv with
    | bl b => exact ⟨b, rfl, q1.at p1 _ (.bl _)⟩
    | _ => exact q1.elim⟩
def iIf (t : FT) (f g : FE) : FE := fun env ah => (t env ah).bind fun b ah1 => if b = true then f env ah1 else g env ah1
theorem j_if {c : Expr} (hc : PT X c (TX X W ft)) (ha : PE X a (SX X W fa)) (hb : PE X b (SX X W fb)) : PE X (.IfExp c a b pos) (SX X W (iIf ft fa fb)) := PE.imp (pe_ifExp hc ha hb) fun S H Q ⟨env, ah, η, e, p, h⟩ =>
  ⟨env, ah, η, e, p, h.bind.imp0 fun b η1 H1 ah1 m1 p1 q1 => by
    cases b with
    | true => exact ⟨env, ah1, η1, e.mv m1, p1, q1⟩
    | false => exact ⟨env, ah1, η1, e.mv m1, p1, q1⟩⟩
def iArgs : List FE → AE → AH → Res (List D)
  | [], _, ah => .ok [] ah
  | f :: fs, env, ah => (f env ah).bind fun d ah1 => (iArgs fs env ah1).bind fun ds ah2 => .ok (d :: ds) ah2
def AJ (G : KW) (W : XW) (fs : List FE) : TA := fun S H Q => ∃ (env : AE) (ah : AH) (η : List Addr), EnvOk G η H env S ∧ HpOk G η H ah ∧ Post G W η H (iArgs fs env ah) fun ds η' H' _ => ∀ vs, RelAll G η' H' ds vs → Q vs H'
abbrev AX' (X : Cx) (W : XW) (fs : List FE) : TA := AJ (gX X) W fs
variable {es : List Expr} {fs : List FE}
theorem a_nil : PA X [] (AX' X W []) := PA.imp pa_nil fun S H Q ⟨env, ah, η, e, p, h⟩ => h.at p _ .nil
theorem a_cons (h : PE X e (SX X W f)) (k : PA X es (AX' X W fs)) (hs : starEach (e :: es) X.env = (false, eval e X.env) :: starEach es X.env := by rfl) : PA X (e :: es) (AX' X W (f :: fs)) := PA.imp (pa_cons h k hs) fun S H Q ⟨env, ah, η, e, p, h⟩ =>
  ⟨env, ah, η, e, p, (show Post _ _ _ _ ((f env ah).bind fun d ah1 => (iArgs fs env ah1).bind fun ds ah2 => .ok (d :: ds) ah2) _ from h).bind.imp0 fun d η1 H1 ah1 m1 p1 q1 => fun v rvv =>
    ⟨env, ah1, η1, e.mv m1, p1, q1.bind.imp0 fun ds η2 H2 ah2 m2 p2 q2 => fun vs rs => q2.at p2 _ (.cons (rvv.mv m2) rs)⟩⟩
theorem PA.fz {t : TA} (h : PA X es t) : PA X es t := h
def iCall (o : List D → AH → Res D) (fs : List FE) : FE := fun env ah => (iArgs fs env ah).bind fun ds ah1 => o ds ah1
def oTup (ds : List D) (ah : AH) : Res D := if ds.length ≤ sizeLine then .ok (.tup ds) ah else .bad
def oLst (ds : List D) (ah : AH) : Res D := if ds.length ≤ sizeLine then .ok (.lst ds) ah else .bad
def oLstM (ds : List D) (ah : AH) : Res D := if ds.length ≤ sizeLine then .ok (.ref ah.length) (ah ++ [.lst ds]) else .bad
theorem j_disp {o : List D → AH → Res D} {t : TA → TE} (ht : ∀ {ta : TA}, PA X es ta → PE X e (t ta)) (hk : ∀ (η : List Addr) (H : Hp) (ah : AH) (ds : List D) (vs : List V) (Q : VK), HpOk (gX X) η H ah → RelAll (gX X) η H ds vs → Post (gX X) W η H (o ds ah) (QV (gX X) Q) → t (fun _ H Q => Q vs H) [] H (QF Q)) (hl : ∀ ta S H Q, ta S H (fun vs H1 => t (fun _ H Q => Q vs H) [] H1 Q) → t ta S H Q)
    (k : PA X es (AX' X W fs)) : PE X e (SX X W (iCall o fs)) := PE.imp (pe_fz (ht k)) fun S H Q ⟨env, ah, η, e, p, h⟩ => hl _ _ _ _ ⟨env, ah, η, e, p, h.bind.imp0 fun ds η1 H1 ah1 m1 p1 q1 => fun vs rs => hk η1 H1 ah1 ds vs Q p1 rs q1⟩
theorem j_tup {x1 : _} (k : PA X es (AX' X W fs)) : PE X (.Tuple es x1 pos) (SX X W (iCall oTup fs)) :=
  j_disp (t := tTup) (fun h => pe_tup h) (fun η H ah ds vs Q p r h => by
    unfold oTup at h
    split at h
    · exact ⟨by rw [← r.length]; assumption, fun a ha => post_tup p r h ha⟩
    · exact h.elim) (fun ta S H Q h => h) k
theorem j_lst (k : PA X es (AX' X W fs)) : PE X (.List es pos) (SX X W (iCall oLst fs)) :=
  j_disp (t := tLst) (fun h => pe_lst h) (fun η H ah ds vs Q p r h => by
    unfold oLst at h
    split at h
    · exact ⟨by rw [← r.length]; assumption, fun a ha => post_fz p r h ha⟩
    · exact h.elim) (fun ta S H Q h => h) k
theorem j_lstM (k : PA X es (AX' X W fs)) : PE X (.List es pos) (SX X W (iCall oLstM fs)) :=
  j_disp (t := tLst) (fun h => pe_lst h) (fun η H ah ds vs Q p r h => by
    unfold oLstM at h
    split at h
    · exact ⟨by rw [← r.length]; assumption, fun a ha => post_mut p r h ha⟩
    · exact h.elim) (fun ta S H Q h => h) k
def CaOk (G : KW) (W : XW) (r : List V → Hp → VK → Prop) (o : List D → AH → Res D) : Prop :=
  ∀ (η : List Addr) (H : Hp) (ah : AH) (ds : List D) (vs : List V) (Q : VK), HpOk G η H ah → RelAll G η H ds vs → Post G W η H (o ds ah) (QV G Q) → r vs H (QF Q)
theorem ca_tCB {S : L2.St} {H : Hp} {Q : VK} {G : KW} {r : List V → Hp → VK → Prop} {o : List D → AH → Res D} (k : CaOk G W r o) (h : SJ G W (iCall o fs) S H Q) : tCB r (AJ G W fs) S H (QF Q) := by
  obtain ⟨env, ah, η, e, p, h⟩ := h
  exact ⟨env, ah, η, e, p, h.bind.imp0 fun ds η1 H1 ah1 m1 p1 q1 => fun vs rs => k η1 H1 ah1 ds vs Q p1 rs q1⟩
variable {x : Str} {p0 : Pos}
theorem j_callB {id : String} {r : List V → Hp → VK → Prop} {o : List D → AH → Res D} (hc : CallR X (.builtin id) r) (k : CaOk (gX X) W r o) (hg : Gl X x) (hm : X.mg x = none) (hv : bootBuiltins x = some (.builtin id)) (ha : PA X (e :: es) (AX' X W fs)) (hn : x ≠ "__name__" := by decide) (hdb : (x == ("__debug__" : Str)) = false := by decide)
    (he : starEach (e :: es) X.env = (false, eval e X.env) :: starEach es X.env := by rfl) (hpl : (backTo pos (starEach es X.env)).any (·.1) = false := by rfl) : PE X (.Call (.Name x p0) (e :: es) [] pos) (SX X W (iCall o fs)) :=
  PE.imp (pe_fz (pe_callB hc hg hm hv ha hn hdb he hpl)) fun S H Q h => ca_tCB k h
theorem j_callT {id : String} {r : List V → Hp → VK → Prop} {o : List D → AH → Res D} (hc : CallR X (.type id) r) (k : CaOk (gX X) W r o) (hg : Gl X x) (hm : X.mg x = none) (hv : bootBuiltins x = some (.type id)) (ha : PA X (e :: es) (AX' X W fs)) (hn : x ≠ "__name__" := by decide) (hdb : (x == ("__debug__" : Str)) = false := by decide)
    (he : starEach (e :: es) X.env = (false, eval e X.env) :: starEach es X.env := by rfl) (hpl : (backTo pos (starEach es X.env)).any (·.1) = false := by rfl) : PE X (.Call (.Name x p0) (e :: es) [] pos) (SX X W (iCall o fs)) :=
  PE.imp (pe_fz (pe_callTy hc hg hm hv ha hn hdb he hpl)) fun S H Q h => ca_tCB k h
end
end DL
namespace DL
open PySem PySem.Spec PyProof.Rows L2
def fzD (d : D) (ah : AH) : Res D := match d with
  | .ref n => match ah[n]? with
    | some (.lst ds) => .ok (.lst ds) (ah.set n (.fz (.lst ds)))
    | some (.dk ks ds) => .ok (.dk ks ds) (ah.set n (.fz (.dk ks ds)))
    | some (.dt ks ds) => .ok (.dt ks ds) (ah.set n (.fz (.dt ks ds)))
    | some (.fz d) => .ok d ah
    | _ => .bad
  | d => .ok d ah
def iFz (f : FE) : FE := iUn fzD f
section
variable {X : Cx} {G : KW} {W : XW} {e : Expr} {f : FE}
theorem fz_ok {η : List Addr} {H : Hp} {ah : AH} {d : D} {v : V} {Q : VK} (p : HpOk G η H ah) (r : Rel G η H d v) (h : Post G W η H (fzD d ah) (QV G Q)) : QF Q v H := by
  cases r with
  | ref hn =>
    rename_i n a
    obtain ⟨o, ho, k⟩ := p.at hn
    simp only [fzD, ho] at h
    have pf := List.prefix_refl η
    cases o with
    | lst ds =>
      obtain ⟨vs, h1, r1⟩ := k
      refine .inr ⟨a, .lst vs, rfl, h1, trivial, fun od => ?_⟩
      have E : Mv η H η (upd H a (.frz od (.lst vs))) := .upd (List.mem_of_getElem? hn) h1 (fun _ z => nomatch z) (fun _ _ z => nomatch z)
      have r2 : Rel G η (upd H a (.frz od (.lst vs))) (.lst ds) (.ref a) := .lst ⟨od, upd_same⟩ (r1.mv E)
      exact h η _ E (p.put hn h1 (fun _ z => nomatch z) (fun _ _ z => nomatch z) ⟨⟨_, upd_same⟩, r2⟩) _ r2
    | dk ks ds =>
      obtain ⟨vs, h1, k1, r1⟩ := k
      refine .inr ⟨a, .dK vs, rfl, h1, trivial, fun od => ?_⟩
      have E : Mv η H η (upd H a (.frz od (.dK vs))) := .upd (List.mem_of_getElem? hn) h1 (fun _ z => nomatch z) (fun _ _ z => nomatch z)
      have r2 : Rel G η (upd H a (.frz od (.dK vs))) (.dk ks ds) (.ref a) := .dk (o := od) upd_same k1 (r1.mv E)
      exact h η _ E (p.put hn h1 (fun _ z => nomatch z) (fun _ _ z => nomatch z) ⟨⟨_, upd_same⟩, r2⟩) _ r2
    | dt ks ds =>
      obtain ⟨vs, h1, k1, r1⟩ := k
      refine .inr ⟨a, .dT vs, rfl, h1, trivial, fun od => ?_⟩
      have E : Mv η H η (upd H a (.frz od (.dT vs))) := .upd (List.mem_of_getElem? hn) h1 (fun _ z => nomatch z) (fun _ _ z => nomatch z)
      have r2 : Rel G η (upd H a (.frz od (.dT vs))) (.dt ks ds) (.ref a) := .dt (o := od) upd_same k1 (r1.mv E)
      exact h η _ E (p.put hn h1 (fun _ z => nomatch z) (fun _ _ z => nomatch z) ⟨⟨_, upd_same⟩, r2⟩) _ r2
    | fz d =>
      obtain ⟨_, r1⟩ := k
      exact post_val p r1 h
    | gone => exact h.elim
    | tab p => exact h.elim
    | rng lo hi => exact h.elim
    | dx ks ds => exact h.elim
    | xd _ _ _ => exact h.elim
    | ins _ _ => exact h.elim
  | non => exact post_val p .non h
  | bl b => exact post_val p (.bl b) h
  | int b => exact post_val p (.int b) h
  | str b => exact post_val p (.str b) h
  | tup a b => exact post_val p (.tup a b) h
  | lst a b => exact post_val p (.lst a b) h
  | dk a b c => exact post_val p (.dk a b c) h
  | dt a b c => exact post_val p (.dt a b c) h
  | cd a b c => exact post_val p (.cd a b c) h
  | ct a b => exact post_val p (.ct a b) h
  | fn a => exact post_val p (.fn a) h
  | ty a => exact post_val p (.ty a) h
theorem j_fz (h : PE X e (SX X W f)) : PE X e (SX X W (iFz f)) := PE.imp (pe_fz h) fun S H Q ⟨env, ah, η, e, p, h⟩ =>
  ⟨env, ah, η, e, p, h.bind.imp0 fun d η1 H1 ah1 m1 p1 q1 => fun v rv => fz_ok p1 rv q1⟩
end
abbrev FI := AE → AH → Res (List D)
/-- the iterator J yields the data ds, one after another -/
structure ItOk (G : KW) (η : List Addr) (H : Hp) (J : It) (ds : List D) : Prop where
  go : ∀ (i : Nat) (d : D), ds[i]? = some d → ∀ H', Ext H H' → J.go i H' ∧ ∀ x H'', J.yld i H' x H'' → Same H' H'' ∧ Rel G η H'' d x
  stop : ∀ i, ds.length ≤ i → ∀ H', Ext H H' → J.stop i H'
def IJ (G : KW) (W : XW) (f : FI) : TI := fun S H R => ∃ (env : AE) (ah : AH) (η : List Addr), EnvOk G η H env S ∧ HpOk G η H ah ∧ Post G W η H (f env ah) fun ds η' H' _ => ∀ J, ItOk G η' H' J ds → R J H'
abbrev IX (X : Cx) (W : XW) (f : FI) : TI := IJ (gX X) W f
def iSeq1 (f : FE) : FI := fun env ah => (f env ah).bind fun d ah1 => match d with
  | .tup ds => .ok ds ah1
  | .ct ds => .ok ds ah1
  | .lst ds => .ok ds ah1
  | _ => .bad
def rangeD (lo : Int) (n : Nat) : List D := (List.range n).map fun i => .int (lo + (i : Nat))
def rangeC (lo c : Int) (n : Nat) : List D := (List.range n).map fun i => .int (lo + (i : Nat) * c)
def rgIn (i : Int) : Prop := -(2 ^ 62) ≤ i ∧ i < 2 ^ 62
instance (i : Int) : Decidable (rgIn i) := by unfold rgIn; infer_instance
def iRange1 (fs : List FE) : FI := fun env ah => (iArgs fs env ah).bind fun ds ah1 => match ds with
  | [.int j] => if rgIn j then .ok (rangeD 0 j.toNat) ah1 else .bad
  | _ => .bad
def iRange2 (fs : List FE) : FI := fun env ah => (iArgs fs env ah).bind fun ds ah1 => match ds with
  | [.int i, .int j] => if rgIn i ∧ rgIn j then .ok (rangeD i (j - i).toNat) ah1 else .bad
  | _ => .bad
def iStrI (f : FE) : FI := fun env ah => (f env ah).bind fun d ah1 => match d with
  | .str x => .ok (x.cps.toList.map fun c => .str ⟨#[c]⟩) ah1
  | _ => .bad
def iRevI (f : FE) : FI := fun env ah => (f env ah).bind fun d ah1 => match d with
  | .tup ds => .ok ds.reverse ah1
  | .ct ds => .ok ds.reverse ah1
  | .lst ds => .ok ds.reverse ah1
  | _ => .bad
def zipD : List D → List D → List D
  | x :: xs, y :: ys => .tup [x, y] :: zipD xs ys
  | _, _ => []
def iZipI (fs : List FE) : FI := fun env ah => (iArgs fs env ah).bind fun ds ah1 => match ds with
  | [x, y] => match x, y with
    | .lst xs, .lst ys => .ok (zipD xs ys) ah1
    | .tup xs, .tup ys => .ok (zipD xs ys) ah1
    | _, _ => .bad
  | _ => .bad
def numD (k : Nat) : List D → List D
  | [] => []
  | d :: ds => .tup [.int (k : Nat), d] :: numD (k + 1) ds
def iEnumI (fs : List FE) : FI := fun env ah => (iArgs fs env ah).bind fun ds ah1 => match ds with
  | [.lst xs] => .ok (numD 0 xs) ah1
  | _ => .bad
theorem rangeD_len (lo : Int) (n : Nat) : (rangeD lo n).length = n := by simp [rangeD]
theorem zipD_len : ∀ xs ys : List D, (zipD xs ys).length = min xs.length ys.length
  | [], _ => by simp [zipD]
  | _ :: _, [] => by simp [zipD]
  | x :: xs, y :: ys => by simp only [zipD, List.length_cons, zipD_len xs ys]; omega
theorem zipD_get : ∀ {xs ys : List D} {i : Nat} {d : D}, (zipD xs ys)[i]? = some d → ∃ x y, xs[i]? = some x ∧ ys[i]? = some y ∧ d = .tup [x, y]
  | [], _, _, _, h => by simp [zipD] at h
  | _ :: _, [], _, _, h => by simp [zipD] at h
  | x :: xs, y :: ys, 0, d, h => by simp [zipD] at h; exact ⟨x, y, by simp, by simp, h.symm⟩
  | x :: xs, y :: ys, i + 1, d, h => by
    obtain ⟨a, b, h1, h2, h3⟩ := zipD_get (xs := xs) (ys := ys) (i := i) (by simpa [zipD] using h)
    exact ⟨a, b, by simpa using h1, by simpa using h2, h3⟩
theorem numD_len : ∀ (xs : List D) (k : Nat), (numD k xs).length = xs.length
  | [], _ => rfl
  | _ :: xs, k => by simp only [numD, List.length_cons, numD_len xs]
theorem numD_get : ∀ {xs : List D} {k i : Nat} {d : D}, (numD k xs)[i]? = some d → ∃ x, xs[i]? = some x ∧ d = .tup [.int ((k + i : Nat) : Int), x]
  | [], _, _, _, h => by simp [numD] at h
  | x :: xs, k, 0, d, h => by simp [numD] at h; exact ⟨x, by simp, by rw [← h]; rfl⟩
  | x :: xs, k, i + 1, d, h => by
    obtain ⟨a, h1, h2⟩ := numD_get (xs := xs) (k := k + 1) (i := i) (by simpa [numD] using h)
    exact ⟨a, by simpa using h1, by rw [h2, show k + 1 + i = k + (i + 1) by omega]⟩
section
variable {G : KW} {η : List Addr} {H : Hp}
theorem it_list {a : Addr} {ds : List D} {vs : List V} (h : FzL H a vs) (r : RelAll G η H ds vs) : ItOk G η H (Itl G.K a) ds where
  go := fun i d hd H' e => by
    obtain ⟨v, hv, rv⟩ := r.get hd
    refine ⟨⟨vs, v, (h.ext e).sq, hv⟩, fun x H'' y => ?_⟩
    obtain ⟨rfl, y⟩ := y
    have := y vs (h.ext e).sq
    rw [hv] at this
    cases this
    exact ⟨Same.refl _, rv.ext (List.prefix_refl _) e⟩
  stop := fun i hi H' e => ⟨vs, (h.ext e).sq, by rw [← r.length]; exact hi⟩
theorem it_tup {a : Addr} {ds : List D} {vs : List V} (h : SqT G.K H a vs) (r : RelAll G η H ds vs) : ItOk G η H (Itt G.K a) ds where
  go := fun i d hd H' e => by
    obtain ⟨v, hv, rv⟩ := r.get hd
    refine ⟨⟨vs, v, SqT.ext e h, hv⟩, fun x H'' y => ?_⟩
    obtain ⟨rfl, y⟩ := y
    have := y vs (SqT.ext e h)
    rw [hv] at this
    cases this
    exact ⟨Same.refl _, rv.ext (List.prefix_refl _) e⟩
  stop := fun i hi H' e => ⟨vs, SqT.ext e h, by rw [← r.length]; exact hi⟩
theorem it_range {lo : Int} {n : Nat} : ItOk G η H (Itr lo n) (rangeD lo n) where
  go := fun i d hd H' e => by
    have hi : i < n := by have := (List.getElem?_eq_some_iff.mp hd).1; rw [rangeD_len] at this; exact this
    refine ⟨hi, fun x H'' y => ?_⟩
    obtain ⟨rfl, rfl⟩ := y
    simp [rangeD, hi] at hd
    subst hd
    exact ⟨Same.refl _, .int _⟩
  stop := fun i hi H' e => by rw [rangeD_len] at hi; exact hi
theorem it_str {x : Str} : ItOk G η H (Its x) (x.cps.toList.map fun c => .str ⟨#[c]⟩) where
  go := fun i d hd H' e => by
    rw [List.getElem?_map] at hd
    obtain ⟨c, hc, rfl⟩ := Option.map_eq_some_iff.mp hd
    have hi : i < x.cps.size := by simpa using (List.getElem?_eq_some_iff.mp hc).1
    refine ⟨hi, fun v H'' y => ?_⟩
    obtain ⟨rfl, c', hc', rfl⟩ := y
    have : c' = c := by
      have h2 : x.cps[i]? = some c := by simpa using hc
      rw [h2] at hc'; exact (Option.some.inj hc').symm
    subst this
    exact ⟨Same.refl _, .str _⟩
  stop := fun i hi H' e => by simpa [Its] using hi
theorem it_revL {a : Addr} {ds : List D} {vs : List V} (h : FzL H a vs) (r : RelAll G η H ds vs) : ItOk G η H (Itv G.K a vs.length) ds.reverse where
  go := fun i d hd H' e => by
    have hi : i < ds.length := by simpa using (List.getElem?_eq_some_iff.mp hd).1
    rw [List.getElem?_reverse hi] at hd
    obtain ⟨v, hv, rv⟩ := r.get hd
    rw [r.length] at hv hi
    refine ⟨⟨by omega, vs, v, (h.ext e).sq, hv⟩, fun x H'' y => ?_⟩
    obtain ⟨rfl, y⟩ := y
    have := y vs (h.ext e).sq
    rw [hv] at this
    cases this
    exact ⟨Same.refl _, rv.ext (List.prefix_refl _) e⟩
  stop := fun i hi H' e => by
    rw [List.length_reverse, r.length] at hi
    exact hi
theorem it_revT {a : Addr} {ds : List D} {vs : List V} (h : SqT G.K H a vs) (r : RelAll G η H ds vs) : ItOk G η H (RT.ItvT G.K a vs.length) ds.reverse where
  go := fun i d hd H' e => by
    have hi : i < ds.length := by simpa using (List.getElem?_eq_some_iff.mp hd).1
    rw [List.getElem?_reverse hi] at hd
    obtain ⟨v, hv, rv⟩ := r.get hd
    rw [r.length] at hv hi
    refine ⟨⟨by omega, vs, v, SqT.ext e h, hv⟩, fun x H'' y => ?_⟩
    obtain ⟨rfl, y⟩ := y
    have := y vs (SqT.ext e h)
    rw [hv] at this
    cases this
    exact ⟨Same.refl _, rv.ext (List.prefix_refl _) e⟩
  stop := fun i hi H' e => by
    rw [List.length_reverse, r.length] at hi
    exact hi
theorem pair_new {x y : D} {v u : V} {H' : Hp} {T : Addr} (hT : H' T = none) (rx : Rel G η H' x v) (ry : Rel G η H' y u) : Same H' (upd H' T (.tup [v, u])) ∧ Rel G η (upd H' T (.tup [v, u])) (.tup [x, y]) (.ref T) := by
  have s := same_new (o := .tup [v, u]) hT
  have pf := List.prefix_refl η
  exact ⟨s, .tup upd_same (.cons (rx.ext pf (.of_same s)) (.cons (ry.ext pf (.of_same s)) .nil))⟩
theorem it_zipL {a b : Addr} {ds es : List D} {vs us : List V} (h : FzL H a vs) (r : RelAll G η H ds vs) (k : FzL H b us) (q : RelAll G η H es us) : ItOk G η H (Itz G.K a b) (zipD ds es) where
  go := fun i d hd H' e => by
    obtain ⟨x, y, hx, hy, rfl⟩ := zipD_get hd
    obtain ⟨v, hv, rv⟩ := r.get hx
    obtain ⟨u, hu, ru⟩ := q.get hy
    have pf := List.prefix_refl η
    refine ⟨⟨vs, us, v, u, (h.ext e).sq, (k.ext e).sq, hv, hu⟩, fun z H'' w => ?_⟩
    obtain ⟨T, v', u', rfl, hT, rfl, w1, w2⟩ := w
    have e1 := w1 vs (h.ext e).sq
    have e2 := w2 us (k.ext e).sq
    rw [hv] at e1; cases e1
    rw [hu] at e2; cases e2
    exact pair_new hT (rv.ext pf e) (ru.ext pf e)
  stop := fun i hi H' e => ⟨vs, us, (h.ext e).sq, (k.ext e).sq, by rw [zipD_len, r.length, q.length] at hi; omega⟩
theorem it_zipT {a b : Addr} {ds es : List D} {vs us : List V} (h : SqT G.K H a vs) (r : RelAll G η H ds vs) (k : SqT G.K H b us) (q : RelAll G η H es us) : ItOk G η H (RZ.ItzT G.K a b) (zipD ds es) where
  go := fun i d hd H' e => by
    obtain ⟨x, y, hx, hy, rfl⟩ := zipD_get hd
    obtain ⟨v, hv, rv⟩ := r.get hx
    obtain ⟨u, hu, ru⟩ := q.get hy
    have pf := List.prefix_refl η
    refine ⟨⟨vs, us, v, u, SqT.ext e h, SqT.ext e k, hv, hu⟩, fun z H'' w => ?_⟩
    obtain ⟨T, v', u', rfl, hT, rfl, w1, w2⟩ := w
    have e1 := w1 vs (SqT.ext e h)
    have e2 := w2 us (SqT.ext e k)
    rw [hv] at e1; cases e1
    rw [hu] at e2; cases e2
    exact pair_new hT (rv.ext pf e) (ru.ext pf e)
  stop := fun i hi H' e => ⟨vs, us, SqT.ext e h, SqT.ext e k, by rw [zipD_len, r.length, q.length] at hi; omega⟩
theorem it_enum {a : Addr} {ds : List D} {vs : List V} (h : FzL H a vs) (r : RelAll G η H ds vs) : ItOk G η H (Ite G.K a) (numD 0 ds) where
  go := fun i d hd H' e => by
    obtain ⟨x, hx, rfl⟩ := numD_get hd
    obtain ⟨v, hv, rv⟩ := r.get hx
    have pf := List.prefix_refl η
    refine ⟨⟨vs, v, (h.ext e).sq, hv⟩, fun z H'' w => ?_⟩
    obtain ⟨T, v', rfl, hT, rfl, w1⟩ := w
    have e1 := w1 vs (h.ext e).sq
    rw [hv] at e1; cases e1
    have e0 : ((0 + i : Nat) : Int) = ((i : Nat) : Int) := by omega
    rw [e0]
    exact pair_new hT (.int _) (rv.ext pf e)
  stop := fun i hi H' e => ⟨vs, (h.ext e).sq, by rw [numD_len, r.length] at hi; exact hi⟩
end
end DL
namespace DL
open PySem PySem.Spec PyProof.Rows L2
section
variable {X : Cx} {W : XW} {e e2 tg : Expr} {es : List Expr} {f : FE} {fs : List FE} {p pos tpos : Pos} {elts : List Expr} {kk : Nat}
theorem seq1_post {G : KW} {η : List Addr} {H : Hp} {ah : AH} {d : D} {v : V} {Q : List D → List Addr → Hp → AH → Prop} (pk : HpOk G η H ah) (r : Rel G η H d v)
    (h : Post G W η H (match d with | .tup ds => Res.ok ds ah | .ct ds => .ok ds ah | .lst ds => .ok ds ah | _ => .bad) Q) :
    ∃ a vs ds, v = .ref a ∧ RelAll G η H ds vs ∧ Q ds η H ah ∧ (SqT G.K H a vs ∨ FzL H a vs) := by
  cases r with
  | tup h1 r1 => exact ⟨_, _, _, rfl, r1, h.at pk, .inl (.inl (.inl h1))⟩
  | ct h1 r1 => exact ⟨_, _, _, rfl, r1, h.at pk, .inl h1.sqt⟩
  | lst h1 r1 => exact ⟨_, _, _, rfl, r1, h.at pk, .inr h1⟩
  | _ => exact h.elim
/-- a list (frozen) or a tuple -/
theorem PI.or {t t' : TI} (h : PI X tg e t) (h' : PI X tg e t') : PI X tg e (fun S H R => t S H R ∨ t' S H R) := ⟨fun pins s σ H R I q => q.elim (h.run pins s σ H R I) (h'.run pins s σ H R I)⟩
/-- .. told by the value -/
def tgSeq (K : PySem.W.Frag) (te : TE) : TI := fun σ H R => te σ H fun x H1 => ∃ a, x = .ref a ∧ ((∃ vs, SqL K H1 a vs ∧ R (Itl K a) H1) ∨ ∃ vs, SqT K H1 a vs ∧ R (Itt K a) H1)
theorem pi_seq {te : TE} (hl : PE X e te) : PI X tg e (tgSeq X.K te) := by
  refine ⟨fun pins s σ H R I h => ?_⟩
  refine thn (hl.run pins s σ H _ I h) fun v s1 ⟨x, H1, I1, r1, a, ea, q1⟩ => ?_
  subst ea
  cases r1
  have base : ∀ b, b = s1.heap.objs.size → FpOk X pins H1 b := fun b hb => by
    subst hb
    exact I1.fpOk (Nat.le_refl _) (I1.hok.fresh (Nat.le_refl _))
  rcases q1 with ⟨vs, hq, q⟩ | ⟨vs, hq, q⟩
  · obtain ⟨its, rv, pl, hz⟩ := I1.list hq
    refine wpAny_pyIter_list pl.isList ?_
    exact ⟨_, [s1.heap.objs.size], _, _, H1, rfl, I1.kept (t' := s1.toks) fun b o e => Heap.get?_push_of_some _ e, turn_list a _, ⟨_, Heap.get?_push_size _ rfl, rfl, rfl⟩, fun b hb => base b (by simpa using hb), q⟩
  · obtain ⟨its, rv, pl, hz⟩ := I1.tuple hq
    refine wpAny_pyIter_tuple (show s1.heap.IsTuple a its.toArray from pl) ?_
    exact ⟨_, [s1.heap.objs.size], _, _, H1, rfl, I1.kept (t' := s1.toks) fun b o e => Heap.get?_push_of_some _ e, turn_tuple a _, ⟨_, Heap.get?_push_size _ rfl, rfl, rfl⟩, fun b hb => base b (by simpa using hb), q⟩
theorem i_seq (h : PE X e (SX X W f)) : PI X tg e (IX X W (iSeq1 f)) := PI.imp (pi_seq h) fun S H R ⟨env, ah, η, en, pk, h⟩ =>
  ⟨env, ah, η, en, pk, h.bind.imp0 fun d η1 H1 ah1 m1 p1 q1 => fun v rv => by
    obtain ⟨a, vs, ds, rfl, r1, q2, q3⟩ := seq1_post p1 rv q1
    rcases q3 with q3 | q3
    · exact ⟨a, rfl, .inr ⟨vs, q3, q2 _ (it_tup q3 r1)⟩⟩
    · exact ⟨a, rfl, .inl ⟨vs, q3.sq, q2 _ (it_list q3 r1)⟩⟩⟩
theorem i_str (h : PE X e (SX X W f)) : PI X tg e (IX X W (iStrI f)) := PI.imp (pi_str h) fun S H R ⟨env, ah, η, en, pk, h⟩ =>
  ⟨env, ah, η, en, pk, h.bind.imp0 fun d η1 H1 ah1 m1 p1 q1 => fun v rv => by
    cases rv with
    | str x => exact ⟨x, rfl, q1.at p1 _ it_str⟩
    | _ => exact q1.elim⟩
theorem i_rev (hg : Gl X "reversed") (hm : X.mg "reversed" = none) (h : PE X e (SX X W f)) (hs : starEach [e] X.env = (false, eval e X.env) :: starEach [] X.env := by rfl) : PI X tg (.Call (.Name "reversed" p) [e] [] pos) (IX X W (iRevI f)) :=
  PI.imp (RT.pi_revA hg hm h hs) fun S H R ⟨env, ah, η, en, pk, h⟩ =>
  ⟨env, ah, η, en, pk, h.bind.imp0 fun d η1 H1 ah1 m1 p1 q1 => fun v rv => by
    cases rv with
    | tup h1 r1 => exact ⟨_, _, rfl, .inr ⟨.inl (.inl h1), q1.at p1 _ (it_revT (.inl (.inl h1)) r1)⟩⟩
    | ct h1 r1 => exact ⟨_, _, rfl, .inr ⟨h1.sqt, q1.at p1 _ (it_revT h1.sqt r1)⟩⟩
    | lst h1 r1 => exact ⟨_, _, rfl, .inl ⟨h1.sq, q1.at p1 _ (it_revL h1 r1)⟩⟩
    | _ => exact q1.elim⟩
theorem i_range1 {a : Expr} (hg : Gl X "range") (hm : X.mg "range" = none) (ha : PA X [a] (AX' X W fs)) (hs : starEach [a] X.env = [(false, eval a X.env)] := by rfl) : PI X tg (.Call (.Name "range" p) [a] [] pos) (IX X W (iRange1 fs)) :=
  PI.imp (pi_range1 hg hm ha hs) fun S H R ⟨env, ah, η, en, pk, h⟩ =>
  ⟨env, ah, η, en, pk, h.bind.imp0 fun ds η1 H1 ah1 m1 p1 q1 => fun vs rs => by
    split at q1
    · rename_i j
      cases rs with
      | cons r rr =>
        cases r; cases rr
        split at q1
        · rename_i hj
          exact ⟨j, rfl, hj.1, hj.2, q1.at p1 _ it_range⟩
        · exact q1.elim
    · exact q1.elim⟩
theorem i_range2 {a b : Expr} (hg : Gl X "range") (hm : X.mg "range" = none) (ha : PA X [a, b] (AX' X W fs)) (hs : starEach [a, b] X.env = [(false, eval a X.env), (false, eval b X.env)] := by rfl) (hs2 : starEach [b] X.env = [(false, eval b X.env)] := by rfl) :
    PI X tg (.Call (.Name "range" p) [a, b] [] pos) (IX X W (iRange2 fs)) :=
  PI.imp (pi_range2 hg hm ha hs hs2) fun S H R ⟨env, ah, η, en, pk, h⟩ =>
  ⟨env, ah, η, en, pk, h.bind.imp0 fun ds η1 H1 ah1 m1 p1 q1 => fun vs rs => by
    split at q1
    · rename_i i j
      cases rs with
      | cons r rr =>
        cases r
        cases rr with
        | cons r rr =>
          cases r; cases rr
          split at q1
          · rename_i hj
            exact ⟨i, j, rfl, ⟨hj.1.1, hj.1.2, hj.2.1, hj.2.2⟩, q1.at p1 _ it_range⟩
          · exact q1.elim
    · exact q1.elim⟩
theorem i_zip (hg : Gl X "zip") (hm : X.mg "zip" = none) (ha : PA X [e, e2] (AX' X W fs)) (hs : starEach [e, e2] X.env = (false, eval e X.env) :: starEach [e2] X.env := by rfl) (hpl : (backTo pos (starEach [e2] X.env)).any (·.1) = false := by rfl) :
    PI X (.Tuple elts kk tpos) (.Call (.Name "zip" p) [e, e2] [] pos) (IX X W (iZipI fs)) :=
  PI.imp (RZ.pi_zipA hg hm ha hs hpl) fun S H R ⟨env, ah, η, en, pk, h⟩ =>
  ⟨env, ah, η, en, pk, h.bind.imp0 fun ds η1 H1 ah1 m1 p1 q1 => fun vs rs => by
    split at q1
    · cases rs with
      | cons r rr =>
        cases rr with
        | cons r2 rr =>
          cases rr
          split at q1
          · cases r with
            | lst h1 r1 =>
              cases r2 with
              | lst h2 r2 => exact ⟨_, _, _, _, rfl, .inl ⟨h1.sq, h2.sq, q1.at p1 _ (it_zipL h1 r1 h2 r2)⟩⟩
          · cases r with
            | tup h1 r1 =>
              cases r2 with
              | tup h2 r2 => exact ⟨_, _, _, _, rfl, .inr ⟨.inl (.inl h1), .inl (.inl h2), q1.at p1 _ (it_zipT (.inl (.inl h1)) r1 (.inl (.inl h2)) r2)⟩⟩
          · exact q1.elim
    · exact q1.elim⟩
theorem i_enum (hg : Gl X "enumerate") (hm : X.mg "enumerate" = none) (ha : PA X [e] (AX' X W fs)) (hs : starEach [e] X.env = [(false, eval e X.env)] := by rfl) :
    PI X (.Tuple elts kk tpos) (.Call (.Name "enumerate" p) [e] [] pos) (IX X W (iEnumI fs)) :=
  PI.imp (pi_enum hg hm ha hs) fun S H R ⟨env, ah, η, en, pk, h⟩ =>
  ⟨env, ah, η, en, pk, h.bind.imp0 fun ds η1 H1 ah1 m1 p1 q1 => fun vs rs => by
    split at q1
    · cases rs with
      | cons r rr =>
        cases rr
        cases r with
        | lst h1 r1 => exact ⟨_, _, rfl, h1.sq, q1.at p1 _ (it_enum h1 r1)⟩
    · exact q1.elim⟩
end
inductive Pt where
  | nm (i : Nat)
  | tp (ps : List Pt)
mutual
def ptB : Pt → D → AE → Option AE
  | .nm i, d, env => some (env.set i (some d))
  | .tp ps, d, env => match d with
    | .tup ds => ptBL ps ds env
    | .ct ds => ptBL ps ds env
    | .lst ds => ptBL ps ds env
    | _ => none
def ptBL : List Pt → List D → AE → Option AE
  | [], [], env => some env
  | p :: ps, d :: ds, env => match ptB p d env with
    | some env1 => ptBL ps ds env1
    | none => none
  | _, _, _ => none
end
mutual
def Pt.ix : Pt → List Nat
  | .nm i => [i]
  | .tp ps => Pt.ixL ps
def Pt.ixL : List Pt → List Nat
  | [] => []
  | p :: ps => p.ix ++ Pt.ixL ps
end
/-- but for those names the slots are as they were -/
def Kz (is : List Nat) (S S' : L2.St) : Prop := S'.length = S.length ∧ ∀ j, j ∉ is → S'[j]? = S[j]?
theorem Kz.trans {is js : List Nat} {S S1 S2 : L2.St} (a : Kz is S S1) (b : Kz js S1 S2) : Kz (is ++ js) S S2 := ⟨b.1.trans a.1, fun j h => (b.2 j fun z => h (List.mem_append_right _ z)).trans (a.2 j fun z => h (List.mem_append_left _ z))⟩
theorem Kz.mono {is js : List Nat} {S S1 : L2.St} (a : Kz is S S1) (h : ∀ i ∈ is, i ∈ js) : Kz js S S1 := ⟨a.1, fun j n => a.2 j fun z => n (h j z)⟩
def GJ (G : KW) (is : List Nat) (f : D → AE → Option AE) : TG := fun v S H Q => ∃ (env : AE) (η : List Addr) (d : D) (env' : AE), EnvOk G η H env S ∧ Rel G η H d v ∧ f d env = some env' ∧ ∀ S', EnvOk G η H env' S' → Kz is S S' → Q S' H
def GsJ (G : KW) (is : List Nat) (f : List D → AE → Option AE) : TGs := fun vs S H Q => ∃ (env : AE) (η : List Addr) (ds : List D) (env' : AE), EnvOk G η H env S ∧ RelAll G η H ds vs ∧ f ds env = some env' ∧ ∀ S', EnvOk G η H env' S' → Kz is S S' → Q S' H
section
variable {X : Cx} {W : XW} {e e2 tg : Expr} {es : List Expr} {f : FE} {fs : List FE} {p pos tpos : Pos} {elts : List Expr} {kk : Nat}
/-- a target -/
abbrev GP (X : Cx) (q : Pt) : TG := GJ (gX X) q.ix (ptB q)
abbrev GPs (X : Cx) (qs : List Pt) : TGs := GsJ (gX X) (Pt.ixL qs) (ptBL qs)
theorem g_nm (i : Nat) {x : Str} (hN : X.N.Nodup) (hi : X.N[i]? = some x := by rfl) (hx : Loc X.env.scope x := by first | exact Or.inl rfl | exact Or.inr rfl) (hf : X.fn x = true ∨ X.env.scope.names.lookup x = some .local := by first | exact .inl rfl | exact .inr rfl) :
    PG X (.Name x pos) (GP X (.nm i)) := PG.imp (pg_name hN hi hx hf) fun v S H Q ⟨env, η, d, env', en, r, h, k⟩ => by
  simp only [ptB] at h
  cases h
  refine k _ (en.set i r) ⟨by simp, fun j n => ?_⟩
  have hj : i ≠ j := fun z => n (by rw [z]; simp [Pt.ix])
  rw [List.getElem?_set_ne hj]
theorem gs_nil : PGs X [] (GPs X []) := PGs.imp pgs_nil fun vs S H Q ⟨env, η, ds, env', en, r, h, k⟩ => by
  cases r with
  | nil => simp only [ptBL] at h; cases h; exact ⟨rfl, k _ en ⟨rfl, fun _ _ => rfl⟩⟩
  | cons _ _ => simp only [ptBL] at h; cases h
theorem gs_cons {q : Pt} {qs : List Pt} (h1 : PG X e (GP X q)) (h2 : PGs X es (GPs X qs)) (hs : (assignEach (e :: es) X.env).map (·.2) = assign e X.env :: (assignEach es X.env).map (·.2) := by rfl) :
    PGs X (e :: es) (GPs X (q :: qs)) := PGs.imp (pgs_cons h1 h2 hs) fun vs S H Q ⟨env, η, ds, env', en, r, h, k⟩ => by
  cases r with
  | nil => simp only [ptBL] at h; cases h
  | cons r rr =>
    simp only [ptBL] at h
    split at h
    · rename_i env1 e1
      exact ⟨_, _, rfl, env, η, _, env1, en, r, e1, fun S' en' k1 => ⟨env1, η, _, env', en', rr, h, fun S2 en2 k2 => k S2 en2 (k1.trans k2)⟩⟩
    · cases h
theorem ptBL_len : ∀ {ps : List Pt} {ds : List D} {env env' : AE}, ptBL ps ds env = some env' → ds.length = ps.length
  | [], [], _, _, _ => rfl
  | [], _ :: _, _, _, h => by simp [ptBL] at h
  | _ :: _, [], _, _, h => by simp [ptBL] at h
  | p :: ps, d :: ds, env, env', h => by
    simp only [ptBL] at h
    split at h
    · rw [List.length_cons, List.length_cons, ptBL_len h]
    · cases h
theorem g_tp {qs : List Pt} (hc : X.calm = true) (h : PGs X es (GPs X qs)) (hn : (assignEach es X.env).length = qs.length := by rfl) (hst : (assignEach es X.env).findIdx? (·.1) = none := by rfl) :
    PG X (.Tuple es kk pos) (GP X (.tp qs)) := ⟨fun pins s S H v u Q I rv ⟨env, η, d, env', en, r, h0, k⟩ => by
  have A := pg_tup (k := kk) (pos := pos) hc h hn hst
  have B := pg_lst (k := kk) (pos := pos) hc h hn hst
  simp only [ptB] at h0
  cases r with
  | tup h1 r1 => exact A.run pins s S H _ u Q I rv ⟨_, _, rfl, .inl (.inl h1), by rw [← r1.length]; exact ptBL_len h0, env, η, _, env', en, r1, h0, k⟩
  | ct h1 r1 => exact A.run pins s S H _ u Q I rv ⟨_, _, rfl, h1.sqt, by rw [← r1.length]; exact ptBL_len h0, env, η, _, env', en, r1, h0, k⟩
  | lst h1 r1 => exact B.run pins s S H _ u Q I rv ⟨_, _, rfl, h1.sq, by rw [← r1.length]; exact ptBL_len h0, env, η, _, env', en, r1, h0, k⟩
  | _ => cases h0⟩
end
inductive Fl where
  | nx | rt (d : D) | bk | ct
abbrev FS := AE → AH → Res (Fl × AE)
/-- what a flow wants -/
def QS (G : KW) (Dn : Ends) : Fl × AE → List Addr → Hp → AH → Prop := fun r η H _ => match r.1 with
  | .nx => ∀ S', EnvOk G η H r.2 S' → Dn.nx S' H
  | .rt d => ∀ v, Rel G η H d v → Dn.rt v H
  | .bk => ∀ S', EnvOk G η H r.2 S' → Dn.bk S' H
  | .ct => ∀ S', EnvOk G η H r.2 S' → Dn.ct S' H
def SS (G : KW) (W : XW) (f : FS) : TS := fun Dn S H => ∃ (env : AE) (ah : AH) (η : List Addr), EnvOk G η H env S ∧ HpOk G η H ah ∧ Post G W η H (f env ah) (QS G Dn)
abbrev SSX (X : Cx) (W : XW) (f : FS) : TS := SS (gX X) W f
def sNx : FS := fun env ah => .ok (.nx, env) ah
def sSeq (f g : FS) : FS := fun env ah => (f env ah).bind fun r ah1 => match r with
  | (.nx, env1) => g env1 ah1
  | r => .ok r ah1
def sRet (f : FE) : FS := fun env ah => (f env ah).bind fun d ah1 => .ok (.rt d, env) ah1
def sRetN : FS := fun env ah => .ok (.rt .non, env) ah
def sDrop (f : FE) : FS := fun env ah => (f env ah).bind fun _ ah1 => .ok (.nx, env) ah1
def sIf (t : FT) (f g : FS) : FS := fun env ah => (t env ah).bind fun b ah1 => if b = true then f env ah1 else g env ah1
def sBk : FS := fun env ah => .ok (.bk, env) ah
def sCt : FS := fun env ah => .ok (.ct, env) ah
/-- targets = e -/
def sAsg (g : D → AE → Option AE) (f : FE) : FS := fun env ah => (f env ah).bind fun d ah1 => match g d env with
  | some env1 => .ok (.nx, env1) ah1
  | none => .bad
section
variable {X : Cx} {W : XW} {st : Stmt} {rest a b : List Stmt} {e tg : Expr} {es : List Expr} {f : FE} {ft : FT} {s g : FS} {fs : List FE} {p pos pos' tpos : Pos} {elts : List Expr} {kk : Nat}
theorem s_nil : PSs X [] (SSX X W sNx) := PSs.imp pss_nil fun Dn S H ⟨env, ah, η, en, pk, h⟩ => h.at pk S en
theorem s_cons (h : PS X st (SSX X W s)) (k : PSs X rest (SSX X W g)) : PSs X (st :: rest) (SSX X W (sSeq s g)) := PSs.imp (pss_cons h k) fun Dn S H ⟨env, ah, η, en, pk, h⟩ =>
  ⟨env, ah, η, en, pk, h.bind.imp0 fun r η1 H1 ah1 m1 p1 q1 => by
    obtain ⟨fl, env1⟩ := r
    cases fl with
    | nx => exact fun S' en' => ⟨env1, ah1, η1, en', p1, q1⟩
    | rt d => exact q1.at p1
    | bk => exact q1.at p1
    | ct => exact q1.at p1⟩
theorem s_one (h : PS X st (SSX X W s)) : PSs X [st] (SSX X W s) := pss_one h
theorem s_ret (h : PE X e (SX X W f)) : PS X (.Return (some e) pos) (SSX X W (sRet f)) := PS.imp (ps_ret h) fun Dn S H ⟨env, ah, η, en, pk, h⟩ =>
  ⟨env, ah, η, en, pk, h.bind.imp0 fun d η1 H1 ah1 m1 p1 q1 => q1.at p1⟩
theorem s_retN : PS X (.Return none pos) (SSX X W sRetN) := PS.imp ps_retN fun Dn S H ⟨env, ah, η, en, pk, h⟩ => h.at pk _ .non
theorem s_drop (h : PE X e (SX X W f)) (hs : swapsWith e none pos.line X.env = pure false := by rfl) : PS X (.Expr e pos) (SSX X W (sDrop f)) := PS.imp (ps_expr h hs) fun Dn S H ⟨env, ah, η, en, pk, h⟩ =>
  ⟨env, ah, η, en, pk, h.bind.imp0 fun d η1 H1 ah1 m1 p1 q1 => fun v rv => q1.at p1 S (en.mv m1)⟩
theorem s_doc {x : Str} {j : Nat} {pos' : Pos} : PS X (.Expr (.Constant (.str x) j pos) pos') (SSX X W sNx) := PS.imp ps_doc fun Dn S H ⟨env, ah, η, en, pk, h⟩ => h.at pk S en
theorem s_if {c : Expr} (hc : PT X c (TX X W ft)) (ha : PSs X a (SSX X W s)) (hb : PSs X b (SSX X W g)) : PS X (.If c a b pos) (SSX X W (sIf ft s g)) := PS.imp (ps_if hc ha hb) fun Dn S H ⟨env, ah, η, en, pk, h⟩ =>
  ⟨env, ah, η, en, pk, h.bind.imp0 fun b η1 H1 ah1 m1 p1 q1 => by
    cases b with
    | true => exact ⟨env, ah1, η1, en.mv m1, p1, q1⟩
    | false => exact ⟨env, ah1, η1, en.mv m1, p1, q1⟩⟩
theorem s_bk : PS X (.Break pos) (SSX X W sBk) := PS.imp ps_break fun Dn S H ⟨env, ah, η, en, pk, h⟩ => h.at pk S en
theorem s_ct : PS X (.Continue pos) (SSX X W sCt) := PS.imp ps_continue fun Dn S H ⟨env, ah, η, en, pk, h⟩ => h.at pk S en
theorem s_pass : PS X (.Pass pos) (SSX X W sNx) := PS.imp ps_pass fun Dn S H ⟨env, ah, η, en, pk, h⟩ => h.at pk S en
/-- name = e -/
theorem s_set (i : Nat) {x : Str} (hN : X.N.Nodup) (he : PE X e (SX X W f)) (hi : X.N[i]? = some x := by rfl) (hx : Loc X.env.scope x := by first | exact Or.inl rfl | exact Or.inr rfl) (hs : swapsWith e (some (.Name x pos')) pos.line X.env = pure false := by rfl) (hf : X.fn x = true ∨ X.env.scope.names.lookup x = some .local := by first | exact .inl rfl | exact .inr rfl) :
    PS X (.Assign [.Name x pos'] e pos) (SSX X W (sAsg (ptB (.nm i)) f)) := PS.imp (ps_set hN hi hx he hs hf) fun Dn S H ⟨env, ah, η, en, pk, h⟩ =>
  ⟨env, ah, η, en, pk, h.bind.imp0 fun d η1 H1 ah1 m1 p1 q1 => fun v rv => by
    simp only [ptB] at q1
    exact q1.at p1 _ ((en.mv m1).set i rv)⟩
/-- a, b = e -/
theorem s_asg {g : D → AE → Option AE} {is : List Nat} (he : PE X e (SX X W f)) (hg : PG X tg (GJ (gX X) is g)) (hs : swapsWithSole [tg] e pos.line X.env = pure false := by rfl) (hw : swappedStores [tg] e X.env = pure none := by rfl) (h1 : (assignEach [tg] X.env).map (·.2) = [assign tg X.env] := by rfl) :
    PS X (.Assign [tg] e pos) (SSX X W (sAsg g f)) := PS.imp (ps_asg he hg hs hw h1) fun Dn S H ⟨env, ah, η, en, pk, h⟩ =>
  ⟨env, ah, η, en, pk, h.bind.imp0 fun d η1 H1 ah1 m1 p1 q1 => fun v rv => by
    split at q1
    · rename_i env1 e1
      exact ⟨env, η1, d, env1, en.mv m1, rv, e1, fun S' en' _ => q1.at p1 S' en'⟩
    · exact q1.elim⟩
def forL (g : D → AE → Option AE) (body : FS) : List D → AE → AH → Res (Fl × AE)
  | [], env, ah => .ok (.nx, env) ah
  | d :: ds, env, ah => match g d env with
    | none => .bad
    | some env1 => (body env1 ah).bind fun r ah1 => match r with
      | (.nx, env2) => forL g body ds env2 ah1
      | (.ct, env2) => forL g body ds env2 ah1
      | (.bk, env2) => .ok (.nx, env2) ah1
      | (.rt d, env2) => .ok (.rt d, env2) ah1
def sFor (fi : FI) (g : D → AE → Option AE) (body : FS) : FS := fun env ah => (fi env ah).bind fun ds ah1 => forL g body ds env ah1
theorem s_for {iter : Expr} {body : List Stmt} {fi : FI} {q : Pt} {fb : FS} (hp : PassesOwn (model X.prog X.w) X.A X.env X.xe) (hc : X.calm = true) (hi : PI X tg iter (IX X W fi)) (hg : PG X tg (GP X q)) (hb : PSs X body (SSX X W fb))
    (hs : ∀ x, foldedSetIterable iter X.env x = pure x := by intro _; rfl) : PS X (.For tg iter body [] pos) (SSX X W (sFor fi (ptB q) fb)) := PS.imp (ps_for hp hc hi hg hb hs) fun Dn S H ⟨env, ah, η, en, pk, h⟩ => by
  refine ⟨env, ah, η, en, pk, h.bind.imp0 fun ds η1 H1 ah1 m1 p1 q1 => fun J hJ => ?_⟩
  refine ⟨fun i m S H => m = ds.length - i ∧ i ≤ ds.length ∧ ∃ env ah η, EnvOk (gX X) η H env S ∧ HpOk (gX X) η H ah ∧ Mv η1 H1 η H ∧ Post (gX X) W η H (forL (ptB q) fb (ds.drop i) env ah) (QS (gX X) Dn),
    ⟨ds.length, by simp, Nat.zero_le _, env, ah1, η1, en.mv m1, p1, Mv.refl, q1⟩, ?_⟩
  rintro i m S2 H2 ⟨rfl, hi, env2, ah2, η2, en2, p2, m2, q2⟩
  by_cases hlt : i < ds.length
  · have hd : ds[i]? = some ds[i] := by simp [hlt]
    obtain ⟨hgo, hy⟩ := hJ.go i _ hd H2 m2.ext
    refine .inr ⟨hgo, fun S' H' => i + 1 ≤ ds.length ∧ ∃ env ah η, EnvOk (gX X) η H' env S' ∧ HpOk (gX X) η H' ah ∧ Mv η1 H1 η H' ∧ Post (gX X) W η H' (forL (ptB q) fb (ds.drop (i + 1)) env ah) (QS (gX X) Dn),
      fun S' H' k => ⟨ds.length - (i + 1), by omega, rfl, k⟩, fun x H3 y => ?_⟩
    obtain ⟨sm, rx⟩ := hy x H3 y
    rw [List.drop_eq_getElem_cons hlt] at q2
    simp only [forL] at q2
    split at q2
    · exact q2.elim
    · rename_i env3 e3
      have m3 : Mv η2 H2 η2 H3 := .same sm
      refine ⟨env2, η2, ds[i], env3, en2.mv m3, rx.ext m2.pre (Ext.refl _), e3, fun S3 en3 _ => ⟨env3, ah2, η2, en3, p2.same sm, (q2.mono m3).bind.imp0 fun r η4 H4 ah4 m4 p4 q4 => ?_⟩⟩
      obtain ⟨fl, env4⟩ := r
      have m5 : Mv η1 H1 η4 H4 := (m2.trans m3).trans m4
      cases fl with
      | nx => exact fun S' en' => ⟨by omega, env4, ah4, η4, en', p4, m5, q4⟩
      | ct => exact fun S' en' => ⟨by omega, env4, ah4, η4, en', p4, m5, q4⟩
      | bk => exact q4.at p4
      | rt d => exact q4.at p4
  · have hi2 : ds.length ≤ i := by omega
    rw [List.drop_of_length_le hi2] at q2
    exact .inl ⟨hJ.stop i hi2 H2 m2.ext, q2.at p2 S2 en2⟩
end
def wipeA (env : AE) : List Nat → AE
  | [] => env
  | v :: vs => (wipeA env vs).set v none
theorem EnvOk.wipe {G : KW} {η : List Addr} {H : Hp} {env : AE} {S : L2.St} (h : EnvOk G η H env S) : ∀ vs : List Nat, EnvOk G η H (wipeA env vs) (L2.wipe S vs)
  | [] => h
  | v :: vs => by
    have k := EnvOk.wipe h vs
    refine ⟨by simp [wipeA, L2.wipe, k.len], fun i d e => ?_⟩
    simp only [wipeA] at e
    by_cases hi : v = i
    · subst hi
      have hl : v < (wipeA env vs).length := by
        have := (List.getElem?_eq_some_iff.mp e).1
        simpa using this
      rw [List.getElem?_set_self hl] at e
      cases e
    · rw [List.getElem?_set_ne hi] at e
      obtain ⟨w, h1, h2⟩ := k.ok i d e
      exact ⟨w, by simp only [L2.wipe]; rw [List.getElem?_set_ne hi]; exact h1, h2⟩
theorem wipe_len (S : L2.St) : ∀ vs : List Nat, (L2.wipe S vs).length = S.length
  | [] => rfl
  | v :: vs => by simp [L2.wipe, wipe_len S vs]
theorem wipe_in {S : L2.St} : ∀ {vs : List Nat} {i : Nat}, i ∈ vs → i < S.length → (L2.wipe S vs)[i]? = some none
  | v :: vs, i, h, hl => by
    simp only [L2.wipe]
    by_cases e : v = i
    · subst e
      rw [List.getElem?_set_self (by rw [wipe_len]; exact hl)]
    · rw [List.getElem?_set_ne e]
      rcases List.mem_cons.mp h with q | q
      · exact absurd q.symm e
      · exact wipe_in q hl
theorem wipe_kz {vs : List Nat} {S S' : L2.St} (k : Kz vs (L2.wipe S vs) S') : L2.wipe S' vs = L2.wipe S vs := by
  have hl : S'.length = S.length := k.1.trans (wipe_len S vs)
  refine List.ext_getElem? fun i => ?_
  by_cases h : i ∈ vs
  · by_cases hi : i < S.length
    · rw [wipe_in h (by rw [hl]; exact hi), wipe_in h hi]
    · rw [List.getElem?_eq_none (by rw [wipe_len, hl]; omega), List.getElem?_eq_none (by rw [wipe_len]; omega)]
  · rw [wipe_out h, k.2 i h]
def compL (g : D → AE → Option AE) (t : FT) (f : FE) (env : AE) : List D → List D → AH → Res (List D)
  | [], acc, ah => .ok acc ah
  | d :: ds, acc, ah => match g d env with
    | none => .bad
    | some env1 => (t env1 ah).nox.bind fun b ah1 => if b = true then (f env1 ah1).nox.bind fun x ah2 => if acc.length < sizeLine then compL g t f env ds (acc ++ [x]) ah2 else .bad else compL g t f env ds acc ah1
/-- [f for q in fi if t], as it stays -/
def iLc (fi : FI) (g : D → AE → Option AE) (t : FT) (f : FE) (vs : List Nat) : FE := fun env ah => (fi env ah).bind fun ds ah1 => (compL g t f (wipeA env vs) ds [] ah1).bind fun xs ah2 => .ok (.lst xs) ah2
/-- .. that will change -/
def iLcM (fi : FI) (g : D → AE → Option AE) (t : FT) (f : FE) (vs : List Nat) : FE := fun env ah => (fi env ah).bind fun ds ah1 => (compL g t f (wipeA env vs) ds [] ah1).bind fun xs ah2 => .ok (.ref ah2.length) (ah2 ++ [.lst xs])
section
variable {X : Cx} {W : XW} {elt tg iter : Expr} {ifs : List Expr} {scope : Scope} {own : List (Str × Nat)} {pos : Pos} {fi : FI} {q : Pt} {ft : FT} {f : FE}
theorem c_nil : PTs X [] (TX X W fun _ ah => .ok true ah) := PTs.imp pts_nil fun S H Q ⟨env, ah, η, en, pk, h⟩ => h.at pk
theorem c_one {c : Expr} (h : PT X c (TX X W ft)) : PTs X [c] (TX X W ft) := pts_one h
/-- the loop of a comprehension, its end wanted as R -/
theorem lc_loop {β : Type} {G : KW} {vs : List Nat} {S : L2.St} {H : Hp} {R : VK} {k : List D → AH → Res β} {Q : β → List Addr → Hp → AH → Prop} {env : AE} {ah : AH} {η : List Addr}
    (en : EnvOk G η H env S) (pk : HpOk G η H ah) (hq : ∀ i ∈ q.ix, i ∈ vs) (h : Post G W η H ((fi env ah).bind fun ds ah1 => (compL (ptB q) ft f (wipeA env vs) ds [] ah1).bind k) Q)
    (fin : ∀ (Dd : Addr) (η1 η' : List Addr) (H1 H' : Hp) (acc : List V) (xs : List D) (ah' : AH), Mv η H η1 H1 → H1 Dd = none → H' Dd = some (.lst acc) → Dd ∉ η' → RelAll G η' H' xs acc → Mv η1 H1 η' H' → HpOk G η' H' ah' → Post G W η1 H1 (k xs ah') Q → R (.ref Dd) H') :
    tLc (IJ G W fi) (GJ G q.ix (ptB q)) (TJ G noW ft) (SJ G noW f) vs S H R := by
  refine ⟨env, ah, η, en, pk, h.bind.imp0 fun ds η1 H1 ah1 m1 p1 q1 => fun J hJ => ?_⟩
  intro Dd hD
  have hD0 := same_new (o := .lst []) hD
  have en0 := (en.mv m1).wipe vs
  refine ⟨fun i m H' => m = ds.length - i ∧ i ≤ ds.length ∧ ∃ acc xs ah η', H' Dd = some (.lst acc) ∧ Dd ∉ η' ∧ RelAll G η' H' xs acc ∧ HpOk G η' H' ah ∧ Mv η1 H1 η' H' ∧ Post G W η1 H1 ((compL (ptB q) ft f (wipeA env vs) (ds.drop i) xs ah).bind k) Q,
    ⟨ds.length, by simp, Nat.zero_le _, [], [], ah1, η1, upd_same, p1.fresh hD, .nil, p1.same hD0, .same hD0, q1⟩, ?_⟩
  rintro i m H2 ⟨rfl, hi, acc, xs, ah2, η2, hD2, nD, r2, p2, m2, q2⟩
  by_cases hlt : i < ds.length
  · have hd : ds[i]? = some ds[i] := by simp [hlt]
    obtain ⟨hgo, hy⟩ := hJ.go i _ hd H2 m2.ext
    refine .inr ⟨hgo, fun H' => i + 1 ≤ ds.length ∧ ∃ acc xs ah η', H' Dd = some (.lst acc) ∧ Dd ∉ η' ∧ RelAll G η' H' xs acc ∧ HpOk G η' H' ah ∧ Mv η1 H1 η' H' ∧ Post G W η1 H1 ((compL (ptB q) ft f (wipeA env vs) (ds.drop (i + 1)) xs ah).bind k) Q,
      fun H' k => ⟨ds.length - (i + 1), by omega, rfl, k⟩, fun x H3 y => ?_⟩
    obtain ⟨sm, rx⟩ := hy x H3 y
    rw [List.drop_eq_getElem_cons hlt] at q2
    simp only [compL] at q2
    split at q2
    · exact q2.elim
    · rename_i env3 e3
      have m3 : Mv η2 H2 η2 H3 := .same sm
      have m13 := m2.trans m3
      refine ⟨wipeA env vs, η2, ds[i], env3, en0.mv m13, rx.ext m2.pre (Ext.refl _), e3, fun S3 en3 kz => ⟨?_, ?_⟩⟩
      · exact wipe_kz (kz.mono hq)
      · have assoc : ∀ {α β γ : Type} (r : Res α) (g1 : α → AH → Res β) (g2 : β → AH → Res γ), (r.bind g1).bind g2 = r.bind fun a h => (g1 a h).bind g2 := fun r _ _ => by cases r <;> rfl
        rw [assoc] at q2
        have q3 := Post.bindB q2 m13
        refine ⟨env3, ah2, η2, en3, p2.same sm, (Post.nox q3).imp0 fun b η4 H4 ah4 m4 p4 q4 => ?_⟩
        have m14 := m13.trans m4
        have hD4 : H4 Dd = some (.lst acc) := m4.frm _ _ (m3.frm _ _ hD2 nD) nD
        have nD4 : Dd ∉ η4 := fun z => (m4.new _ z).elim nD fun w => by rw [m3.frm _ _ hD2 nD] at w; cases w
        cases b with
        | true =>
          simp only [if_true] at q4 ⊢
          rw [assoc] at q4
          have q5 := Post.bindB q4 m14
          refine ⟨env3, ah4, η4, en3.mv m4, p4, (Post.nox q5).imp0 fun z η5 H5 ah5 m5 p5 q6 => fun w rw' => ?_⟩
          have hD5 : H5 Dd = some (.lst acc) := m5.frm _ _ hD4 nD4
          have nD5 : Dd ∉ η5 := fun z => (m5.new _ z).elim nD4 fun w => by rw [hD4] at w; cases w
          have r5 : RelAll G η5 H5 xs acc := (r2.mv m3).mv (m4.trans m5)
          split at q6
          · rename_i hz
            have m6 : Mv η5 H5 η5 H5 := Mv.refl
            have E : Ext H5 (upd H5 Dd (.lst (acc ++ [w]))) := Ext.upd hD5 (fun _ z => nomatch z) (fun _ _ z => nomatch z)
            refine ⟨acc, hD5, by rw [← r2.length]; exact hz, by omega, acc ++ [w], xs ++ [z], ah5, η5, upd_same, nD5, (r5.snoc rw').ext (List.prefix_refl _) E, p5.side nD5 hD5 (fun _ z => nomatch z) (fun _ _ z => nomatch z), (m14.trans m5).side hD hD5, q6⟩
          · exact q6.elim
        | false =>
          rw [if_neg Bool.false_ne_true] at q4
          dsimp only
          rw [if_neg Bool.false_ne_true]
          exact ⟨by omega, acc, xs, ah4, η4, hD4, nD4, r2.mv (m3.trans m4), p4, m14, q4⟩
  · have hi2 : ds.length ≤ i := by omega
    rw [List.drop_of_length_le hi2] at q2
    exact .inl ⟨hJ.stop i hi2 H2 m2.ext, fin Dd η1 η2 H1 H2 acc xs ah2 m1 hD hD2 nD r2 m2 p2 q2⟩
end
end DL
namespace DL
open PySem PySem.Spec PyProof.Rows L2
/-- no repr is under way -/
def NoRepr (A : Around) : Prop := A.guards = some []
theorem NoRepr.deeper {A : Around} (h : NoRepr A) (e : Env) : NoRepr (A.deeper e) := by
  unfold NoRepr at *
  exact h
structure FnG (P : Program) (w : World) (K : PySem.W.Frag) (mg : Str → Option Value) (base : Heap) (CX : CXT) (k : Nat) (f : Addr) (fd : FuncData) (ps : List Str) (sp : Sp) : Prop where
  len : ∀ xs H Q E, sp xs H Q E → xs.length = ps.length
  go : ∀ (A : Around) (out : List Env) (s : Shared) (H : Hp) (as : Args) (us : List Value) (xs : List V) (Q : VK) (E : XK), Room k A → NoRepr A → Env0 P w K mg base A out s H → BindsTo s fd as (ps.zip us) → Vals xs us →
    sp xs H Q E → codeAny (model P w) A (.call (.ref f) as) (CR CX out P w H s Q E) s
section
variable {P : Program} {w : World} {K : PySem.W.Frag} {mg : Str → Option Value} {base : Heap} {CX : CXT} {f : Addr} {fd : FuncData} {ps : List Str}
theorem FnG.of {k : Nat} {sp : Sp} (F : FnOk P w K mg base CX k f fd ps sp) : FnG P w K mg base CX k f fd ps sp :=
  ⟨F.len, fun A out s H as us xs Q E r _ e b v h => F.run A out s H as us xs Q E r e b v h⟩
theorem FnG.mono {j k : Nat} {sp : Sp} (F : FnG P w K mg base CX j f fd ps sp) (h : j ≤ k) : FnG P w K mg base CX k f fd ps sp :=
  ⟨F.len, fun A out s H as us xs Q E r => F.go A out s H as us xs Q E (r.mono h)⟩
theorem FnG.imp {k : Nat} {sp sp' : Sp} (F : FnG P w K mg base CX k f fd ps sp) (h : ∀ xs H Q E, sp' xs H Q E → sp xs H Q E) : FnG P w K mg base CX k f fd ps sp' :=
  ⟨fun xs H Q E q => F.len xs H Q E (h _ _ _ _ q), fun A out s H as us xs Q E r n e b v q => F.go A out s H as us xs Q E r n e b v (h _ _ _ _ q)⟩
theorem fnG_of {k : Nat} {x qual : Str} {st : Stmt} {N : List Str} {sp : Sp} (F : Fun K x qual st f fd) (S : FnScope N ps (defScope st)) (len : ∀ xs H Q E, sp xs H Q E → xs.length = ps.length)
    (hb : ∀ (cdv : Value) (A : Around) (out : List Env) (s : Shared) (H : Hp) (xs : List V) (Q : VK) (E : XK), Room k (A.deeper (envOfC qual (defScope st) s.heap.objs.size f cdv)) → NoRepr A → sp xs H Q E →
      ∃ t, PSs (cxOf CX P w K mg base N qual (defScope st) f cdv A out s H E) (defBody st) t ∧ t ⟨fun _ H' => Q .non H', Q, fun _ _ => False, fun _ _ => False⟩ (start N xs) H) :
    FnG P w K mg base CX (k + 1) f fd ps sp := by
  obtain ⟨oc, od, kV, doc, pm, an, cdv, ct, osl, rfl, lk, hcd⟩ := F.ex
  refine ⟨len, fun A out s H as us xs Q E hr hn e0 hbd r hsp => ?_⟩
  have hl := len _ _ _ _ hsp
  have KX : K.In s.heap := e0.mod.kin.keeps fun b o e => (e0.bs b o e).1
  have lim : s.heap.NoLimit := e0.mod.nolimit.keeps fun b o e => (e0.bs b o e).1
  have hkd : ∀ y ∈ ps.zip us, (defScope st).names.lookup y.1 = some .local ∨ ((defScope st).names.lookup y.1 = some .cell ∧ ((cellsFrom (s.heap.objs.size + 1) (defScope st).names []).lookup y.1).isSome = true) := by
    rintro ⟨n, v⟩ hy
    exact (S.par n (List.of_mem_zip hy).1).imp id fun q => ⟨q, PySem.W.cellsFrom_some _ _ _ (.inl q)⟩
  refine codeAny_call_function hr.depth (KX _ _ lk) rfl S.co S.gen rfl (PySem.W.codeRec_of KX hcd) (hbd _ _ _ _ ?_)
  refine wpAny_newFunctionEnv_cells S.kind hkd fun env he s1 x => ?_
  subst he
  refine ⟨lim.keeps x.toInCall.keep, codeAny_func ?_⟩
  obtain ⟨t, ht, hq⟩ := hb cdv A out s H xs Q E (hr.deeper _) hn hsp
  have I : Inv (cxOf CX P w K mg base N qual (defScope st) f cdv A out s H E) [] (start N xs) H s1 := inv_start S hr.hd e0 hl r x
  refine wpAny_mono (ht.run [] s1 (start N xs) H _ I hq) (fun fl s' hs => ?_) fun e s' hs => hs
  cases fl with
  | ret u => obtain ⟨v, σ', H', J, rvv, q⟩ := hs; exact ⟨v, H', J.os, J.bare, J.base, J.hok, rvv, q⟩
  | next => obtain ⟨σ', H', J, q⟩ := hs; exact ⟨.non, H', J.os, J.bare, J.base, J.hok, rfl, q⟩
  | brk => obtain ⟨_, _, _, q⟩ := hs; exact q.elim
  | cont => obtain ⟨_, _, _, q⟩ := hs; exact q.elim
end
section
variable {X : Cx} {CX : CXT} {k : Nat} {f : Addr} {fd : FuncData} {ps : List Str} {sp : Sp} {ds : List Value} {dvs : List V} {E : XK} {x : Str} {p pos : Pos} {t : TA}
theorem run_fnG {pnz : List (Addr × Obj)} {σ : L2.St} {H : Hp} {s : Shared} {Q : VK} {us : List Value} {xs : List V} (F : FnG X.prog X.w X.K X.mg X.base CX k f fd ps sp) (hr : Room k X.A) (hn : NoRepr X.A)
    (hb : Binds X.K fd ps ds) (hd : Vals dvs ds) (hx : Passes CX X E) (I : Inv X pnz σ H s) (r : Vals xs us) (h : sp (xs ++ dvs) H Q E) : wpAny (model X.prog X.w) X.A (call (.ref f) us) (EP X pnz σ Q) X.xe s := by
  have r2 := r.append hd
  have hl : (us ++ ds).length = ps.length := by rw [← r2.length]; exact F.len _ _ _ _ h
  refine wpAny_call (codeAny_mono (F.go X.A X.stack s H ⟨us, []⟩ (us ++ ds) (xs ++ dvs) Q E hr hn I.env0 (hb s us I.kIn hl) r2 h) fun r s' hq => ?_)
  match r, hq with
  | .error e, hq => exact hx pnz σ H s e s' I hq
  | .ok (.ret u), hq => exact I.after hq
  | .ok .next, hq => exact False.elim hq
  | .ok .brk, hq => exact False.elim hq
  | .ok .cont, hq => exact False.elim hq
theorem pe_callG {e : Expr} {es : List Expr} (F : FnG X.prog X.w X.K X.mg X.base CX k f fd ps sp) (hr : Room k X.A) (hn : NoRepr X.A) (hg : Gl X x) (hm : X.mg x = some (.ref f)) (hk : PySem.W.keepIn X.K (.ref f) = true)
    (hb : Binds X.K fd ps ds) (hd : Vals dvs ds) (hx : Passes CX X E) (ha : PA X (e :: es) t) (hdb : (x == ("__debug__" : Str)) = false := by decide)
    (he : starEach (e :: es) X.env = (false, eval e X.env) :: starEach es X.env := by rfl) (hpl : (backTo pos (starEach es X.env)).any (·.1) = false := by rfl) :
    PE X (.Call (.Name x p) (e :: es) [] pos) (tCall sp dvs E t) := ⟨fun pnz s σ H Q I h =>
  wpAny_Call_Name_kw (ld_glob I hg hm (PySem.W.callWith_K (h₀ := X.base) I.ok.mod.kin hk (thn (ha.run pos pnz s σ H _ I h) fun us s1 ⟨xs, H1, I1, r, q⟩ => ⟨I1.kIn, run_fnG F hr hn hb hd hx I1 r q⟩) he hpl) hdb)⟩
theorem pe_callG0 (F : FnG X.prog X.w X.K X.mg X.base CX k f fd ps sp) (hr : Room k X.A) (hn : NoRepr X.A) (hg : Gl X x) (hm : X.mg x = some (.ref f)) (hk : PySem.W.keepIn X.K (.ref f) = true)
    (hb : Binds X.K fd ps ds) (hd : Vals dvs ds) (hx : Passes CX X E) (hdb : (x == ("__debug__" : Str)) = false := by decide) :
    PE X (.Call (.Name x p) [] [] pos) (tCall sp dvs E tNil) := ⟨fun pnz s σ H Q I h =>
  wpAny_Call_Name_kw (ld_glob I hg hm (PySem.W.callWith_K0 I.kIn hk (run_fnG (us := []) F hr hn hb hd hx I .nil h)) hdb)⟩
end
end DL
namespace DL
open PySem PySem.Spec PyProof.Rows L2
section
variable {X : Cx} {W : XW} {elt tg iter : Expr} {ifs : List Expr} {scope : Scope} {own : List (Str × Nat)} {pos : Pos} {fi : FI} {q : Pt} {ft : FT} {f : FE}
theorem lc_fz {G : KW} {vs : List Nat} {S : L2.St} {H : Hp} {Q : VK} (hq : ∀ i ∈ q.ix, i ∈ vs) (h : SJ G W (iLc fi (ptB q) ft f vs) S H Q) : tLc (IJ G W fi) (GJ G q.ix (ptB q)) (TJ G noW ft) (SJ G noW f) vs S H (QF Q) := by
  obtain ⟨env, ah, η, en, pk, h⟩ := h
  refine lc_loop en pk hq h fun Dd η1 η' H1 H' acc xs ah' m hD hD' nD r mv p k => ?_
  refine .inr ⟨Dd, .lst acc, rfl, hD', trivial, fun od => ?_⟩
  have E : Ext H' (upd H' Dd (.frz od (.lst acc))) := Ext.upd hD' (fun _ z => nomatch z) (fun _ _ z => nomatch z)
  exact k η' _ (mv.side hD hD') (p.side nD hD' (fun _ z => nomatch z) (fun _ _ z => nomatch z)) _ (.lst ⟨od, upd_same⟩ (r.ext (List.prefix_refl _) E))
theorem lc_mut {G : KW} {vs : List Nat} {S : L2.St} {H : Hp} {Q : VK} (hq : ∀ i ∈ q.ix, i ∈ vs) (h : SJ G W (iLcM fi (ptB q) ft f vs) S H Q) : tLc (IJ G W fi) (GJ G q.ix (ptB q)) (TJ G noW ft) (SJ G noW f) vs S H Q := by
  obtain ⟨env, ah, η, en, pk, h⟩ := h
  refine lc_loop en pk hq h fun Dd η1 η' H1 H' acc xs ah' m hD hD' nD r mv p k => ?_
  have m2 : Mv η1 H1 (η' ++ [Dd]) H' := ⟨mv.pre.trans (List.prefix_append _ _), mv.ext, fun a z => by
    rcases List.mem_append.mp z with z | z
    · exact mv.new a z
    · simp at z; subst z; exact .inr hD, mv.frm, mv.live⟩
  refine k (η' ++ [Dd]) H' m2 (p.add nD ⟨acc, hD', r.ext (List.prefix_append _ _) (Ext.refl _)⟩) _ (.ref ?_)
  rw [← p.len, List.getElem?_append_right (Nat.le_refl _)]
  simp
theorem j_lc (hc : X.calm = true) (hN : X.N.Nodup) (hi : PI X tg iter (IX X W fi)) (ok : BlkOk X.N X.env.scope scope own) (hq : ∀ i ∈ q.ix, i ∈ own.map (·.2))
    (hg : ∀ (s : Shared) (H : Hp) (C : Addr) (cl : List (Str × Addr)) (fp : List Addr), PG (X.blk s H scope (compEnvC scope cl C X.env) fp) tg (GP X q)) (ht : ∀ (s : Shared) (H : Hp) (C : Addr) (cl : List (Str × Addr)) (fp : List Addr), PTs (X.blk s H scope (compEnvC scope cl C X.env) fp) ifs (TX X noW ft))
    (he : ∀ (s : Shared) (H : Hp) (C : Addr) (cl : List (Str × Addr)) (fp : List Addr), PE (X.blk s H scope (compEnvC scope cl C X.env) fp) elt (SX X noW f)) (hs : ∀ x, foldedSetIterable iter X.env x = pure x := by intro _; rfl) :
    PE X (.ListComp elt [⟨tg, iter, ifs, 0⟩] scope pos) (SX X W (iLc fi (ptB q) ft f (own.map (·.2)))) := PE.imp (pe_fz (pe_lc hc hN hi ok hg ht he hs)) fun S H Q h => lc_fz hq h
theorem j_lcM (hc : X.calm = true) (hN : X.N.Nodup) (hi : PI X tg iter (IX X W fi)) (ok : BlkOk X.N X.env.scope scope own) (hq : ∀ i ∈ q.ix, i ∈ own.map (·.2))
    (hg : ∀ (s : Shared) (H : Hp) (C : Addr) (cl : List (Str × Addr)) (fp : List Addr), PG (X.blk s H scope (compEnvC scope cl C X.env) fp) tg (GP X q)) (ht : ∀ (s : Shared) (H : Hp) (C : Addr) (cl : List (Str × Addr)) (fp : List Addr), PTs (X.blk s H scope (compEnvC scope cl C X.env) fp) ifs (TX X noW ft))
    (he : ∀ (s : Shared) (H : Hp) (C : Addr) (cl : List (Str × Addr)) (fp : List Addr), PE (X.blk s H scope (compEnvC scope cl C X.env) fp) elt (SX X noW f)) (hs : ∀ x, foldedSetIterable iter X.env x = pure x := by intro _; rfl) :
    PE X (.ListComp elt [⟨tg, iter, ifs, 0⟩] scope pos) (SX X W (iLcM fi (ptB q) ft f (own.map (·.2)))) := PE.imp (pe_lc hc hN hi ok hg ht he hs) fun S H Q h => lc_mut hq h
/-- what is wanted behind a statement, or behind a freeze -/
def NF (N : L2.St → Hp → Prop) : L2.St → Hp → Prop := fun S H1 => N S H1 ∨ ∃ a u, H1 a = some u ∧ Mut (some u) ∧ ∀ od, N S (upd H1 a (.frz od u))
theorem PS.fz {st : Stmt} {t : TS} (h : PS X st t) : PS X st fun Dn S H => t { Dn with nx := NF Dn.nx } S H := by
  refine ⟨fun pnz s S H Dn Iv q => ?_⟩
  refine thn (h.run pnz s S H { Dn with nx := NF Dn.nx } Iv q) fun f s1 hf => ?_
  cases f with
  | next =>
    obtain ⟨S', H', I', q3⟩ := hf
    rcases q3 with q3 | ⟨a, u, ha, hm, q3⟩
    · exact ⟨S', H', I', q3⟩
    · obtain ⟨od, I2⟩ := I'.lock ha hm
      exact ⟨S', _, I2, q3 od⟩
  | ret v => exact hf
  | brk => exact hf
  | cont => exact hf
theorem s_setLc (i : Nat) {y : Str} {py spos : Pos} (hc : X.calm = true) (hN : X.N.Nodup) (hi : PI X tg iter (IX X W fi)) (ok : BlkOk X.N X.env.scope scope own) (hq : ∀ i ∈ q.ix, i ∈ own.map (·.2))
    (hg : ∀ (s : Shared) (H : Hp) (C : Addr) (cl : List (Str × Addr)) (fp : List Addr), PG (X.blk s H scope (compEnvC scope cl C X.env) fp) tg (GP X q)) (ht : ∀ (s : Shared) (H : Hp) (C : Addr) (cl : List (Str × Addr)) (fp : List Addr), PTs (X.blk s H scope (compEnvC scope cl C X.env) fp) ifs (TX X noW ft))
    (he : ∀ (s : Shared) (H : Hp) (C : Addr) (cl : List (Str × Addr)) (fp : List Addr), PE (X.blk s H scope (compEnvC scope cl C X.env) fp) elt (SX X noW f))
    (hy : X.N[i]? = some y := by rfl) (hyl : X.env.scope.names.lookup y = some .local := by rfl) (hsw : swapsWith (.ListComp elt [⟨tg, iter, ifs, 0⟩] scope pos) (some (.Name y py)) spos.line X.env = pure true := by exact sw_true rfl rfl rfl (by decide +kernel)) (hs : ∀ x, foldedSetIterable iter X.env x = pure x := by intro _; rfl) :
    PS X (.Assign [.Name y py] (.ListComp elt [⟨tg, iter, ifs, 0⟩] scope pos) spos) (SSX X W (sAsg (ptB (.nm i)) (iLc fi (ptB q) ft f (own.map (·.2))))) := PS.imp (PS.fz (ps_setLc hc hN hy hyl hsw hi ok hg ht he hs)) fun Dn S H ⟨env, ah, η, en, pk, h⟩ => by
  show tLc _ _ _ _ _ S H fun x H1 => NF Dn.nx (S.set i (some x)) H1
  have assoc : ∀ {α β γ : Type} (r : Res α) (g1 : α → AH → Res β) (g2 : β → AH → Res γ), (r.bind g1).bind g2 = r.bind fun a h => (g1 a h).bind g2 := fun r _ _ => by cases r <;> rfl
  have h2 : Post (gX X) W η H ((fi env ah).bind fun ds ah1 => (compL (ptB q) ft f (wipeA env (own.map (·.2))) ds [] ah1).bind fun xs ah2 => (Res.ok (Fl.nx, env.set i (some (.lst xs))) ah2)) (QS (gX X) Dn) := by
    unfold sAsg iLc at h
    simp only [assoc, ptB, Res.bind_ok] at h
    exact h
  refine lc_loop (R := fun x H1 => NF Dn.nx (S.set i (some x)) H1) en pk hq h2 fun Dd η1 η' H1 H' acc xs ah' m hD hD' nD r mv p k => ?_
  refine .inr ⟨Dd, .lst acc, hD', trivial, fun od => ?_⟩
  have E : Ext H' (upd H' Dd (.frz od (.lst acc))) := Ext.upd hD' (fun _ z => nomatch z) (fun _ _ z => nomatch z)
  have mvs : Mv η1 H1 η' (upd H' Dd (.frz od (.lst acc))) := mv.side hD hD'
  exact k η' _ mvs (p.side nD hD' (fun _ z => nomatch z) (fun _ _ z => nomatch z)) _ ((en.mv (m.trans mvs)).set i (.lst ⟨od, upd_same⟩ (r.ext (List.prefix_refl _) E)))
theorem s_setLcM (i : Nat) {y : Str} {py spos : Pos} (hc : X.calm = true) (hN : X.N.Nodup) (hi : PI X tg iter (IX X W fi)) (ok : BlkOk X.N X.env.scope scope own) (hq : ∀ i ∈ q.ix, i ∈ own.map (·.2))
    (hg : ∀ (s : Shared) (H : Hp) (C : Addr) (cl : List (Str × Addr)) (fp : List Addr), PG (X.blk s H scope (compEnvC scope cl C X.env) fp) tg (GP X q)) (ht : ∀ (s : Shared) (H : Hp) (C : Addr) (cl : List (Str × Addr)) (fp : List Addr), PTs (X.blk s H scope (compEnvC scope cl C X.env) fp) ifs (TX X noW ft))
    (he : ∀ (s : Shared) (H : Hp) (C : Addr) (cl : List (Str × Addr)) (fp : List Addr), PE (X.blk s H scope (compEnvC scope cl C X.env) fp) elt (SX X noW f))
    (hy : X.N[i]? = some y := by rfl) (hyl : X.env.scope.names.lookup y = some .local := by rfl) (hsw : swapsWith (.ListComp elt [⟨tg, iter, ifs, 0⟩] scope pos) (some (.Name y py)) spos.line X.env = pure true := by exact sw_true rfl rfl rfl (by decide +kernel)) (hs : ∀ x, foldedSetIterable iter X.env x = pure x := by intro _; rfl) :
    PS X (.Assign [.Name y py] (.ListComp elt [⟨tg, iter, ifs, 0⟩] scope pos) spos) (SSX X W (sAsg (ptB (.nm i)) (iLcM fi (ptB q) ft f (own.map (·.2))))) := PS.imp (ps_setLc hc hN hy hyl hsw hi ok hg ht he hs) fun Dn S H ⟨env, ah, η, en, pk, h⟩ => by
  show tLc _ _ _ _ _ S H fun x H1 => Dn.nx (S.set i (some x)) H1
  have assoc : ∀ {α β γ : Type} (r : Res α) (g1 : α → AH → Res β) (g2 : β → AH → Res γ), (r.bind g1).bind g2 = r.bind fun a h => (g1 a h).bind g2 := fun r _ _ => by cases r <;> rfl
  have h2 : Post (gX X) W η H ((fi env ah).bind fun ds ah1 => (compL (ptB q) ft f (wipeA env (own.map (·.2))) ds [] ah1).bind fun xs ah2 => (Res.ok (Fl.nx, env.set i (some (.ref ah2.length))) (ah2 ++ [.lst xs]))) (QS (gX X) Dn) := by
    unfold sAsg iLcM at h
    simp only [assoc, ptB, Res.bind_ok] at h
    exact h
  refine lc_loop (R := fun x H1 => Dn.nx (S.set i (some x)) H1) en pk hq h2 fun Dd η1 η' H1 H' acc xs ah' m hD hD' nD r mv p k => ?_
  have m2 : Mv η1 H1 (η' ++ [Dd]) H' := ⟨mv.pre.trans (List.prefix_append _ _), mv.ext, fun a z => by
    rcases List.mem_append.mp z with z | z
    · exact mv.new a z
    · simp at z; subst z; exact .inr hD, mv.frm, mv.live⟩
  refine k (η' ++ [Dd]) H' m2 (p.add nD ⟨acc, hD', r.ext (List.prefix_append _ _) (Ext.refl _)⟩) _ ((en.mv (m.trans m2)).set i (.ref ?_))
  rw [← p.len, List.getElem?_append_right (Nat.le_refl _)]
  simp
def putD (x y e : D) (ah : AH) : Option AH := match x with
  | .ref n => match ah[n]? with
    | some (.lst ds) => match y with
      | .int k => match ixN ds.length k with
        | some j => some (ah.set n (.lst (ds.set j e)))
        | none => none
      | _ => none
    | some (.dk ks ds) => match keyD y with
      | some q => if ks.length < sizeLine then some (ah.set n (.dk (ptD ks ds q e).1 (ptD ks ds q e).2)) else none
      | none => none
    | some (.dt ks ds) => match y with
      | .tup zs => match keysL zs with
        | some q => if ks.length < sizeLine then some (ah.set n (.dt (ptD ks ds q e).1 (ptD ks ds q e).2)) else none
        | none => none
      | _ => none
    | _ => none
  | _ => none
def rPut : TSet := fun o i v H Q => rSetL o i v H Q ∨ rSetD o i v H Q
end
section
variable {X : Cx} {W : XW}
theorem set_all (hu : X.A.units + 1 < cLine) : PSet X rPut := fun pnz s σ H o i v ov iv u Q Iv r1 r2 r3 q => q.elim (set_list pnz s σ H o i v ov iv u Q Iv r1 r2 r3) (set_dict hu pnz s σ H o i v ov iv u Q Iv r1 r2 r3)
theorem put_ok {G : KW} {η : List Addr} {H : Hp} {ah ah' : AH} {x y e : D} {v u w : V} {Q : Hp → Prop} (p : HpOk G η H ah) (rx : Rel G η H x v) (ry : Rel G η H y u) (re : Rel G η H e w) (h : putD x y e ah = some ah')
    (k : ∀ H', Mv η H η H' → HpOk G η H' ah' → Q H') : rPut v u w H Q := by
  unfold putD at h
  split at h
  · rename_i n
    cases rx with
    | ref hn =>
      rename_i a
      obtain ⟨o, ho, ok⟩ := p.at hn
      rw [ho] at h
      have ma := List.mem_of_getElem? hn
      have pf := List.prefix_refl η
      cases o with
      | lst ds =>
        simp only at h
        obtain ⟨vs, h1, r1⟩ := ok
        split at h
        · rename_i i
          split at h
          · rename_i j hj
            cases h
            cases ry
            rw [r1.length] at hj
            have m : Mv η H η (upd H a (.lst (vs.set j w))) := .upd ma h1 (fun _ z => nomatch z) (fun _ _ z => nomatch z)
            exact .inl ⟨a, vs, i, j, rfl, rfl, h1, hj, k _ m (p.put hn h1 (fun _ z => nomatch z) (fun _ _ z => nomatch z) ⟨_, upd_same, (r1.set re j).ext pf m.ext⟩)⟩
          · cases h
        · cases h
      | dk ks ds =>
        simp only at h
        obtain ⟨kvs, h1, k1, r1⟩ := ok
        split at h
        · rename_i q hq
          split at h
          · rename_i hzz
            cases h
            have m : Mv η H η (upd H a (.dK (putK kvs q w))) := .upd ma h1 (fun _ z => nomatch z) (fun _ _ z => nomatch z)
            obtain ⟨e1, e2⟩ := pt_rel re k1 r1
            have hl : kvs.length < sizeLine := by rw [← k1, List.length_map] at hzz; exact hzz
            exact .inr ⟨a, _, rfl, .inl ⟨kvs, q, h1, keyD_rel ry hq, hl, rfl⟩, k _ m (p.put hn h1 (fun _ z => nomatch z) (fun _ _ z => nomatch z) ⟨_, upd_same, e1, e2.ext pf m.ext⟩)⟩
          · cases h
        · cases h
      | dt ks ds =>
        simp only at h
        obtain ⟨kvs, h1, k1, r1⟩ := ok
        split at h
        · rename_i zs
          split at h
          · rename_i q hq
            split at h
            · rename_i hzz
              cases h
              cases ry with
              | tup hb rb =>
                have := keysL_rel rb hq
                subst this
                have m : Mv η H η (upd H a (.dT (putK kvs q w))) := .upd ma h1 (fun _ z => nomatch z) (fun _ _ z => nomatch z)
                obtain ⟨e1, e2⟩ := pt_rel re k1 r1
                have hl : kvs.length < sizeLine := by rw [← k1, List.length_map] at hzz; exact hzz
                exact .inr ⟨a, _, rfl, .inr ⟨kvs, q, _, h1, rfl, hb, hl, rfl⟩, k _ m (p.put hn h1 (fun _ z => nomatch z) (fun _ _ z => nomatch z) ⟨_, upd_same, e1, e2.ext pf m.ext⟩)⟩
            · cases h
          · cases h
        · cases h
      | fz d => cases h
      | gone => cases h
      | tab p => cases h
      | rng lo hi => cases h
      | dx ks ds => cases h
      | xd _ _ _ => cases h
      | ins _ _ => cases h
  · cases h
def sPut (fo fi f : FE) : FS := fun env ah => (f env ah).bind fun e ah1 => (fo env ah1).bind fun x ah2 => (fi env ah2).bind fun y ah3 => match putD x y e ah3 with
  | some ah4 => .ok (.nx, env) ah4
  | none => .bad
theorem s_put {o i e : Expr} {fo fi f : FE} {pos pos' : Pos} (hu : X.A.units + 1 < cLine) (ho : PE X o (SX X W fo)) (hi : PE X i (SX X W fi)) (he : PE X e (SX X W f))
    (ha : ∀ v, assign (.Subscript o i pos') X.env v = (do
      let ov ← holding [v] (eval o X.env)
      let iv ← holding [v, ov] (eval i X.env)
      standAt pos'
      holding [v, ov, iv] (setItem ov iv v)
      release [v, ov, iv] []) := by intro _; rfl)
    (hs : swapsWithSole [.Subscript o i pos'] e pos.line X.env = pure false := by rfl) (hw : swappedStores [.Subscript o i pos'] e X.env = pure none := by rfl) (h1 : (assignEach [.Subscript o i pos'] X.env).map (·.2) = [assign (.Subscript o i pos') X.env] := by rfl) :
    PS X (.Assign [.Subscript o i pos'] e pos) (SSX X W (sPut fo fi f)) := PS.imp (ps_asg he (pg_sub ho hi (set_all hu) ha) hs hw h1) fun Dn S H ⟨env, ah, η, en, pk, h⟩ =>
  ⟨env, ah, η, en, pk, h.bind.imp0 fun d η1 H1 ah1 m1 p1 q1 => fun v rvv =>
    ⟨env, ah1, η1, en.mv m1, p1, q1.bind.imp0 fun x η2 H2 ah2 m2 p2 q2 => fun w rw' =>
      ⟨env, ah2, η2, (en.mv m1).mv m2, p2, q2.bind.imp0 fun y η3 H3 ah3 m3 p3 q3 => fun u ru => by
        split at q3
        · rename_i ah4 e4
          exact put_ok p3 (rw'.mv m3) ru ((rvv.mv m2).mv m3) e4 fun H' m4 p4 => q3 η3 H' m4 p4 S ((((en.mv m1).mv m2).mv m3).mv m4)
        · exact q3.elim⟩⟩⟩
def sAug (i : Nat) (o : D → D → AH → Res D) (f : FE) : FS := fun env ah => match env[i]? with
  | some (some x) => (f env ah).bind fun y ah1 => (o x y ah1).bind fun z ah2 => .ok (.nx, env.set i (some z)) ah2
  | _ => .bad
def AuOk (G : KW) (W : XW) (t : TIp) (o : D → D → AH → Res D) : Prop :=
  ∀ (η : List Addr) (H : Hp) (ah : AH) (x y : D) (v u : V) (Q : VK), HpOk G η H ah → Rel G η H x v → Rel G η H y u → Post G W η H (o x y ah) (QV G Q) → t v u H Q
theorem s_aug (i : Nat) {x : Str} {e : Expr} {f : FE} {op : Operator} {t : TIp} {o : D → D → AH → Res D} {pos pos' : Pos} (hN : X.N.Nodup) (ho : PIp X op t) (k : AuOk (gX X) W t o) (he : PE X e (SX X W f)) (hi : X.N[i]? = some x := by rfl) (hx : Loc X.env.scope x := by first | exact Or.inl rfl | exact Or.inr rfl)
    (hf : X.fn x = true ∨ X.env.scope.names.lookup x = some .local := by first | exact .inl rfl | exact .inr rfl) : PS X (.AugAssign (.Name x pos') op e pos) (SSX X W (sAug i o f)) := PS.imp (ps_aug hN hi hx he ho hf) fun Dn S H ⟨env, ah, η, en, pk, h⟩ => by
  unfold sAug at h
  split at h
  · rename_i d hd
    obtain ⟨v, hv, rvv⟩ := en.ok i d hd
    refine ⟨v, hv, env, ah, η, en, pk, h.bind.imp0 fun y η1 H1 ah1 m1 p1 q1 => fun u ru => ?_⟩
    refine k η1 H1 ah1 d y v u _ p1 (rvv.mv m1) ru (q1.bind.imp0 fun z η2 H2 ah2 m2 p2 q2 => fun w rw' => ?_)
    exact q2.at p2 _ (((en.mv m1).mv m2).set i rw')
  · exact h.elim
def rAugA : TIp := fun x y H Q => (∃ i j, x = .int i ∧ y = .int j ∧ Q (.int (i + j)) H) ∨ ∃ i j, x = .str i ∧ y = .str j ∧ i.length + j.length ≤ sizeLine ∧ Q (.str (i ++ j)) H
def oAugA (x y : D) (ah : AH) : Res D := match x, y with
  | .int i, .int j => .ok (.int (i + j)) ah
  | .str a, .str b => if a.length + b.length ≤ sizeLine then .ok (.str (a ++ b)) ah else .bad
  | _, _ => .bad
theorem ip_addA : PIp X .Add rAugA := fun pnz s σ H x y v u Q Iv r1 r2 q => q.elim (fun z => ip_add pnz s σ H x y v u Q Iv r1 r2 z) fun z => iop_add_str pnz s σ H x y v u Q Iv r1 r2 z
theorem ok_augA {G : KW} : AuOk G W rAugA oAugA := by
  intro η H ah x y v u Q p rx ry h
  unfold oAugA at h
  split at h
  · cases rx; cases ry; exact .inl ⟨_, _, rfl, rfl, h.at p _ (.int _)⟩
  · cases rx; cases ry
    split at h
    · exact .inr ⟨_, _, rfl, rfl, by assumption, h.at p _ (.str _)⟩
    · exact h.elim
  · exact h.elim
def oApp (x y : D) (ah : AH) : Res D := match x with
  | .ref n => match ah[n]? with
    | some (.lst ds) => if ds.length < sizeLine then .ok .non (ah.set n (.lst (ds ++ [y]))) else .bad
    | _ => .bad
  | _ => .bad
def isLst (ah : AH) : D → Bool
  | .ref n => match ah[n]? with
    | some (.lst _) => true
    | _ => false
  | _ => false
def iApp (fo f : FE) : FE := fun env ah => (fo env ah).bind fun x ah1 => if isLst ah1 x = true then (f env ah1).bind fun y ah2 => oApp x y ah2 else .bad
theorem lst_at {G : KW} {η : List Addr} {H : Hp} {ah : AH} {x : D} {v : V} (p : HpOk G η H ah) (r : Rel G η H x v) (h : isLst ah x = true) : ∃ n a ds vs, x = .ref n ∧ v = .ref a ∧ η[n]? = some a ∧ ah[n]? = some (.lst ds) ∧ H a = some (.lst vs) ∧ RelAll G η H ds vs := by
  cases r with
  | ref hn =>
    obtain ⟨o, ho, ok⟩ := p.at hn
    simp only [isLst, ho] at h
    cases o with
    | lst ds => obtain ⟨vs, h1, r1⟩ := ok; exact ⟨_, _, ds, vs, rfl, rfl, hn, ho, h1, r1⟩
    | _ => cases h
  | _ => cases h
theorem app_ok {G : KW} {η : List Addr} {H : Hp} {ah : AH} {x y : D} {v u : V} {Q : VK} (p : HpOk G η H ah) (rx : Rel G η H x v) (ry : Rel G η H y u) (h : Post G W η H (oApp x y ah) (QV G Q)) : rAppend v [u] H Q := by
  cases rx with
  | ref hn =>
    rename_i n a
    obtain ⟨o, ho, ok⟩ := p.at hn
    simp only [oApp, ho] at h
    cases o with
    | lst ds =>
      obtain ⟨vs, h1, r1⟩ := ok
      simp only at h
      split at h
      · rename_i hzz
        have m : Mv η H η (upd H a (.lst (vs ++ [u]))) := .upd (List.mem_of_getElem? hn) h1 (fun _ z => nomatch z) (fun _ _ z => nomatch z)
        exact ⟨a, vs, u, rfl, rfl, h1, by rw [← r1.length]; exact hzz, h η _ m (p.put hn h1 (fun _ z => nomatch z) (fun _ _ z => nomatch z) ⟨_, upd_same, (r1.snoc ry).mv m⟩) _ .non⟩
      · exact h.elim
    | _ => exact h.elim
  | _ => exact h.elim
theorem j_app {o e : Expr} {fo f : FE} {apos cpos : Pos} (ho : PE X o (SX X W fo)) (he : PE X e (SX X W f))
    (hbase : attributeBase o "append" X.env (eval o X.env) = eval o X.env := by rfl)
    (hfew : ((backTo cpos (starEach [e] X.env)).all (fun x => !x.1) && (backToKw cpos (keywordEach [] X.env)).all (fun x => x.1.isSome)
      && decide ([e].length + ([] : List Keyword).length + (if ([] : List Keyword).isEmpty then 0 else 1) < 30)) = true := by rfl)
    (hline : (apos.endLine == cpos.line) = true := by rfl) (hs : starEach [e] X.env = (false, eval e X.env) :: starEach [] X.env := by rfl) (hplain : (backTo cpos (starEach [] X.env)).any (·.1) = false := by rfl) :
    PE X (.Call (.Attribute o "append" apos) [e] [] cpos) (SX X W (iApp fo f)) :=
  PE.imp (pe_bm PySem.F.plainAttrs_list PySem.F.slot_list_append PySem.F.type_list_append mt_append ho (a_cons he a_nil hs) hbase hfew hline hs hplain) fun S H Q ⟨env, ah, η, en, pk, h⟩ => by
    refine ⟨env, ah, η, en, pk, h.bind.imp0 fun x η1 H1 ah1 m1 p1 q1 => fun v rvv => ?_⟩
    split at q1
    · rename_i hx
      obtain ⟨n, a, ds, vs, rfl, rfl, h1, h2, h3, h4⟩ := lst_at p1 rvv hx
      refine ⟨.inl ⟨rfl, vs, .inl (.inl h3)⟩, env, ah1, η1, en.mv m1, p1, ?_⟩
      unfold iArgs iArgs
      have q2 := q1.bind.imp0 (Q' := fun y η2 H2 ah2 => Post (gX X) W η2 H2 ((Res.ok [] ah2).bind fun ds ah3 => Res.ok (y :: ds) ah3) fun ds η' H' _ => ∀ vs, RelAll (gX X) η' H' ds vs → rAppend (.ref a) vs H' Q) fun y η2 H2 ah2 m2 p2 q2 => ?_
      · revert q2
        generalize f env ah1 = r
        intro q2
        cases r with
        | ok d ah' => exact fun η' H' m p => (q2 η' H' m p).at p
        | exc x e' ah' => exact q2
        | bad => exact q2
      · rw [Res.bind_ok]
        intro η3 H3 m3 p3 us rs
        cases rs with
        | cons r rr =>
          cases rr
          exact app_ok p3 ((rvv.mv m2).mv m3) r (q2.mono m3)
    · exact q1.elim
end
/-- a def that raises nothing, by its function -/
def spN (G : KW) (m : Nat) (F : List D → AH → Res D) : Sp := fun vs H Q _ => ∃ (args : List D) (ah : AH) (η : List Addr), args.length = m ∧ RelAll G η H args vs ∧ HpOk G η H ah ∧ Post G noW η H (F args ah) (QV G Q)
theorem spN_len {G : KW} {m : Nat} {F : List D → AH → Res D} : ∀ vs H Q E, spN G m F vs H Q E → vs.length = m := fun vs H Q E ⟨args, ah, η, hl, r, _⟩ => by rw [← r.length]; exact hl
/-- a body as a def -/
def iBody (n : Nat) (f : FS) (args : List D) (ah : AH) : Res D := match f (args.map some ++ List.replicate (n - args.length) none) ah with
  | .ok (.nx, _) ah1 => .ok .non ah1
  | .ok (.rt d, _) ah1 => .ok d ah1
  | .exc x e ah1 => .exc x e ah1
  | _ => .bad
theorem env_start {G : KW} {η : List Addr} {H : Hp} {args : List D} {vs : List V} {N : List Str} (r : RelAll G η H args vs) (hl : args.length ≤ N.length) : EnvOk G η H (args.map some ++ List.replicate (N.length - args.length) none) (L2.start N vs) := by
  refine ⟨by simp [L2.start, r.length], fun i d e => ?_⟩
  by_cases hi : i < args.length
  · rw [List.getElem?_append_left (by simpa using hi), List.getElem?_map] at e
    obtain ⟨d', e1, e2⟩ := Option.map_eq_some_iff.mp e
    cases e2
    obtain ⟨v, h1, h2⟩ := r.get e1
    refine ⟨v, ?_, h2⟩
    unfold L2.start
    rw [List.getElem?_append_left (by rw [List.length_map, ← r.length]; exact hi), List.getElem?_map, h1]
    rfl
  · rw [List.getElem?_append_right (by simpa using hi), List.getElem?_replicate] at e
    split at e <;> cases e
section
variable {P : Program} {w : World} {K : PySem.W.Frag} {mg : Str → Option Value} {base : Heap}
/-- THE RULE: a def of the text by the function of its body -/
theorem fn_ok {x qual : Str} {st : Stmt} {f : Addr} {fd : FuncData} {N ps : List Str} {k : Nat} {fb : FS} (F : Fun K x qual st f fd) (Sc : FnScope N ps (defScope st))
    (hb : ∀ (cdv : Value) (A : Around) (outer : List Env) (s : Shared) (H : Hp) (E : XK), Room k (A.deeper (envOfC qual (defScope st) s.heap.objs.size f cdv)) → NoRepr (A.deeper (envOfC qual (defScope st) s.heap.objs.size f cdv)) →
      PSs (cxOf CX0 P w K mg base N qual (defScope st) f cdv A outer s H E).nox (defBody st) (SS ⟨K, w⟩ noW fb)) : FnG P w K mg base CX0 (k + 1) f fd ps (spN ⟨K, w⟩ ps.length (iBody N.length fb)) := by
  refine fnG_of F Sc (fun vs H Q E h => spN_len vs H Q E h) fun cdv A outer s H vs Q E hr hn h => ?_
  obtain ⟨args, ah, η, hl, r, p, q⟩ := h
  refine ⟨_, (hb cdv A outer s H E hr (hn.deeper _)).nox, args.map some ++ List.replicate (N.length - args.length) none, ah, η, env_start r ?_, p, ?_⟩
  · have := congrArg List.length Sc.pre
    rw [List.length_take] at this
    omega
  · unfold iBody at q
    revert q
    generalize fb _ ah = res
    intro q
    cases res with
    | ok rr ah1 =>
      obtain ⟨fl, env1⟩ := rr
      cases fl with
      | nx => exact fun η' H' m p S' en => q η' H' m p _ .non
      | rt d => exact fun η' H' m p v rvv => q η' H' m p v rvv
      | bk => exact q.elim
      | ct => exact q.elim
    | exc x e ah1 => exact q
    | bad => exact q
/-- another function for a def: what holds of the one holds of the other -/
theorem fn_imp {f : Addr} {fd : FuncData} {ps : List Str} {k m : Nat} {F F' : List D → AH → Res D} (h : FnG P w K mg base CX0 k f fd ps (spN ⟨K, w⟩ m F)) (i : ∀ args ah, args.length = m → F' args ah = .bad ∨ F args ah = F' args ah) : FnG P w K mg base CX0 k f fd ps (spN ⟨K, w⟩ m F') :=
  h.imp fun vs H Q E ⟨args, ah, η, hl, r, p, q⟩ => by
    refine ⟨args, ah, η, hl, r, p, ?_⟩
    rcases i args ah hl with e | e
    · rw [e] at q; exact q.elim
    · rw [e]; exact q
mutual
def pureD : D → Bool
  | .tup ds => pureDL ds
  | .ct ds => pureDL ds
  | .lst ds => pureDL ds
  | .dk _ ds => pureDL ds
  | .dt _ ds => pureDL ds
  | .cd _ ds => pureDL ds
  | .ref _ => false
  | .non => true
  | .bl _ => true
  | .int _ => true
  | .str _ => true
  | .fn _ => true
  | .ty _ => true
def pureDL : List D → Bool
  | [] => true
  | d :: ds => pureD d && pureDL ds
end
mutual
theorem pure_rel {G : KW} {η η' : List Addr} {H : Hp} : ∀ {d : D} {v : V}, pureD d = true → Rel G η H d v → Rel G η' H d v
  | _, _, h, .tup a r => .tup a (pure_relL (by simpa [pureD] using h) r)
  | _, _, h, .ct a r => .ct a (pure_relL (by simpa [pureD] using h) r)
  | _, _, h, .lst a r => .lst a (pure_relL (by simpa [pureD] using h) r)
  | _, _, h, .dk a b r => .dk a b (pure_relL (by simpa [pureD] using h) r)
  | _, _, h, .dt a b r => .dt a b (pure_relL (by simpa [pureD] using h) r)
  | _, _, h, .cd a b r => .cd a b (pure_relL (by simpa [pureD] using h) r)
  | _, _, h, .ref _ => by simp [pureD] at h
  | _, _, _, .non => .non
  | _, _, _, .bl b => .bl b
  | _, _, _, .int b => .int b
  | _, _, _, .str b => .str b
  | _, _, _, .fn b => .fn b
  | _, _, _, .ty b => .ty b
theorem pure_relL {G : KW} {η η' : List Addr} {H : Hp} : ∀ {d : List D} {v : List V}, pureDL d = true → RelAll G η H d v → RelAll G η' H d v
  | _, _, _, .nil => .nil
  | _, _, h, .cons r rr => by
    simp only [pureDL, Bool.and_eq_true] at h
    exact .cons (pure_rel h.1 r) (pure_relL h.2 rr)
end
mutual
/-- what is told by a greater table and was told by the lesser is told by it still -/
theorem back_rel {G : KW} {η η' : List Addr} {H H' : Hp} (g : η <+: η') : ∀ {d : D} {v v' : V}, Rel G η H d v → Rel G η' H' d v' → Rel G η H' d v'
  | _, _, _, .tup _ r, .tup a q => .tup a (back_relL g r q)
  | _, _, _, .ct _ r, .ct a q => .ct a (back_relL g r q)
  | _, _, _, .lst _ r, .lst a q => .lst a (back_relL g r q)
  | _, _, _, .dk _ _ r, .dk a b q => .dk a b (back_relL g r q)
  | _, _, _, .dt _ _ r, .dt a b q => .dt a b (back_relL g r q)
  | _, _, _, .cd _ _ r, .cd a b q => .cd a b (back_relL g r q)
  | _, _, _, .ref h, .ref k => by
    obtain ⟨t, rfl⟩ := g
    rw [List.getElem?_append_left (List.getElem?_eq_some_iff.mp h).1] at k
    exact .ref k
  | _, _, _, .non, .non => .non
  | _, _, _, .bl b, .bl _ => .bl b
  | _, _, _, .int b, .int _ => .int b
  | _, _, _, .str b, .str _ => .str b
  | _, _, _, .fn b, .fn _ => .fn b
  | _, _, _, .ty b, .ty _ => .ty b
theorem back_relL {G : KW} {η η' : List Addr} {H H' : Hp} (g : η <+: η') : ∀ {d : List D} {v v' : List V}, RelAll G η H d v → RelAll G η' H' d v' → RelAll G η H' d v'
  | _, _, _, .nil, .nil => .nil
  | _, _, _, .cons r rr, .cons q qq => .cons (back_rel g r q) (back_relL g rr qq)
end
/-- what was made besides is forgotten -/
theorem HpOk.cut {G : KW} {η η' : List Addr} {H H' : Hp} {ah g : AH} (p : HpOk G η H ah) (q : HpOk G η' H' (ah ++ g)) (pre : η <+: η') : HpOk G η H' ah := by
  refine ⟨p.len, p.nd, fun n a o e1 e2 => ?_⟩
  have e1' : η'[n]? = some a := by
    obtain ⟨t, rfl⟩ := pre
    rw [List.getElem?_append_left (List.getElem?_eq_some_iff.mp e1).1]
    exact e1
  have e2' : (ah ++ g)[n]? = some o := by
    rw [List.getElem?_append_left (List.getElem?_eq_some_iff.mp e2).1]
    exact e2
  have k := q.ok n a o e1' e2'
  have k0 := p.ok n a o e1 e2
  cases o with
  | lst ds => obtain ⟨vs, h1, r1⟩ := k; obtain ⟨_, _, r0⟩ := k0; exact ⟨vs, h1, back_relL pre r0 r1⟩
  | dk ks ds => obtain ⟨vs, h1, z, r1⟩ := k; obtain ⟨_, _, _, r0⟩ := k0; exact ⟨vs, h1, z, back_relL pre r0 r1⟩
  | dt ks ds => obtain ⟨vs, h1, z, r1⟩ := k; obtain ⟨_, _, _, r0⟩ := k0; exact ⟨vs, h1, z, back_relL pre r0 r1⟩
  | fz d => obtain ⟨h1, r1⟩ := k; obtain ⟨_, r0⟩ := k0; exact ⟨h1, back_rel pre r0 r1⟩
  | gone => exact k
  | tab p => exact k
  | rng lo hi => exact k
  | dx ks ds => obtain ⟨L, h1, z, e, r1⟩ := k; obtain ⟨_, _, _, e0, r0⟩ := k0; exact ⟨L, h1, z, back_relL pre e0 e, back_relL pre r0 r1⟩
  | xd b dd x => obtain ⟨z, vs, h1, e, r1⟩ := k; obtain ⟨_, _, _, _, r0⟩ := k0; exact ⟨z, vs, h1, e, back_relL pre r0 r1⟩
  | ins C fs => obtain ⟨dx, vs, h1, e, r1⟩ := k; obtain ⟨_, _, _, _, r0⟩ := k0; exact ⟨dx, vs, h1, e, back_relL pre r0 r1⟩
theorem Mv.cut {η η' : List Addr} {H H' : Hp} (m : Mv η H η' H') : Mv η H η H' := ⟨List.prefix_refl _, m.ext, fun _ h => .inl h, m.frm, m.live⟩
/-- a def that leaves the abstract heap as it is -/
def pureF (f : List D → Option D) (args : List D) (ah : AH) : Res D := match f args with
  | some d => .ok d ah
  | none => .bad
theorem fn_pure {f : Addr} {fd : FuncData} {ps : List Str} {k m : Nat} {F : List D → AH → Res D} {g : List D → Option D} (h : FnG P w K mg base CX0 k f fd ps (spN ⟨K, w⟩ m F))
    (i : ∀ args d ah, g args = some d → ∃ u, F args ah = .ok d (ah ++ u) ∧ pureD d = true) : FnG P w K mg base CX0 k f fd ps (spN ⟨K, w⟩ m (pureF g)) :=
  h.imp fun vs H Q E ⟨args, ah, η, hl, r, p, q⟩ => by
    refine ⟨args, ah, η, hl, r, p, ?_⟩
    unfold pureF at q
    split at q
    · rename_i d hd
      obtain ⟨u, e, pu⟩ := i args d ah hd
      rw [e]
      exact fun η' H' m p' v rvv => q η H' m.cut (p.cut p' m.pre) v (pure_rel pu rvv)
    · exact q.elim
end
/-- f(..) of a def that raises nothing -/
def iDef (F : List D → AH → Res D) (fs : List FE) : FE := fun env ah => (iArgs fs env ah).bind fun ds ah1 => (F ds ah1).nox
section
variable {X : Cx} {W : XW}
theorem j_def {k m : Nat} {f : Addr} {fd : FuncData} {ps : List Str} {F : List D → AH → Res D} {x : Str} {p pos : Pos} {e : Expr} {es : List Expr} {fs : List FE} (hf : FnG X.prog X.w X.K X.mg X.base CX0 k f fd ps (spN (gX X) m F)) (hr : Room k X.A) (hn : NoRepr X.A) (hg : Gl X x) (hm : X.mg x = some (.ref f)) (hk : PySem.W.keepIn X.K (.ref f) = true)
    (hb : Binds X.K fd ps []) (hl : fs.length = m) (ha : PA X (e :: es) (AX' X W fs)) (hdb : (x == ("__debug__" : Str)) = false := by decide) (he : starEach (e :: es) X.env = (false, eval e X.env) :: starEach es X.env := by rfl) (hpl : (backTo pos (starEach es X.env)).any (·.1) = false := by rfl) :
    PE X (.Call (.Name x p) (e :: es) [] pos) (SX X W (iDef F fs)) := PE.imp (pe_callG hf hr hn hg hm hk hb .nil pass0 ha hdb he hpl) fun S H Q ⟨env, ah, η, en, pk, h⟩ => by
  have len : ∀ (fs : List FE) (env : AE) (ah ah1 : AH) (ds : List D), iArgs fs env ah = .ok ds ah1 → ds.length = fs.length := by
    intro fs
    induction fs with
    | nil => intro env ah ah1 ds h; simp only [iArgs] at h; cases h; rfl
    | cons f fs ih =>
      intro env ah ah1 ds h
      simp only [iArgs] at h
      cases e1 : f env ah with
      | ok d ah2 =>
        rw [e1, Res.bind_ok] at h
        cases e2 : iArgs fs env ah2 with
        | ok ds2 ah3 => rw [e2, Res.bind_ok] at h; cases h; rw [List.length_cons, List.length_cons, ih _ _ _ _ e2]
        | exc x e ah3 => rw [e2] at h; cases h
        | bad => rw [e2] at h; cases h
      | exc x e ah2 => rw [e1] at h; cases h
      | bad => rw [e1] at h; cases h
  have h' : Post (gX X) W η H ((iArgs fs env ah).bind fun ds ah1 => (F ds ah1).nox) (QV (gX X) Q) := h
  refine ⟨env, ah, η, en, pk, ?_⟩
  revert h'
  cases e1 : iArgs fs env ah with
  | ok ds ah1 =>
    intro h'
    rw [Res.bind_ok] at h'
    intro η1 H1 m1 p1 vs rs
    refine ⟨ds, ah1, η1, by rw [len _ _ _ _ _ e1]; exact hl, by rw [List.append_nil]; exact rs, p1, ?_⟩
    exact Post.nox (h'.mono m1)
  | exc x e ah1 => exact id
  | bad => exact id
end
end DL
namespace DL
open PySem PySem.Spec PyProof.Rows L2
/-- the tuple at a, each item in a new pair -/
def ItnT (K : PySem.W.Frag) (a : Addr) : It :=
  ⟨fun i H => ∃ xs x, SqT K H a xs ∧ xs[i]? = some x, fun i H v H' => ∃ T x, v = .ref T ∧ H T = none ∧ H' = upd H T (.tup [.int (i : Nat), x]) ∧ ∀ xs, SqT K H a xs → xs[i]? = some x,
    fun i H => ∃ xs : List V, SqT K H a xs ∧ xs.length ≤ i⟩
/-- the signs of a text, each in a new pair -/
def ItnS (x : Str) : It :=
  ⟨fun i _ => i < x.cps.size, fun i H v H' => ∃ T c, v = .ref T ∧ H T = none ∧ H' = upd H T (.tup [.int (i : Nat), .str ⟨#[c]⟩]) ∧ x.cps[i]? = some c, fun i _ => x.cps.size ≤ i⟩
theorem turn_enumT {P : Program} {w : World} {K : PySem.W.Frag} {elts : List Expr} {kk : Nat} {tpos : Pos} (a e it : Addr) :
    Turn P w K (.Tuple elts kk tpos) (ItnT K a) [e, it] e (fun i h => (∃ old, IsEnum h e it ((i : Nat) : Int) old) ∧ h.IsTupleIter it a i ∧ e ≠ it) where
  mem := by simp
  obj := fun i h st b hb => by
    obtain ⟨⟨old, he⟩, ⟨o, ho, _, hd⟩, _⟩ := st
    rcases (by simpa using hb : b = e ∨ b = it) with rfl | rfl
    · exact ⟨_, he, fun v q => nomatch q⟩
    · exact ⟨o, ho, fun v q => by rw [hd] at q; cases q⟩
  keep := fun i h h' st k => let ⟨⟨old, he⟩, hi, hne⟩ := st; ⟨⟨old, k e (by simp) _ he⟩, hi.at fun o q => k it (by simp) o q, hne⟩
  item := by
    intro X hP hw hK hc i pnz s σ H E Iv hf st hg
    subst hP hw hK
    obtain ⟨⟨old, he⟩, hit, hne⟩ := st
    obtain ⟨xs, x, hq, hx⟩ := hg
    obtain ⟨its, rvv, p, hzz⟩ := Iv.tuple hq
    obtain ⟨u, hu, ru⟩ := rvv.get hx
    have hle9 : e < s.heap.objs.size := Heap.lt_size he
    have hli9 : it < s.heap.objs.size := by obtain ⟨_, q, _⟩ := hit; exact Heap.lt_size q
    have hal : a < s.heap.objs.size := p.lt
    have hh : X.A.in1.handled = none := Iv.ok.hd hc
    have hai : a ≠ it := fun z => by
      obtain ⟨o1, h1, h2, _⟩ := hit
      obtain ⟨o2, k1, k2, _⟩ := p
      rw [z, h1] at k1; cases k1
      rw [h2] at k2; injection k2 with z2; exact absurd z2 (by decide)
    have hae : a ≠ e := fun z => by
      obtain ⟨o2, k1, k2, _⟩ := p
      have he' : s.heap.get? e = some _ := he
      rw [z, he'] at k1; cases k1
      injection k2 with z2; exact absurd z2 (by decide)
    have D := Draws.tuple (prog := X.prog) (w := X.w) (A := X.A.in1) hh it a hai its.toArray
    have hlt : i < its.toArray.size := by
      have := (List.getElem?_eq_some_iff.mp hu).1
      simpa using this
    refine wpAny_pyNext_enum_itemD D he ⟨hit, show s.heap.IsTuple a its.toArray from p⟩ hlt hne (by simp; exact ⟨hne, hae.symm⟩) fun y h' tk hP ho hs' hT hsz hk => ?_
    have ey : y = u := by
      have h1 : its.toArray[i]? = some u := by simpa using hu
      rw [h1] at hP; exact (Option.some.inj hP).symm
    subst ey
    refine ⟨_, rfl, wpAny_letOwnedTupleGo_enum (s := { s with heap := h', toks := tk + 1 }) ho fun h'' he' sb => ?_⟩
    have hT2 : h''.get? s.heap.objs.size = some { cls := .type "tuple", data := .seq #[.int i tk, y] } := (sb.2 _ (Nat.ne_of_gt hle9)).trans hT
    have new : ObjOk X.prog X.w (upd H s.heap.objs.size (.tup [.int (i : Nat), x])) h'' s.heap.objs.size (.tup [.int (i : Nat), x]) :=
      ⟨by show 2 ≤ sizeLine; decide, [.int i tk, y], .cons ⟨_, rfl⟩ (.cons ru .nil), ⟨_, hT2, rfl, _, rfl⟩⟩
    have I1 : Inv X pnz σ (upd H s.heap.objs.size (.tup [.int (i : Nat), x])) { s with heap := h'', toks := tk + 1 } :=
      Iv.turnedNew (ch := [e, it]) (fun b ob hb q => (sb.2 b (fun z => hb (by simp [z]))).trans (hk b ob (fun z => hb (by simp [z])) (fun z => hb (by simp [z])) q)) hf (Nat.le_refl _) new
    refine ⟨.ref s.heap.objs.size, _, I1, rfl, ⟨_, x, rfl, Iv.hok.fresh (Nat.le_refl _), rfl, fun ys hy => by rw [Iv.tuple_inj hy hq]; exact hx⟩, ⟨⟨y, by simpa using he'⟩, hs'.1.at fun o q => (sb.2 it (Ne.symm hne)).trans q, hne⟩, fun b hb => ?_⟩
    have hb' : b < s.heap.objs.size := by
      rcases (by simpa using hb : b = e ∨ b = it) with z | z
      · rw [z]; exact hle9
      · rw [z]; exact hli9
    rw [upd_ne (Nat.ne_of_lt hb')]
    exact (hf b hb).1
  done := by
    intro X hP hw hK hc i pnz s σ H E Iv hf st hg
    subst hP hw hK
    obtain ⟨⟨old, he⟩, hit, hne⟩ := st
    obtain ⟨xs, hq, hx⟩ := hg
    obtain ⟨its, rvv, p, hzz⟩ := Iv.tuple hq
    have hh : X.A.in1.handled = none := Iv.ok.hd hc
    have hai : a ≠ it := fun z => by
      obtain ⟨o1, h1, h2, _⟩ := hit
      obtain ⟨o2, k1, k2, _⟩ := p
      rw [z, h1] at k1; cases k1
      rw [h2] at k2; injection k2 with z2; exact absurd z2 (by decide)
    obtain ⟨f0, f1, f2, f3, f4, f5⟩ := hf it (by simp)
    have hT : s.TypeIs (.ref e) "enumerate" := ⟨_, he, rfl⟩
    unfold pyNext
    refine wpAny_bind (wpAny_attempt (wpAny_callSpecial?_slot (name := Str.ofString "__next__") hT F.slot_enumerate_next
      (wpAny_call_entry F.slot_enumerate_next hT F.entry_enumerate_next ?_ (F.args_enumerate_next_1 _))))
    show wpAny _ _ (field (.ref e) 2 >>= _) _ _ _
    refine wpAny_bind (wpAny_field he rfl (x := .ref it) rfl ?_)
    refine wpAny_bind (wpAny_nextOf_tuple_end hh hit (show s.heap.IsTuple a its.toArray from p) (by simp; rw [← rvv.length]; exact hx) fun h' x he' hx' => ?_)
    obtain ⟨o, ho, hcl⟩ := hx'
    refine wpAny_bind (wpAny_isInstance (T := "StopIteration") (b := true) ⟨o, ho, hcl⟩ isSubtype_stop ?_)
    exact wpAny_pure ⟨rfl, Iv.turned (t' := s.toks) (fun b o hb q => he' b o hb q) f0 f1 f3 f4 f5⟩
  self := fun A i s Q E st h => let ⟨⟨_, he⟩, _⟩ := st; wpAny_pyIter_enum he h
theorem meets_enum1 {v : Value} {o : Obj} {H : Heap → Prop} (B : Begins v o H) :
    Meets (Builtin.«enumerate.__new__» ⟨[.type "enumerate", v], []⟩) (fun _ R s => H s.heap ∧
      R (.ok (.ret (.ref (s.heap.push o).objs.size))) { s with heap := (s.heap.push o).push { cls := .type "enumerate", data := .fields #[.none, .bool false, .ref s.heap.objs.size, rawInt 0, .none, .none] } }) :=
  .of_wp fun prog w A R s h => by
    obtain ⟨hp, g, d, tk, os⟩ := s; obtain ⟨h1, h⟩ := h
    have hsub := sub_enumerate
    have q1 : ∀ {A2 : Around} {E2 Q2 : Value → Shared → Prop}, Q2 (.ref hp.objs.size) ⟨hp.push o, g, d, tk, os⟩ → wpAny (model prog w) A2 (pyIter v) Q2 E2 ⟨hp, g, d, tk, os⟩ :=
      fun q => B.iter prog w _ _ ⟨hp, g, d, tk, os⟩ _ h1 q
    wp_walk using q1
    refine wpAny_stack_any fun st => wpAny_pure ?_
    split
    · rename_i c _ _ _ _ _
      cases (c == Value.type "enumerate")
      · wp_walk using q1
        exact ⟨_, rfl, h⟩
      · wp_walk using q1
        exact ⟨_, rfl, h⟩
    · wp_walk using q1
      exact ⟨_, rfl, h⟩
theorem turn_enumS {P : Program} {w : World} {K : PySem.W.Frag} {elts : List Expr} {kk : Nat} {tpos : Pos} (x : Str) (tt : Tok) (e it : Addr) :
    Turn P w K (.Tuple elts kk tpos) (ItnS x) [e, it] e (fun i h => (∃ old, IsEnum h e it ((i : Nat) : Int) old) ∧ h.IsStrIter it (strIterType x) x tt i ∧ e ≠ it ∧ i ≤ x.cps.size) where
  mem := by simp
  obj := fun i h st b hb => by
    obtain ⟨⟨old, he⟩, ⟨o, ho, _, hd⟩, _⟩ := st
    rcases (by simpa using hb : b = e ∨ b = it) with rfl | rfl
    · exact ⟨_, he, fun v q => nomatch q⟩
    · exact ⟨o, ho, fun v q => by rw [hd] at q; cases q⟩
  keep := fun i h h' st k => let ⟨⟨old, he⟩, ⟨o, hi1, hi2⟩, hne⟩ := st; ⟨⟨old, k e (by simp) _ he⟩, ⟨o, k it (by simp) o hi1, hi2⟩, hne⟩
  item := by
    intro X hP hw hK hc i pnz s σ H E Iv hf st hg
    subst hP hw hK
    obtain ⟨⟨old, he⟩, hit, hne, hle⟩ := st
    have hi : i < x.cps.size := hg
    have hle9 : e < s.heap.objs.size := Heap.lt_size he
    have hli9 : it < s.heap.objs.size := by obtain ⟨_, q, _⟩ := hit; exact Heap.lt_size q
    have hh : X.A.in1.handled = none := Iv.ok.hd hc
    have D := Draws.text (prog := X.prog) (w := X.w) (A := X.A.in1) hh it x tt
    refine wpAny_pyNext_enum_itemD D he hit hi hne (by simpa using hne) fun y h' tk hP ho hs' hT hsz hk => ?_
    obtain ⟨c, u, hc1, rfl⟩ := hP
    refine ⟨_, rfl, wpAny_letOwnedTupleGo_enum (s := { s with heap := h', toks := tk + 1 }) ho fun h'' he' sb => ?_⟩
    have hT2 : h''.get? s.heap.objs.size = some { cls := .type "tuple", data := .seq #[.int i tk, .str ⟨#[c]⟩ u] } := (sb.2 _ (Nat.ne_of_gt hle9)).trans hT
    have new : ObjOk X.prog X.w (upd H s.heap.objs.size (.tup [.int (i : Nat), .str ⟨#[c]⟩])) h'' s.heap.objs.size (.tup [.int (i : Nat), .str ⟨#[c]⟩]) :=
      ⟨by show 2 ≤ sizeLine; decide, [.int i tk, .str ⟨#[c]⟩ u], .cons ⟨_, rfl⟩ (.cons ⟨u, rfl⟩ .nil), ⟨_, hT2, rfl, _, rfl⟩⟩
    have I1 : Inv X pnz σ (upd H s.heap.objs.size (.tup [.int (i : Nat), .str ⟨#[c]⟩])) { s with heap := h'', toks := tk + 1 } :=
      Iv.turnedNew (ch := [e, it]) (fun b ob hb q => (sb.2 b (fun z => hb (by simp [z]))).trans (hk b ob (fun z => hb (by simp [z])) (fun z => hb (by simp [z])) q)) hf (Nat.le_refl _) new
    refine ⟨.ref s.heap.objs.size, _, I1, rfl, ⟨_, c, rfl, Iv.hok.fresh (Nat.le_refl _), rfl, hc1⟩, ⟨⟨_, by simpa using he'⟩, ?_, hne, hi⟩, fun b hb => ?_⟩
    · obtain ⟨o1, z1, z2⟩ := hs'
      exact ⟨o1, (sb.2 it (Ne.symm hne)).trans z1, z2⟩
    have hb' : b < s.heap.objs.size := by
      rcases (by simpa using hb : b = e ∨ b = it) with z | z
      · rw [z]; exact hle9
      · rw [z]; exact hli9
    rw [upd_ne (Nat.ne_of_lt hb')]
    exact (hf b hb).1
  done := by
    intro X hP hw hK hc i pnz s σ H E Iv hf st hg
    subst hP hw hK
    obtain ⟨⟨old, he⟩, hit, hne, hle⟩ := st
    have hge : x.cps.size ≤ i := hg
    have hh : X.A.in1.handled = none := Iv.ok.hd hc
    obtain ⟨f0, f1, f2, f3, f4, f5⟩ := hf it (by simp)
    have D := Draws.text (prog := X.prog) (w := X.w) (A := X.A.in1) hh it x tt
    obtain rfl : i = x.cps.size := by omega
    exact wpAny_pyNext_enum_endD D he hit fun h' hx => ⟨rfl, Iv.turned (t' := s.toks) (fun b o hb q => hx b o hb q) f0 f1 f3 f4 f5⟩
  self := fun A i s Q E st h => let ⟨⟨_, he⟩, _⟩ := st; wpAny_pyIter_enum he h
theorem call_enum1 {prog : Program} {w : World} {A : Around} {E : Value → Shared → Prop} {s : Shared} {v : Value} {o : Obj} {Hs : Heap → Prop} {Q : Value → Shared → Prop} (B : Begins v o Hs) (h1 : Hs s.heap)
    (h : ∀ h', IsEnum h' (s.heap.objs.size + 1) s.heap.objs.size 0 .none → h'.get? s.heap.objs.size = some o → (∀ b o, s.heap.get? b = some o → h'.get? b = some o) → Q (.ref (s.heap.objs.size + 1)) { s with heap := h' }) :
    wpAny (model prog w) A (call (.type "enumerate") [v]) Q E s := by
  refine callType_new F.called_enumerate (by decide) (F.typeCall_enumerate_1 _) (F.newCall_enumerate_1 _) (fun obj => F.args_object_init_2 obj _) F.entry_enumerate_new (meets_enum1 B) ⟨h1, ?_⟩
  have hzz : (s.heap.push o).objs.size = s.heap.objs.size + 1 := Heap.size_push ..
  show _ ∧ _
  rw [hzz]
  have he : IsEnum ((s.heap.push o).push { cls := .type "enumerate", data := .fields #[.none, .bool false, .ref s.heap.objs.size, rawInt 0, .none, .none] }) (s.heap.objs.size + 1) s.heap.objs.size 0 .none := by
    have q := Heap.get?_push_size (s.heap.push o) (o := { cls := .type "enumerate", data := .fields #[.none, .bool false, .ref s.heap.objs.size, rawInt 0, .none, .none] }) rfl
    rw [hzz] at q; exact q
  exact ⟨⟨_, he, rfl⟩, h _ he (Heap.get?_push_of_some _ (Heap.get?_push_size _ B.free)) fun b o x => Heap.get?_push_of_some _ (Heap.get?_push_of_some _ x)⟩
def tgEnum (K : PySem.W.Frag) (ta : TA) : TI := fun S H R => ta S H fun vs H1 => (∃ a xs, vs = [.ref a] ∧ SqL K H1 a xs ∧ R (Ite K a) H1) ∨ (∃ a xs, vs = [.ref a] ∧ SqT K H1 a xs ∧ R (ItnT K a) H1) ∨ ∃ x, vs = [.str x] ∧ R (ItnS x) H1
theorem pi_enumA {X : Cx} {e : Expr} {ta : TA} {p pos tpos : Pos} {elts : List Expr} {kk : Nat} (hg : Gl X "enumerate") (hm : X.mg "enumerate" = none) (ha : PA X [e] ta) (hs : starEach [e] X.env = [(false, eval e X.env)] := by rfl) :
    PI X (.Tuple elts kk tpos) (.Call (.Name "enumerate" p) [e] [] pos) (tgEnum X.K ta) := by
  refine ⟨fun pnz s σ H R Iv h => ?_⟩
  refine Call_ (ld_blt Iv hg hm boot_enumerate (PyProof.Rows.callWith_type1 (thn (ha.run pos pnz s σ H _ Iv h) fun us s1 ⟨vs, H1, I1, r1, q1⟩ => ?_) hs rfl))
  have fp : ∀ b ∈ [s1.heap.objs.size + 1, s1.heap.objs.size], FpOk X pnz H1 b := fun b hb => by
    have hle : s1.heap.objs.size ≤ b := by
      rcases (by simpa using hb : b = s1.heap.objs.size + 1 ∨ b = s1.heap.objs.size) with z | z
      · rw [z]; exact Nat.le_succ _
      · rw [z]; exact Nat.le_refl _
    exact I1.fpOk hle (I1.hok.fresh hle)
  rcases q1 with ⟨a, xs, ex, hq, q⟩ | ⟨a, xs, ex, hq, q⟩ | ⟨x, ex, q⟩
  · subst ex
    cases r1 with
    | cons r rr =>
      cases rr; cases r
      obtain ⟨its, rvv, p', hzz⟩ := I1.list hq
      refine call_enum1 (begins_list a its.toArray) p'.isList fun h' he hit hk => wpAny_pyIter_enum he ?_
      exact ⟨s1.heap.objs.size + 1, _, _, _, H1, rfl, I1.kept (t' := s1.toks) hk, turn_enum a _ _, ⟨⟨.none, he⟩, ⟨_, hit, rfl, rfl⟩, Nat.succ_ne_self _⟩, fp, q⟩
  · subst ex
    cases r1 with
    | cons r rr =>
      cases rr; cases r
      obtain ⟨its, rvv, p', hzz⟩ := I1.tuple hq
      refine call_enum1 (begins_tuple a its.toArray) (show s1.heap.IsTuple a its.toArray from p') fun h' he hit hk => wpAny_pyIter_enum he ?_
      exact ⟨s1.heap.objs.size + 1, _, _, _, H1, rfl, I1.kept (t' := s1.toks) hk, turn_enumT a _ _, ⟨⟨.none, he⟩, ⟨_, hit, rfl, rfl⟩, Nat.succ_ne_self _⟩, fp, q⟩
  · subst ex
    cases r1 with
    | cons r rr =>
      cases rr
      obtain ⟨t, rfl⟩ := r
      refine call_enum1 (begins_text x t) True.intro fun h' he hit hk => wpAny_pyIter_enum he ?_
      exact ⟨s1.heap.objs.size + 1, _, _, _, H1, rfl, I1.kept (t' := s1.toks) hk, turn_enumS x t _ _, ⟨⟨.none, he⟩, ⟨_, hit, rfl, rfl⟩, Nat.succ_ne_self _, Nat.zero_le _⟩, fp, q⟩
section
variable {G : KW} {η : List Addr} {H : Hp}
theorem it_enumT {a : Addr} {ds : List D} {vs : List V} (h : SqT G.K H a vs) (r : RelAll G η H ds vs) : ItOk G η H (ItnT G.K a) (numD 0 ds) where
  go := fun i d hd H' e => by
    obtain ⟨x, hx, rfl⟩ := numD_get hd
    obtain ⟨v, hv, rvv⟩ := r.get hx
    refine ⟨⟨vs, v, SqT.ext e h, hv⟩, fun z H'' w => ?_⟩
    obtain ⟨T, v', rfl, hT, rfl, w1⟩ := w
    have e1 := w1 vs (SqT.ext e h)
    rw [hv] at e1; cases e1
    rw [show ((0 + i : Nat) : Int) = ((i : Nat) : Int) by omega]
    exact pair_new hT (.int _) (rvv.ext (List.prefix_refl _) e)
  stop := fun i hi H' e => ⟨vs, SqT.ext e h, by rw [numD_len, r.length] at hi; exact hi⟩
theorem it_enumS {x : Str} : ItOk G η H (ItnS x) (numD 0 (x.cps.toList.map fun c => .str ⟨#[c]⟩)) where
  go := fun i d hd H' e => by
    obtain ⟨y, hy, rfl⟩ := numD_get hd
    rw [List.getElem?_map] at hy
    obtain ⟨c, hc, rfl⟩ := Option.map_eq_some_iff.mp hy
    have hi : i < x.cps.size := by simpa using (List.getElem?_eq_some_iff.mp hc).1
    refine ⟨hi, fun z H'' w => ?_⟩
    obtain ⟨T, c', rfl, hT, rfl, w1⟩ := w
    have : c' = c := by
      have h2 : x.cps[i]? = some c := by simpa using hc
      rw [h2] at w1; exact (Option.some.inj w1).symm
    subst this
    rw [show ((0 + i : Nat) : Int) = ((i : Nat) : Int) by omega]
    exact pair_new hT (.int _) (.str _)
  stop := fun i hi H' e => by rw [numD_len] at hi; simpa [ItnS] using hi
end
/-- of a list, a tuple, a text -/
def iEnumA (fs : List FE) : FI := fun env ah => (iArgs fs env ah).bind fun ds ah1 => match ds with
  | [.lst xs] => .ok (numD 0 xs) ah1
  | [.tup xs] => .ok (numD 0 xs) ah1
  | [.ct xs] => .ok (numD 0 xs) ah1
  | [.str x] => .ok (numD 0 (x.cps.toList.map fun c => .str ⟨#[c]⟩)) ah1
  | _ => .bad
theorem i_enumA {X : Cx} {W : XW} {e : Expr} {fs : List FE} {p pos tpos : Pos} {elts : List Expr} {kk : Nat} (hg : Gl X "enumerate") (hm : X.mg "enumerate" = none) (ha : PA X [e] (AX' X W fs)) (hs : starEach [e] X.env = [(false, eval e X.env)] := by rfl) :
    PI X (.Tuple elts kk tpos) (.Call (.Name "enumerate" p) [e] [] pos) (IX X W (iEnumA fs)) := PI.imp (pi_enumA hg hm ha hs) fun S H R ⟨env, ah, η, en, pk, h⟩ =>
  ⟨env, ah, η, en, pk, h.bind.imp0 fun ds η1 H1 ah1 m1 p1 q1 => fun vs rs => by
    split at q1
    · cases rs with
      | cons r rr =>
        cases rr
        cases r with
        | lst h1 r1 => exact .inl ⟨_, _, rfl, h1.sq, q1.at p1 _ (it_enum h1 r1)⟩
    · cases rs with
      | cons r rr =>
        cases rr
        cases r with
        | tup h1 r1 => exact .inr (.inl ⟨_, _, rfl, .inl (.inl h1), q1.at p1 _ (it_enumT (.inl (.inl h1)) r1)⟩)
    · cases rs with
      | cons r rr =>
        cases rr
        cases r with
        | ct h1 r1 => exact .inr (.inl ⟨_, _, rfl, h1.sqt, q1.at p1 _ (it_enumT h1.sqt r1)⟩)
    · cases rs with
      | cons r rr =>
        cases rr
        cases r with
        | str => exact .inr (.inr ⟨_, rfl, q1.at p1 _ it_enumS⟩)
    · exact q1.elim⟩
end DL
namespace DL
open PySem PySem.Spec PyProof.Rows L2
section
variable {X : Cx} {G : KW} {W : XW} {η : List Addr} {H : Hp} {ah : AH}
theorem relL1 {d : D} {vs : List V} (r : RelAll G η H [d] vs) : ∃ v, vs = [v] ∧ Rel G η H d v := by
  cases r with | cons h r => cases r; exact ⟨_, rfl, h⟩
theorem relL2 {d e : D} {vs : List V} (r : RelAll G η H [d, e] vs) : ∃ v u, vs = [v, u] ∧ Rel G η H d v ∧ Rel G η H e u := by
  cases r with | cons h r => obtain ⟨u, rfl, k⟩ := relL1 r; exact ⟨_, _, rfl, h, k⟩
def oLen (ds : List D) (ah : AH) : Res D := match ds with
  | [.str x] => if x.length ≤ sizeLine then .ok (.int (x.length : Nat)) ah else .bad
  | [d] => match seqD ah d with
    | some (_, xs) => .ok (.int (xs.length : Nat)) ah
    | none => match dkD ah d with
      | some (ks, _) => .ok (.int (ks.length : Nat)) ah
      | none => .bad
  | _ => .bad
def rLenA (K : PySem.W.Frag) : List V → Hp → VK → Prop := fun xs H Q => (∃ x n, xs = [x] ∧ LenV K x H n ∧ Q (.int n) H) ∨ ∃ a kvz, xs = [V.ref a] ∧ Rd H a (.dK kvz) ∧ Q (.int (kvz.length : Nat)) H
theorem call_lenF : CallR X (.builtin "len") (fun xs H Q => ∃ a kvz, xs = [V.ref a] ∧ Rd H a (.dK kvz) ∧ Q (.int (kvz.length : Nat)) H) := by
  intro pnz s σ H xs us Q Iv r h
  obtain ⟨p, kvz, rfl, hp, q⟩ := h
  rw [Vals.ref1 r]
  exact d_len Iv hp fun t s' J => ⟨.int ((kvz.length : Nat) : Int), H, J, ⟨_, rfl⟩, q⟩
theorem call_lenA : CallR X (.builtin "len") (rLenA X.K) := call_len.or call_lenF
theorem ok_len : CaOk G W (rLenA G.K) oLen := by
  intro η H ah ds vs Q p r h
  unfold oLen at h
  split at h
  · obtain ⟨v, rfl, rx⟩ := relL1 r
    cases rx
    split at h
    · exact .inl ⟨_, _, rfl, ⟨by assumption, rfl⟩, post_val p (.int _) h⟩
    · exact h.elim
  · rename_i d _
    obtain ⟨v, rfl, rx⟩ := relL1 r
    split at h
    · rename_i b xs e1
      obtain ⟨a, us, rfl, r1, q1, q2⟩ := seq_rel p rx e1
      refine .inl ⟨.ref a, xs.length, rfl, ?_, post_val p (.int _) h⟩
      cases b with
      | true => exact .inr ⟨us, q1 rfl, r1.length⟩
      | false => exact .inl ⟨us, .inl (q2 rfl), r1.length⟩
    · split at h
      · rename_i ks xs e1
        obtain ⟨a, kvz, rfl, h1, h2, h3⟩ := dk_rel p rx e1
        refine .inr ⟨a, kvz, rfl, h1, post_val (W := W) p (.int _) ?_⟩
        rw [← h2, List.length_map] at h
        exact h
      · exact h.elim
  · exact h.elim
def rprOk (q : PyData) : Bool := q.showable && (q.leavesShort 13 && (decide (q.bulk ≤ 1048576) && (decide (q.depth ≤ 40) && !q.hasDict)))
/-- a value as plain data; what is a tuple or a list, told by where it lies -/
def oRepr (ds : List D) (ah : AH) : Res D := match ds with
  | [d] => match toPy d with
    | some q => if rprOk q = true then .ok (.str q.shown) ah else .bad
    | none => .bad
  | _ => .bad
def rRepr (K : PySem.W.Frag) : List V → Hp → VK → Prop := fun xs H Q => ∃ (x : V) (q : PyData), xs = [x] ∧ Dp K H x q ∧ rprOk q = true ∧ Q (.str q.shown) H
theorem rpr_fits {q : PyData} (h : rprOk q = true) : q.shown.length ≤ sizeLine := by
  unfold rprOk at h
  simp only [Bool.and_eq_true, decide_eq_true_eq] at h
  exact PyData.shown_fits_bulk (B := 13) (by decide) (by decide) h.2.1 h.2.2.1
theorem call_repr (hn : NoRepr X.A) (hu : X.A.units + 64 < cLine) : CallR X (.builtin "repr") (rRepr X.K) := by
  intro pnz s σ H xs us Q Iv r h
  obtain ⟨x, q, rfl, dq, ok, hq⟩ := h
  obtain ⟨u, rfl, rx⟩ := vals1 r
  have fit := rpr_fits ok
  obtain ⟨as, rd⟩ := Dp.reads Iv q x u dq rx
  unfold rprOk at ok
  simp only [Bool.and_eq_true, decide_eq_true_eq, Bool.not_eq_true'] at ok
  have base : ∀ a, u = .ref a → wpAny (model X.prog X.w) X.A (call (.builtin "repr") [u]) (EP X pnz σ Q) X.xe s := by
    rintro a rfl
    refine repr_of_reads' rd ok.1 (fun z => ?_) hn (by have := ok.2.2.2.1; omega) (fun _ _ e => e) (fun h' w tk hk => ⟨.str q.shown, H, Iv.kept hk, ⟨w, rfl⟩, hq⟩) fit
    rw [ok.2.2.2.2] at z
    exact Bool.noConfusion z
  cases rd with
  | none => exact PySem.P.repr_of_none ⟨.str "None", H, Iv.tok _, ⟨_, rfl⟩, hq⟩
  | bool b => exact PySem.P.repr_of_bool ⟨.str (if b then "True" else "False"), H, Iv.tok _, ⟨_, rfl⟩, hq⟩
  | int i t => exact PySem.P.repr_of_int (by simpa [PyData.showable] using ok.1) ⟨.str (toString i), H, Iv.tok _, ⟨_, rfl⟩, hq⟩
  | str x t => exact PySem.P.repr_of_str (hsz := fit) ⟨.str (reprText x), H, Iv.tok _, ⟨_, rfl⟩, hq⟩
  | _ => exact base _ rfl
theorem ok_repr : CaOk G W (rRepr G.K) oRepr := by
  intro η H ah ds vs Q p r h
  unfold oRepr at h
  split at h
  · obtain ⟨v, rfl, rx⟩ := relL1 r
    split at h
    · rename_i q hq
      split at h
      · exact ⟨v, q, rfl, rel_dp _ rx hq, by assumption, post_val p (.str _) h⟩
      · exact h.elim
    · exact h.elim
  · exact h.elim
def rTup (K : PySem.W.Frag) : List V → Hp → VK → Prop := fun xs H Q => ∃ p ys, xs = [.ref p] ∧ ((SqL K H p ys ∧ ∀ l, H l = none → Q (.ref l) (upd H l (.tup ys))) ∨ (SqT K H p ys ∧ Q (.ref p) H))
def oTuple (ds : List D) (ah : AH) : Res D := match ds with
  | [d] => match seqD ah d with
    | some (true, _) => .ok d ah
    | some (false, xs) => .ok (.tup xs) ah
    | none => .bad
  | _ => .bad
theorem ok_tuple : CaOk G W (rTup G.K) oTuple := by
  intro η H ah ds vs Q p r h
  unfold oTuple at h
  split at h
  · rename_i d
    obtain ⟨v, rfl, rx⟩ := relL1 r
    split at h
    · rename_i xs e1
      obtain ⟨a, us, rfl, r1, q1, q2⟩ := seq_rel p rx e1
      exact ⟨a, us, rfl, .inr ⟨q1 rfl, post_val p rx h⟩⟩
    · rename_i xs e1
      obtain ⟨a, us, rfl, r1, q1, q2⟩ := seq_rel p rx e1
      exact ⟨a, us, rfl, .inl ⟨.inl (q2 rfl), fun l hl => post_tup p r1 h hl⟩⟩
    · exact h.elim
  · exact h.elim
def rLst (K : PySem.W.Frag) : List V → Hp → VK → Prop := fun xs H Q => ∃ p ys, xs = [.ref p] ∧ (SqL K H p ys ∨ SqT K H p ys) ∧ ∀ l, H l = none → Q (.ref l) (upd H l (.lst ys))
/-- list(x), a list that does not change -/
def oList (ds : List D) (ah : AH) : Res D := match ds with
  | [d] => match seqD ah d with
    | some (_, xs) => .ok (.lst xs) ah
    | none => .bad
  | _ => .bad
def oListM (ds : List D) (ah : AH) : Res D := match ds with
  | [d] => match seqD ah d with
    | some (_, xs) => .ok (.ref ah.length) (ah ++ [.lst xs])
    | none => .bad
  | _ => .bad
theorem ok_list : CaOk G W (rLst G.K) oList := by
  intro η H ah ds vs Q p r h
  unfold oList at h
  split at h
  · obtain ⟨v, rfl, rx⟩ := relL1 r
    split at h
    · rename_i b xs e1
      obtain ⟨a, us, rfl, r1, q1, q2⟩ := seq_rel p rx e1
      refine ⟨a, us, rfl, ?_, fun l hl => post_fz p r1 h hl⟩
      cases b with
      | true => exact .inr (q1 rfl)
      | false => exact .inl (.inl (q2 rfl))
    · exact h.elim
  · exact h.elim
theorem ok_listM : CaOk G W (rLst G.K) oListM := by
  intro η H ah ds vs Q p r h
  unfold oListM at h
  split at h
  · obtain ⟨v, rfl, rx⟩ := relL1 r
    split at h
    · rename_i b xs e1
      obtain ⟨a, us, rfl, r1, q1, q2⟩ := seq_rel p rx e1
      refine ⟨a, us, rfl, ?_, fun l hl => post_mut p r1 h hl⟩
      cases b with
      | true => exact .inr (q1 rfl)
      | false => exact .inl (.inl (q2 rfl))
    · exact h.elim
  · exact h.elim
def intsD : List D → Option (List Int)
  | [] => some []
  | .int i :: ds => (intsD ds).map (i :: ·)
  | _ => none
def blsD : List D → Option (List Bool)
  | [] => some []
  | .bl i :: ds => (blsD ds).map (i :: ·)
  | _ => none
def strsD : List D → Option (List Str)
  | [] => some []
  | .str i :: ds => (strsD ds).map (i :: ·)
  | _ => none
theorem ints_rel : ∀ {ds : List D} {vs : List V} {ns : List Int}, RelAll G η H ds vs → intsD ds = some ns → vs = ns.map V.int
  | [], _, _, .nil, e => by cases e; rfl
  | .int i :: ds, _, _, .cons (.int _) r, e => by
    simp only [intsD] at e
    obtain ⟨ms, e1, rfl⟩ := Option.map_eq_some_iff.mp e
    rw [ints_rel r e1]; rfl
theorem bls_rel : ∀ {ds : List D} {vs : List V} {ns : List Bool}, RelAll G η H ds vs → blsD ds = some ns → vs = ns.map V.bl
  | [], _, _, .nil, e => by cases e; rfl
  | .bl i :: ds, _, _, .cons (.bl _) r, e => by
    simp only [blsD] at e
    obtain ⟨ms, e1, rfl⟩ := Option.map_eq_some_iff.mp e
    rw [bls_rel r e1]; rfl
theorem strs_rel : ∀ {ds : List D} {vs : List V} {ns : List Str}, RelAll G η H ds vs → strsD ds = some ns → vs = ns.map V.str
  | [], _, _, .nil, e => by cases e; rfl
  | .str i :: ds, _, _, .cons (.str _) r, e => by
    simp only [strsD] at e
    obtain ⟨ms, e1, rfl⟩ := Option.map_eq_some_iff.mp e
    rw [strs_rel r e1]; rfl
theorem RelAll.ints : ∀ ns : List Int, RelAll G η H (ns.map D.int) (ns.map V.int)
  | [] => .nil
  | n :: ns => .cons (.int n) (RelAll.ints ns)
theorem RelAll.strs : ∀ ns : List Str, RelAll G η H (ns.map D.str) (ns.map V.str)
  | [] => .nil
  | n :: ns => .cons (.str n) (RelAll.strs ns)
@[simp] theorem intsD_map (ns : List Int) : intsD (ns.map D.int) = some ns := by
  induction ns with
  | nil => rfl
  | cons n ns ih => simp [intsD, ih]
@[simp] theorem blsD_map (ns : List Bool) : blsD (ns.map D.bl) = some ns := by
  induction ns with
  | nil => rfl
  | cons n ns ih => simp [blsD, ih]
@[simp] theorem strsD_map (ns : List Str) : strsD (ns.map D.str) = some ns := by
  induction ns with
  | nil => rfl
  | cons n ns ih => simp [strsD, ih]
/-- the items of a list -/
def lstD (ah : AH) (d : D) : Option (List D) := match seqD ah d with
  | some (false, xs) => some xs
  | _ => none
theorem lst_rel {d : D} {v : V} {xs : List D} (p : HpOk G η H ah) (r : Rel G η H d v) (e : lstD ah d = some xs) : ∃ a us, v = .ref a ∧ RelAll G η H xs us ∧ SqL G.K H a us := by
  unfold lstD at e
  split at e
  · rename_i ys e1
    cases e
    obtain ⟨a, us, rfl, r1, q1, q2⟩ := seq_rel p r e1
    exact ⟨a, us, rfl, r1, .inl (q2 rfl)⟩
  · cases e
def oL1 {α : Type} (g : List D → Option α) (k : α → Option D) (ds : List D) (ah : AH) : Res D := match ds with
  | [d] => match lstD ah d with
    | some xs => match g xs with
      | some a => match k a with
        | some r => .ok r ah
        | none => .bad
      | none => .bad
    | none => .bad
  | _ => .bad
theorem ok_L1 {α : Type} {g : List D → Option α} {k : α → Option D} {r : List V → Hp → VK → Prop} (hr : ∀ (η : List Addr) (H : Hp) (ah : AH) (a : Addr) (us : List V) (xs : List D) (x : α) (d : D) (Q : VK), HpOk G η H ah → RelAll G η H xs us → SqL G.K H a us → g xs = some x → k x = some d →
    Post G W η H (.ok d ah) (QV G Q) → r [.ref a] H (QF Q)) : CaOk G W r (oL1 g k) := by
  intro η H ah ds vs Q p rr h
  unfold oL1 at h
  split at h
  · obtain ⟨v, rfl, rx⟩ := relL1 rr
    split at h
    · rename_i xs e1
      obtain ⟨a, us, rfl, r1, q1⟩ := lst_rel p rx e1
      split at h
      · split at h
        · exact hr η H ah a us xs _ _ Q p r1 q1 (by assumption) (by assumption) h
        · exact h.elim
      · exact h.elim
    · exact h.elim
  · exact h.elim
def oSum := oL1 intsD fun ns => some (.int ns.sum)
theorem ok_sum : CaOk G W (rSum G.K) oSum := ok_L1 fun η H ah a us xs ns d Q p r q e1 e2 h => by
  cases e2
  obtain rfl := ints_rel r e1
  exact ⟨a, ns, rfl, q, post_val p (.int _) h⟩
def oAll := oL1 blsD fun bs => some (.bl (bs.all id))
theorem ok_all : CaOk G W (rAll G.K) oAll := ok_L1 fun η H ah a us xs ns d Q p r q e1 e2 h => by
  cases e2
  obtain rfl := bls_rel r e1
  exact ⟨a, ns, rfl, q, post_val p (.bl _) h⟩
def oAny := oL1 blsD fun bs => some (.bl (bs.any id))
theorem ok_any : CaOk G W (rAny G.K) oAny := ok_L1 fun η H ah a us xs ns d Q p r q e1 e2 h => by
  cases e2
  obtain rfl := bls_rel r e1
  exact ⟨a, ns, rfl, q, post_val p (.bl _) h⟩
def maxI : List Int → Option Int
  | [] => none
  | [a] => some a
  | a :: as => (maxI as).map (max a)
def minI : List Int → Option Int
  | [] => none
  | [a] => some a
  | a :: as => (minI as).map (min a)
theorem maxI_eq : ∀ {ns : List Int} {a : Int}, maxI ns = some a → a ∈ ns ∧ ∀ y ∈ ns, y ≤ a
  | [b], a, e => by cases e; simp
  | b :: c :: ns, a, e => by
    simp only [maxI] at e
    obtain ⟨m, e1, rfl⟩ := Option.map_eq_some_iff.mp e
    obtain ⟨h1, h2⟩ := maxI_eq (ns := c :: ns) e1
    refine ⟨?_, fun y hy => ?_⟩
    · rcases Int.le_total b m with h | h
      · rw [Int.max_eq_right h]; exact List.mem_cons_of_mem _ h1
      · rw [Int.max_eq_left h]; simp
    · rcases List.mem_cons.mp hy with rfl | hy
      · omega
      · have := h2 y hy; omega
theorem minI_eq : ∀ {ns : List Int} {a : Int}, minI ns = some a → a ∈ ns ∧ ∀ y ∈ ns, a ≤ y
  | [b], a, e => by cases e; simp
  | b :: c :: ns, a, e => by
    simp only [minI] at e
    obtain ⟨m, e1, rfl⟩ := Option.map_eq_some_iff.mp e
    obtain ⟨h1, h2⟩ := minI_eq (ns := c :: ns) e1
    refine ⟨?_, fun y hy => ?_⟩
    · rcases Int.le_total b m with h | h
      · rw [Int.min_eq_left h]; simp
      · rw [Int.min_eq_right h]; exact List.mem_cons_of_mem _ h1
    · rcases List.mem_cons.mp hy with rfl | hy
      · omega
      · have := h2 y hy; omega
def oMax := oL1 intsD fun ns => (maxI ns).map D.int
def oMin := oL1 intsD fun ns => (minI ns).map D.int
theorem ok_max : CaOk G W (rMax G.K) oMax := ok_L1 fun η H ah a us xs ns d Q p r q e1 e2 h => by
  obtain ⟨m, e3, rfl⟩ := Option.map_eq_some_iff.mp e2
  obtain rfl := ints_rel r e1
  obtain ⟨h1, h2⟩ := maxI_eq e3
  refine ⟨a, ns, rfl, q, List.length_pos_of_mem h1, fun m' hm hy => ?_⟩
  have := h2 m' hm; have := hy m h1
  obtain rfl : m' = m := by omega
  exact post_val p (.int _) h
theorem ok_min : CaOk G W (rMin G.K) oMin := ok_L1 fun η H ah a us xs ns d Q p r q e1 e2 h => by
  obtain ⟨m, e3, rfl⟩ := Option.map_eq_some_iff.mp e2
  obtain rfl := ints_rel r e1
  obtain ⟨h1, h2⟩ := minI_eq e3
  refine ⟨a, ns, rfl, q, List.length_pos_of_mem h1, fun m' hm hy => ?_⟩
  have := h2 m' hm; have := hy m h1
  obtain rfl : m' = m := by omega
  exact post_val p (.int _) h
end
end DL
namespace DL
open PySem PySem.Spec PyProof.Rows L2
section
variable {X : Cx} {G : KW} {W : XW} {η : List Addr} {H : Hp} {ah : AH}
def oSorted := oL1 intsD fun ns => some (.lst ((ns.mergeSort (fun a b => decide (a ≤ b))).map D.int))
theorem sorted_one {ns ms : List Int} (p : ms.Perm ns) (s : ms.Pairwise (· ≤ ·)) : ms = ns.mergeSort (fun a b => decide (a ≤ b)) := by
  have h2 := List.pairwise_mergeSort (le := fun (a b : Int) => decide (a ≤ b)) (fun a b c => by simp only [decide_eq_true_eq]; omega) (fun a b => by simp only [Bool.or_eq_true, decide_eq_true_eq]; omega) ns
  exact List.Perm.eq_of_pairwise (le := (· ≤ ·)) (fun a b _ _ h1 h2 => by omega) s (h2.imp fun h => of_decide_eq_true h) (p.trans (List.mergeSort_perm _ _).symm)
theorem ok_sorted : CaOk G W (rSortedI G.K) oSorted := ok_L1 fun η H ah a us xs ns d Q p r q e1 e2 h => by
  cases e2
  obtain rfl := ints_rel r e1
  refine ⟨a, ns, rfl, q, fun ms l h1 h2 hl => ?_⟩
  rw [sorted_one h1 h2]
  exact post_fz p (RelAll.ints _) h hl
def oAbs (ds : List D) (ah : AH) : Res D := match ds with
  | [.int i] => .ok (.int (if i < 0 then -i else i)) ah
  | _ => .bad
theorem ok_abs : CaOk G W (fun xs H Q => ∃ i, xs = [.int i] ∧ Q (.int (if i < 0 then -i else i)) H) oAbs := by
  intro η H ah ds vs Q p r h
  unfold oAbs at h
  split at h
  · obtain ⟨v, rfl, rx⟩ := relL1 r
    cases rx
    exact ⟨_, rfl, post_val p (.int _) h⟩
  · exact h.elim
def oInt (ds : List D) (ah : AH) : Res D := match ds with
  | [.int i] => .ok (.int i) ah
  | [.bl b] => .ok (.int (if b then 1 else 0)) ah
  | _ => .bad
theorem ok_int : CaOk G W (fun xs H Q => (∃ i, xs = [.int i] ∧ Q (.int i) H) ∨ ∃ k, xs = [.bl k] ∧ Q (.int (if k then 1 else 0)) H) oInt := by
  intro η H ah ds vs Q p r h
  unfold oInt at h
  split at h
  · obtain ⟨v, rfl, rx⟩ := relL1 r
    cases rx
    exact .inl ⟨_, rfl, post_val p (.int _) h⟩
  · obtain ⟨v, rfl, rx⟩ := relL1 r
    cases rx
    exact .inr ⟨_, rfl, post_val p (.int _) h⟩
  · exact h.elim
def oStr (ds : List D) (ah : AH) : Res D := match ds with
  | [.int i] => if i.natAbs.log2 < 1920 then .ok (.str (toString i)) ah else .bad
  | _ => .bad
theorem ok_str : CaOk G W (fun xs H Q => ∃ i, xs = [.int i] ∧ i.natAbs.log2 < 1920 ∧ Q (.str (toString i)) H) oStr := by
  intro η H ah ds vs Q p r h
  unfold oStr at h
  split at h
  · obtain ⟨v, rfl, rx⟩ := relL1 r
    cases rx
    split at h
    · exact ⟨_, rfl, by assumption, post_val p (.str _) h⟩
    · exact h.elim
  · exact h.elim
def oMax2 (ds : List D) (ah : AH) : Res D := match ds with
  | [.int i, .int j] => .ok (.int (if j > i then j else i)) ah
  | _ => .bad
def oMin2 (ds : List D) (ah : AH) : Res D := match ds with
  | [.int i, .int j] => .ok (.int (if j < i then j else i)) ah
  | _ => .bad
theorem ok_max2 : CaOk G W (fun xs H Q => ∃ i j, xs = [.int i, .int j] ∧ Q (.int (if j > i then j else i)) H) oMax2 := by
  intro η H ah ds vs Q p r h
  unfold oMax2 at h
  split at h
  · obtain ⟨v, u, rfl, rx, ry⟩ := relL2 r
    cases rx; cases ry
    exact ⟨_, _, rfl, post_val p (.int _) h⟩
  · exact h.elim
theorem ok_min2 : CaOk G W (fun xs H Q => ∃ i j, xs = [.int i, .int j] ∧ Q (.int (if j < i then j else i)) H) oMin2 := by
  intro η H ah ds vs Q p r h
  unfold oMin2 at h
  split at h
  · obtain ⟨v, u, rfl, rx, ry⟩ := relL2 r
    cases rx; cases ry
    exact ⟨_, _, rfl, post_val p (.int _) h⟩
  · exact h.elim
def tyD (ah : AH) : D → Option String
  | .non => some "NoneType"
  | .bl _ => some "bool"
  | .int _ => some "int"
  | .str _ => some "str"
  | .tup _ => some "tuple"
  | .ct _ => some "tuple"
  | .lst _ => some "list"
  | .dk _ _ => some "dict"
  | .ref n => match ah[n]? with
    | some (.lst _) => some "list"
    | some (.dk _ _) => some "dict"
    | some (.dt _ _) => some "dict"
    | some (.fz (.lst _)) => some "list"
    | some (.fz (.tup _)) => some "tuple"
    | some (.fz (.dk _ _)) => some "dict"
    | _ => none
  | _ => none
theorem ty_rel {d : D} {v : V} {T : String} (p : HpOk G η H ah) (r : Rel G η H d v) (e : tyD ah d = some T) : TyX G.K H v (.type T) := by
  cases r with
  | non => cases e; exact .base .non
  | bl b => cases e; exact .base (.bl b)
  | int b => cases e; exact .base (.int b)
  | str b => cases e; exact .base (.str b)
  | tup h r => cases e; exact .base (.tup h)
  | ct h r =>
    cases e
    rcases h with ⟨o, its, n, h1, h2, _⟩ | ⟨o, h, _⟩
    · exact .kTuple h1 h2
    · exact .fTuple h
  | lst h r => cases e; obtain ⟨o, h⟩ := h; exact .base (.frz h)
  | dk h k r => cases e; exact .fDict h
  | dt h k r => cases e
  | cd h k r => cases e
  | fn a => cases e
  | ty n => cases e
  | ref hn =>
    obtain ⟨o, ho, ok⟩ := p.at hn
    simp only [tyD, ho] at e
    cases o with
    | lst ds => cases e; obtain ⟨vs, h1, _⟩ := ok; exact .base (.lst h1)
    | dk ks ds => cases e; obtain ⟨vs, h1, _⟩ := ok; exact .base (.dK h1)
    | dt ks ds => cases e; obtain ⟨vs, h1, _⟩ := ok; exact .base (.dT h1)
    | gone => cases e
    | tab p => cases e
    | rng lo hi => cases e
    | dx ks ds => cases e
    | xd _ _ _ => cases e
    | ins _ _ => cases e
    | fz d =>
      cases d with
      | lst ds => cases e; obtain ⟨_, r⟩ := ok; cases r with | lst h r => obtain ⟨o, h⟩ := h; exact .base (.frz h)
      | tup ds => cases e; obtain ⟨_, r⟩ := ok; cases r with | tup h r => exact .base (.tup h)
      | dk ks ds => cases e; obtain ⟨_, r⟩ := ok; cases r with | dk h k r => exact .fDict h
      | _ => cases e
def isiT (a b : String) : Option Bool :=
  if b = "tuple" then some (a == "tuple") else if b = "list" then some (a == "list") else if b = "dict" then some (a == "dict") else if b = "str" then some (a == "str")
  else if b = "bool" then some (a == "bool") else if b = "int" then some (a == "int" || a == "bool") else none
theorem isi_all : ∀ a ∈ ["NoneType", "bool", "int", "str", "tuple", "list", "dict"], ∀ b ∈ ["tuple", "list", "dict", "str", "bool", "int"], kitB a b = isiT a b := by decide +kernel
theorem tyD_mem {d : D} {T : String} (e : tyD ah d = some T) : T ∈ ["NoneType", "bool", "int", "str", "tuple", "list", "dict"] := by
  unfold tyD at e
  split at e <;> first | (cases e; decide) | cases e | skip
  split at e <;> first | (cases e; decide) | cases e
theorem isiT_mem {a b : String} {r : Bool} (e : isiT a b = some r) : b ∈ ["tuple", "list", "dict", "str", "bool", "int"] := by
  unfold isiT at e
  split at e
  · rename_i h; subst h; decide
  split at e
  · rename_i h; subst h; decide
  split at e
  · rename_i h; subst h; decide
  split at e
  · rename_i h; subst h; decide
  split at e
  · rename_i h; subst h; decide
  split at e
  · rename_i h; subst h; decide
  · cases e
def oIsi (ds : List D) (ah : AH) : Res D := match ds with
  | [d, .ty n] => match tyD ah d with
    | some T => match isiT T n with
      | some b => .ok (.bl b) ah
      | none => .bad
    | none => .bad
  | _ => .bad
theorem ok_isi : CaOk G W (rIsi G.K) oIsi := by
  intro η H ah ds vs Q p r h
  unfold oIsi at h
  split at h
  · obtain ⟨v, u, rfl, rx, ry⟩ := relL2 r
    cases ry
    split at h
    · rename_i T e1
      split at h
      · rename_i b e2
        refine ⟨v, .ty _, .type T, .type _, b, rfl, .ty _, ty_rel p rx e1, kit_ty ?_, post_val p (.bl _) h⟩
        rw [isi_all _ (tyD_mem e1) _ (isiT_mem e2)]
        exact e2
      · exact h.elim
    · exact h.elim
  · exact h.elim
def iK (d : D) : FE := fun _ ah => .ok d ah
theorem j_glob {x : Str} {v : V} {u : Value} {d : D} {pos : Pos} (hg : Gl X x) (hm : X.mg x = some u) (r : RelV v u) (rd : ∀ η H, Rel (gX X) η H d v) (hd : (x == ("__debug__" : Str)) = false := by decide) : PE X (.Name x pos) (SX X W (iK d)) :=
  PE.imp (pe_glob hg hm r hd) fun S H Q ⟨env, ah, η, en, p, h⟩ => h.at p v (rd η H)
theorem j_ty {x : Str} {n : String} {pos : Pos} (hg : Gl X x) (hm : X.mg x = none) (hv : bootBuiltins x = some (.type n)) (hn : x ≠ "__name__" := by decide) (hd : (x == ("__debug__" : Str)) = false := by decide) : PE X (.Name x pos) (SX X W (iK (.ty n))) :=
  PE.imp (pe_bltn hg hm hv (v := .ty n) rfl hn hd) fun S H Q ⟨env, ah, η, en, p, h⟩ => h.at p _ (.ty n)
def iM1 (o : Str → D → AH → Res D) (fo f : FE) : FE := fun env ah => (fo env ah).bind fun x ah1 => match x with
  | .str a => (f env ah1).bind fun y ah2 => o a y ah2
  | _ => .bad
def MtOk (G : KW) (W : XW) (r : V → List V → Hp → VK → Prop) (o : Str → D → AH → Res D) : Prop :=
  ∀ (η : List Addr) (H : Hp) (ah : AH) (a : Str) (d : D) (v : V) (Q : VK), HpOk G η H ah → Rel G η H d v → Post G W η H (o a d ah) (QV G Q) → r (.str a) [v] H (QF Q)
theorem j_m1 {id : String} {name : Str} {o e : Expr} {fo f : FE} {apos pos : Pos} {r : V → List V → Hp → VK → Prop} {m : Str → D → AH → Res D} (slot : Slot "str" name id) (ty : typeOf (.builtin id) = pure (.type "method_descriptor")) (rule : MtR X id r) (k : MtOk (gX X) W r m)
    (ho : PE X o (SX X W fo)) (he : PE X e (SX X W f)) (hs : starEach [e] X.env = [(false, eval e X.env)] := by rfl) (hbase : attributeBase o name X.env (eval o X.env) = eval o X.env := by rfl) (hline : (apos.endLine == pos.line) = true := by rfl) :
    PE X (.Call (.Attribute o name apos) [e] [] pos) (SX X W (iM1 m fo f)) :=
  PE.imp (pe_fz (pe_m1 slot ty rule ho he hs hbase hline)) fun S H Q ⟨env, ah, η, en, p, h⟩ => by
    refine ⟨env, ah, η, en, p, h.bind.imp0 fun x η1 H1 ah1 m1 p1 q1 v rvv => ?_⟩
    split at q1
    · cases rvv
      exact ⟨⟨_, rfl⟩, env, ah1, η1, en.mv m1, p1, q1.bind.imp0 fun y η2 H2 ah2 m2 p2 q2 u ru => k η2 H2 ah2 _ y u Q p2 ru q2⟩
    · exact q1.elim
def mS (o : Str → Str → D) : Str → D → AH → Res D := fun a y ah => match y with
  | .str b => .ok (o a b) ah
  | _ => .bad
theorem ok_mS {o : Str → Str → D} {g : Str → Str → V} (h : ∀ (η : List Addr) (H : Hp) a b, Rel G η H (o a b) (g a b)) : MtOk G W (fun x xs H Q => ∃ a b, x = .str a ∧ xs = [.str b] ∧ Q (g a b) H) (mS o) := by
  intro η H ah a d v Q p r q
  unfold mS at q
  split at q
  · cases r; exact ⟨a, _, rfl, rfl, post_val p (h η H _ _) q⟩
  · exact q.elim
def mJoin : Str → D → AH → Res D := fun a y ah => match seqD ah y with
  | some (_, xs) => match strsD xs with
    | some ys => if (ys.map (·.length)).sum + ys.length * a.length ≤ 16777216 then .ok (.str (Txt.join a ys)) ah else .bad
    | none => .bad
  | none => .bad
theorem ok_mJoin : MtOk G W (fun x xs H Q => ∃ a p, ∃ ys : List Str, x = .str a ∧ xs = [.ref p] ∧ (SqL G.K H p (ys.map V.str) ∨ SqT G.K H p (ys.map V.str)) ∧
      (ys.map (·.length)).sum + ys.length * a.length ≤ 16777216 ∧ Q (.str (Txt.join a ys)) H) mJoin := by
  intro η H ah a d v Q p r q
  unfold mJoin at q
  split at q
  · rename_i b xs e1
    obtain ⟨c, us, rfl, r1, q1, q2⟩ := seq_rel p r e1
    split at q
    · rename_i ys e2
      obtain rfl := strs_rel r1 e2
      split at q
      · refine ⟨a, c, ys, rfl, rfl, ?_, by assumption, post_val p (.str _) q⟩
        cases b with
        | true => exact .inr (q1 rfl)
        | false => exact .inl (.inl (q2 rfl))
      · exact q.elim
    · exact q.elim
  · exact q.elim
variable {o e : Expr} {fo f : FE} {apos pos : Pos}
def iCount := iM1 (mS fun a b => .int (Txt.count a b))
theorem j_count (ho : PE X o (SX X W fo)) (he : PE X e (SX X W f)) (hs : starEach [e] X.env = [(false, eval e X.env)] := by rfl) (hbase : attributeBase o "count" X.env (eval o X.env) = eval o X.env := by rfl) (hline : (apos.endLine == pos.line) = true := by rfl) :
    PE X (.Call (.Attribute o "count" apos) [e] [] pos) (SX X W (iCount fo f)) := j_m1 PySem.F.slot_str_count PySem.F.type_str_count mt_count (ok_mS (g := fun a b => .int (Txt.count a b)) fun _ _ _ _ => .int _) ho he hs hbase hline
def iStarts := iM1 (mS fun a b => .bl (Txt.startswith a b))
theorem j_starts (ho : PE X o (SX X W fo)) (he : PE X e (SX X W f)) (hs : starEach [e] X.env = [(false, eval e X.env)] := by rfl) (hbase : attributeBase o "startswith" X.env (eval o X.env) = eval o X.env := by rfl) (hline : (apos.endLine == pos.line) = true := by rfl) :
    PE X (.Call (.Attribute o "startswith" apos) [e] [] pos) (SX X W (iStarts fo f)) := j_m1 PySem.F.slot_str_startswith PySem.F.type_str_startswith mt_startswith (ok_mS (g := fun a b => .bl (Txt.startswith a b)) fun _ _ _ _ => .bl _) ho he hs hbase hline
def iEnds := iM1 (mS fun a b => .bl (Txt.endswith a b))
theorem j_ends (ho : PE X o (SX X W fo)) (he : PE X e (SX X W f)) (hs : starEach [e] X.env = [(false, eval e X.env)] := by rfl) (hbase : attributeBase o "endswith" X.env (eval o X.env) = eval o X.env := by rfl) (hline : (apos.endLine == pos.line) = true := by rfl) :
    PE X (.Call (.Attribute o "endswith" apos) [e] [] pos) (SX X W (iEnds fo f)) := j_m1 PySem.F.slot_str_endswith PySem.F.type_str_endswith mt_endswith (ok_mS (g := fun a b => .bl (Txt.endswith a b)) fun _ _ _ _ => .bl _) ho he hs hbase hline
def iJoin := iM1 mJoin
theorem j_join (ho : PE X o (SX X W fo)) (he : PE X e (SX X W f)) (hs : starEach [e] X.env = [(false, eval e X.env)] := by rfl) (hbase : attributeBase o "join" X.env (eval o X.env) = eval o X.env := by rfl) (hline : (apos.endLine == pos.line) = true := by rfl) :
    PE X (.Call (.Attribute o "join" apos) [e] [] pos) (SX X W (iJoin fo f)) := j_m1 PySem.F.slot_str_join PySem.F.type_str_join mt_join ok_mJoin ho he hs hbase hline
def rgOk (a b : Int) : Bool := decide (-(2 ^ 62) ≤ a ∧ a < 2 ^ 62 ∧ -(2 ^ 62) ≤ b ∧ b < 2 ^ 62 ∧ (b - a).toNat ≤ 2 ^ 24)
theorem rgOk_ok {a b : Int} (h : rgOk a b = true) : RgOk a b := by
  have := of_decide_eq_true (p := -(2 ^ 62) ≤ a ∧ a < 2 ^ 62 ∧ -(2 ^ 62) ≤ b ∧ b < 2 ^ 62 ∧ (b - a).toNat ≤ 2 ^ 24) h
  exact this
def FRg := AE → AH → Res (Int × Int)
def iRg1 (f : FE) : FRg := fun env ah => (f env ah).bind fun x ah1 => match x with
  | .int n => .ok (0, n) ah1
  | _ => .bad
def iRg2 (f g : FE) : FRg := fun env ah => (f env ah).bind fun x ah1 => (g env ah1).bind fun y ah2 => match x, y with
  | .int i, .int j => .ok (i, j) ah2
  | _, _ => .bad
def RX (X : Cx) (W : XW) (f : FRg) : L2.St → Hp → (Int → Int → Hp → Prop) → Prop := fun S H Q => ∃ env ah η, EnvOk (gX X) η H env S ∧ HpOk (gX X) η H ah ∧
  Post (gX X) W η H (f env ah) fun x η' H' ah' => Q x.1 x.2 H'
def rgD (a b : Int) : List D := (List.range (b - a).toNat).map fun i => D.int (a + (i : Nat))
theorem rg_rel (a b : Int) : RelAll G η H (rgD a b) (rgV a b) := by
  have e1 : rgD a b = ((List.range (b - a).toNat).map fun (i : Nat) => a + (i : Int)).map D.int := by unfold rgD; rw [List.map_map]; rfl
  have e2 : rgV a b = ((List.range (b - a).toNat).map fun (i : Nat) => a + (i : Int)).map V.int := by unfold rgV; rw [List.map_map]; rfl
  rw [e1, e2]
  exact RelAll.ints _
section
variable {e b : Expr} {f g : FE} {p pos : Pos}
theorem rg_1 (hg : Gl X "range") (hm : X.mg "range" = none) (he : PE X e (SX X W f)) (na : starEach [e] X.env = (false, eval e X.env) :: starEach [] X.env := by rfl) : PRg X (.Call (.Name "range" p) [e] [] pos) (RX X W (iRg1 f)) := by
  intro pnz s σ H Q Iv ⟨env, ah, η, en, pk, h⟩
  refine prg_1 hg hm he na pnz s σ H Q Iv ⟨env, ah, η, en, pk, h.bind.imp0 fun x η1 H1 ah1 m1 p1 q1 v rvv => ?_⟩
  split at q1
  · cases rvv; exact ⟨_, rfl, q1.at p1⟩
  · exact q1.elim
theorem rg_2 (hg : Gl X "range") (hm : X.mg "range" = none) (he : PE X e (SX X W f)) (hb : PE X b (SX X W g)) (na : starEach [e, b] X.env = (false, eval e X.env) :: starEach [b] X.env := by rfl) (nb : starEach [b] X.env = (false, eval b X.env) :: starEach [] X.env := by rfl) (hpl : (backTo pos (starEach [b] X.env)).any (·.1) = false := by rfl) :
    PRg X (.Call (.Name "range" p) [e, b] [] pos) (RX X W (iRg2 f g)) := by
  intro pnz s σ H Q Iv ⟨env, ah, η, en, pk, h⟩
  refine prg_2 hg hm he hb na nb hpl pnz s σ H Q Iv ⟨env, ah, η, en, pk, h.bind.imp0 fun x η1 H1 ah1 m1 p1 q1 v rvv => ⟨env, ah1, η1, en.mv m1, p1, q1.bind.imp0 fun y η2 H2 ah2 m2 p2 q2 u ru => ?_⟩⟩
  split at q2
  · cases rvv; cases ru; exact ⟨_, _, rfl, rfl, q2.at p2⟩
  · exact q2.elim
/-- list(range(..)), a list that does not change -/
def iLstRg (r : FRg) : FE := fun env ah => (r env ah).bind fun x ah1 => if rgOk x.1 x.2 = true then .ok (.lst (rgD x.1 x.2)) ah1 else .bad
def iLstRgM (r : FRg) : FE := fun env ah => (r env ah).bind fun x ah1 => if rgOk x.1 x.2 = true then .ok (.ref ah1.length) (ah1 ++ [.lst (rgD x.1 x.2)]) else .bad
def iTupRg (r : FRg) : FE := fun env ah => (r env ah).bind fun x ah1 => if rgOk x.1 x.2 = true then .ok (.tup (rgD x.1 x.2)) ah1 else .bad
variable {r : FRg}
theorem j_lstRg (hc : X.calm = true) (hg : Gl X "list") (hm : X.mg "list" = none) (he : PRg X e (RX X W r)) (na : starEach [e] X.env = (false, eval e X.env) :: starEach [] X.env := by rfl) : PE X (.Call (.Name "list" p) [e] [] pos) (SX X W (iLstRg r)) :=
  PE.imp (pe_fz (pe_listRg hc hg hm he na)) fun S H Q ⟨env, ah, η, en, pk, h⟩ => ⟨env, ah, η, en, pk, h.bind.imp0 fun x η1 H1 ah1 m1 p1 q1 => by
    split at q1
    · exact ⟨rgOk_ok (by assumption), fun q hq => post_fz p1 (rg_rel _ _) q1 hq⟩
    · exact q1.elim⟩
theorem j_lstRgM (hc : X.calm = true) (hg : Gl X "list") (hm : X.mg "list" = none) (he : PRg X e (RX X W r)) (na : starEach [e] X.env = (false, eval e X.env) :: starEach [] X.env := by rfl) : PE X (.Call (.Name "list" p) [e] [] pos) (SX X W (iLstRgM r)) :=
  PE.imp (pe_fz (pe_listRg hc hg hm he na)) fun S H Q ⟨env, ah, η, en, pk, h⟩ => ⟨env, ah, η, en, pk, h.bind.imp0 fun x η1 H1 ah1 m1 p1 q1 => by
    split at q1
    · exact ⟨rgOk_ok (by assumption), fun q hq => post_mut p1 (rg_rel _ _) q1 hq⟩
    · exact q1.elim⟩
theorem j_tupRg (hc : X.calm = true) (hg : Gl X "tuple") (hm : X.mg "tuple" = none) (he : PRg X e (RX X W r)) (na : starEach [e] X.env = (false, eval e X.env) :: starEach [] X.env := by rfl) : PE X (.Call (.Name "tuple" p) [e] [] pos) (SX X W (iTupRg r)) :=
  PE.imp (pe_fz (pe_tupRg hc hg hm he na)) fun S H Q ⟨env, ah, η, en, pk, h⟩ => ⟨env, ah, η, en, pk, h.bind.imp0 fun x η1 H1 ah1 m1 p1 q1 => by
    split at q1
    · exact ⟨rgOk_ok (by assumption), fun q hq => post_tup p1 (rg_rel _ _) q1 hq⟩
    · exact q1.elim⟩
end
end
end DL
namespace DL
open PySem PySem.Spec PyProof.Rows L2
section
variable {prog : Program} {w : World} {A : Around} {E : Value → Shared → Prop} {s : Shared}
theorem down_adj (n : Nat) : Builtin.Slice.sliceAdjust none none (-1) (n : Int) = ((n : Int) - 1, -1) := by
  unfold Builtin.Slice.sliceAdjust
  simp
theorem down_num (n : Nat) : Builtin.Slice.slicePlaces ((n : Int) - 1) (-1) (-1) = n := by
  unfold Builtin.Slice.slicePlaces
  have h1 : ¬ ((-1 : Int) > 0) := by omega
  simp only [h1, if_false]
  split
  · rw [show (- -1 : Int) = 1 by decide, Int.ediv_one]; omega
  · omega
theorem pick_same {α β : Type} {f g : α → Option β} : ∀ {l : List α}, (∀ a ∈ l, f a = g a) → l.filterMap f = l.filterMap g
  | [], _ => rfl
  | a :: l, h => by
    rw [List.filterMap_cons, List.filterMap_cons, h a List.mem_cons_self, pick_same fun b hb => h b (List.mem_cons_of_mem _ hb)]
theorem down_pick (xs : Array Value) : ((List.range xs.size).filterMap fun (m : Nat) => xs[(((xs.size : Int) - 1) + (m : Int) * (-1)).toNat]?).toArray = xs.toList.reverse.toArray := by
  congr 1
  have e : (List.range xs.size).filterMap (fun (m : Nat) => xs[(((xs.size : Int) - 1) + (m : Int) * (-1)).toNat]?) = ((List.range xs.size).map fun k => xs.size - 1 - k).filterMap (xs[·]?) := by
    rw [List.filterMap_map]
    refine pick_same fun m hm => ?_
    have := List.mem_range.mp hm
    show _ = xs[xs.size - 1 - m]?
    rw [show (((xs.size : Int) - 1) + (m : Int) * (-1)).toNat = xs.size - 1 - m by omega]
  rw [e, PySem.W.krv_range, List.filterMap_reverse, PySem.W.krv_all]
theorem get_down {t sl : Addr} {items : Array Value} {vs : Value} {Q : Value → Shared → Prop} (ht : IsTup s.heap t items) (hs : s.heap.IsSliceOf sl .none .none vs) (ps : IsPart vs (some (-1)))
    (h : Q (.ref s.heap.objs.size) { s with heap := s.heap.push { cls := .type "tuple", data := .seq items.toList.reverse.toArray } }) (hzz : items.size ≤ sizeLine) : wpAny (model prog w) A (getItem (.ref t) (.ref sl)) Q E s := by
  have small : sizeOk (.seq items.toList.reverse.toArray) := by
    show items.toList.reverse.toArray.size ≤ sizeLine
    rw [List.size_toArray, List.length_reverse, Array.length_toList]
    exact hzz
  obtain ⟨os, hos, hcs, hds⟩ := id hs
  have ty : s.TypeIs (.ref sl) "slice" := ⟨os, hos, hcs⟩
  unfold getItem
  try with_reducible refine wpAny_holding ?_
  first | refine wpAny_bind (wpAny_pure ?_) | skip
  refine wpAny_bind (wpAny_sequenceKey ht.typeIs (by decide) ?_)
  refine wpAny_bind (wpAny_callSpecial?_slot (name := Str.ofString "__getitem__") ht.typeIs PyProof.Rows.slot_tuple_getitem (wpAny_call_entry PyProof.Rows.slot_tuple_getitem ht.typeIs entry_tuple_getitem ?_ (args_tuple_getitem _ _)))
  show wpAny _ _ (Builtin.Tuple.tupleItemsOf (.ref t) >>= _) _ _ s
  refine wpAny_bind (tupleItemsOf_ ht ?_)
  refine wpAny_bind (wpAny_typeOf ty ?_)
  rw [if_pos (by decide)]
  have cut : ∀ (A : Around) (Q' : Int × Int × Nat → Shared → Prop), Q' ((items.size : Int) - 1, -1, items.size) s → wpAny (model prog w) A (Builtin.Slice.sliceApplied (.ref sl) (pure (items.size : Int))) Q' E s := by
    intro A Q' q
    unfold Builtin.Slice.sliceApplied Builtin.Slice.sliceFields
    refine wpAny_bind (wpAny_bind (wpAny_field hos hds (x := .none) rfl (wpAny_bind (wpAny_field hos hds (x := .none) rfl (wpAny_bind (wpAny_field hos hds (x := vs) rfl (wpAny_pure ?_)))))))
    refine wpAny_bind (HT.slicePart_ ps ?_)
    show wpAny _ _ (if ((-1 : Int) == 0) = true then _ else _) _ _ s
    rw [if_neg (by decide)]
    refine wpAny_bind (HT.slicePart_ .none (wpAny_bind (HT.slicePart_ .none (wpAny_bind (wpAny_pure ?_)))))
    show wpAny _ _ (match Builtin.Slice.sliceAdjust none none (-1) (items.size : Int) with | (lo, hi) => pure (lo, (-1 : Int), Builtin.Slice.slicePlaces lo hi (-1))) _ _ s
    rw [down_adj]
    show wpAny _ _ (pure ((items.size : Int) - 1, (-1 : Int), Builtin.Slice.slicePlaces ((items.size : Int) - 1) (-1) (-1))) _ _ s
    rw [down_num]
    exact wpAny_pure q
  refine wpAny_bind (cut _ _ ?_)
  show wpAny _ _ (if (((items.size : Int) - 1) == 0 && (-1 : Int) == 1 && items.size == items.size) = true then _ else _) _ _ s
  rw [if_neg (by rw [show ((-1 : Int) == 1) = false by decide, Bool.and_false, Bool.false_and]; exact Bool.false_ne_true), down_pick]
  first
    | exact wpAny_bind (m := Builtin.Tuple.tupleExact _) (wpAny_newObj_type (wpAny_pure ⟨_, rfl, wpAny_pure h⟩) small)
    | exact wpAny_bind (m := Builtin.Tuple.tupleExact _) (wpAny_newObj_type (wpAny_bind (wpAny_pure (wpAny_pure ⟨_, rfl, wpAny_pure h⟩))) small)
    | exact wpAny_bind (wpAny_bind (m := Builtin.Tuple.tupleExact _) (wpAny_newObj_type (wpAny_pure (wpAny_pure ⟨_, rfl, wpAny_pure h⟩)) small))
    | exact wpAny_bind (wpAny_bind (m := Builtin.Tuple.tupleExact _) (wpAny_newObj_type (wpAny_pure ⟨_, rfl, wpAny_pure h⟩) small))
end
def tDown (K : PySem.W.Frag) (te : TE) : TE := fun σ H Q => te σ H fun x H1 => ∃ a xs, x = .ref a ∧ ((SqL K H1 a xs ∧ ∀ p, H1 p = none → Q (.ref p) (upd H1 p (.lst xs.reverse))) ∨ (SqT K H1 a xs ∧ ∀ p, H1 p = none → Q (.ref p) (upd H1 p (.tup xs.reverse))))
theorem pe_down {X : Cx} {e : Expr} {te : TE} {k : Nat} {p1 p2 p3 pos : Pos} (he : PE X e te) : PE X (.Subscript e (.Slice none none (some (.UnaryOp .USub (.Constant (.int 1) k p1) p2)) p3) pos) (tDown X.K te) := by
  refine ⟨fun pnz s σ H Q Iv h => Subscript_ (thn (he.run pnz s σ H _ Iv h) fun v s1 ⟨x, H1, I1, r1, a, xs, ex, q1⟩ => ?_)⟩
  subst ex
  cases r1
  have hst : PO X (some (.UnaryOp .USub (.Constant (.int 1) k p1) p2)) (tPart (tUn (rU fun i => .int (-i)) (tC (.int 1)))) := po_some (pe_un un_neg pe_int)
  refine wpAny_Slice (thn (po_none.run pnz s1 σ H1 (fun o H2 => o = none ∧ H2 = H1) I1 ⟨rfl, rfl⟩) fun vl s2 ⟨l, H2, I2, pl, el, e2⟩ => ?_)
  subst el e2
  refine thn (po_none.run pnz s2 σ H2 (fun o H3 => o = none ∧ H3 = H2) I2 ⟨rfl, rfl⟩) fun vu s3 ⟨u, H3, I3, pu, eu, e3⟩ => ?_
  subst eu e3
  refine thn (hst.run pnz s3 σ H3 (fun o H4 => o = some (-1) ∧ H4 = H3) I3 ⟨1, rfl, -1, rfl, rfl, rfl⟩) fun vs s4 ⟨o, H4, I4, ps, eo, e4⟩ => ?_
  subst eo e4
  have I5 : Inv X pnz σ H4 { s4 with heap := s4.heap.push { cls := .type "slice", data := .fields #[vl, vu, vs] } } := I4.kept (t' := s4.toks) fun b ob q => Heap.get?_push_of_some _ q
  show wpAny (model X.prog X.w) X.A (subscriptTail e (.Slice none none (some (.UnaryOp .USub (.Constant (.int 1) k p1) p2)) p3) (.ref a) (.ref s4.heap.objs.size)) (EP X pnz σ Q) X.xe { s4 with heap := s4.heap.push { cls := .type "slice", data := .fields #[vl, vu, vs] } }
  rcases q1 with ⟨hx, q⟩ | ⟨hx, q⟩
  · obtain ⟨its, r, ht, hzz⟩ := I5.list hx
    have hlen := r.length
    refine tail_any (ops := [.ref a, .ref s4.heap.objs.size]) ht.isList.typeIs (PySem.slot_list_getitem.lookup) ?_ (by with_unfolding_all rfl)
    refine wpAny_getItem_list_slice ht.isList (Heap.IsSliceOf.new _ vl vu vs) pl pu ps (by decide) ?_ (by rw [List.size_toArray]; omega)
    rw [PySem.W.krv_pick]
    refine ⟨.ref _, _, I5.laid (t' := s4.toks) (o := .lst xs.reverse) (fun b ob q => Heap.get?_push_of_some _ q) (Nat.le_refl _) ?_, rfl, q _ (I5.hok.fresh (Nat.le_refl _))⟩
    exact ⟨by rw [List.length_reverse]; exact hzz, _, 0, r.reverse, Heap.get?_push_size _ rfl⟩
  · obtain ⟨its, r, ht, hzz⟩ := I5.tuple hx
    have hlen := r.length
    cases pl
    cases pu
    refine tail_any (ops := [.ref a, .ref s4.heap.objs.size]) ht.typeIs (PyProof.Rows.slot_tuple_getitem.lookup) ?_ (by with_unfolding_all rfl)
    refine get_down ht (Heap.IsSliceOf.new _ .none .none vs) ps ?_ (by rw [List.size_toArray]; omega)
    refine ⟨.ref _, _, I5.laid (t' := s4.toks) (o := .tup xs.reverse) (fun b ob q => Heap.get?_push_of_some _ q) (Nat.le_refl _) ?_, rfl, q _ (I5.hok.fresh (Nat.le_refl _))⟩
    exact ⟨by rw [List.length_reverse]; exact hzz, _, r.reverse, ⟨_, Heap.get?_push_size _ rfl, rfl, 0, rfl⟩⟩
def oDown (d : D) (ah : AH) : Res D := match seqD ah d with
  | some (true, xs) => .ok (.tup xs.reverse) ah
  | some (false, xs) => .ok (.lst xs.reverse) ah
  | none => .bad
section
variable {X : Cx} {W : XW} {e : Expr} {f : FE}
theorem j_down {k : Nat} {p1 p2 p3 pos : Pos} (he : PE X e (SX X W f)) : PE X (.Subscript e (.Slice none none (some (.UnaryOp .USub (.Constant (.int 1) k p1) p2)) p3) pos) (SX X W (iUn oDown f)) :=
  PE.imp (pe_fz (pe_down he)) fun S H Q ⟨env, ah, η, en, p, h⟩ => ⟨env, ah, η, en, p, h.bind.imp0 fun d η1 H1 ah1 m1 p1 q1 v rvv => by
    unfold oDown at q1
    split at q1
    · rename_i xs e1
      obtain ⟨a, us, rfl, r1, q2, q3⟩ := seq_rel p1 rvv e1
      exact ⟨a, us, rfl, .inr ⟨q2 rfl, fun l hl => post_tup p1 r1.reverse q1 hl⟩⟩
    · rename_i xs e1
      obtain ⟨a, us, rfl, r1, q2, q3⟩ := seq_rel p1 rvv e1
      exact ⟨a, us, rfl, .inl ⟨.inl (q3 rfl), fun l hl => post_fz p1 r1.reverse q1 hl⟩⟩
    · exact q1.elim⟩
def iChain (o o' : D → D → AH → Res D) (fa fb fc : FE) : FE := fun env ah => (fa env ah).bind fun x ah1 => (fb env ah1).bind fun y ah2 => (o x y ah2).bind fun z ah3 => match z with
  | .bl true => (fc env ah3).bind fun u ah4 => o' y u ah4
  | .bl false => .ok (.bl false) ah3
  | _ => .bad
theorem opr_fz {f : Value → Value → Sem Value} {r : R2} (h : OpR X f r) : OpR X f fun x y H Q => r x y H (QF Q) := fun pnz s σ H x y v u Q Iv rx ry q =>
  thn (h pnz s σ H x y v u _ Iv rx ry q) fun w s1 ⟨z, H1, I1, r1, q1⟩ => by
    rcases q1 with q1 | ⟨a, o, rfl, ha, hm, q1⟩
    · exact ⟨z, H1, I1, r1, q1⟩
    · obtain ⟨od, I2⟩ := I1.lock ha hm
      exact ⟨.ref a, _, I2, r1, q1 od⟩
variable {a b c : Expr} {fa fb fc : FE} {pos : Pos} {op op' : CmpOp} {r r' : R2} {o o' : D → D → AH → Res D}
theorem chain_ok {G : KW} (k : OpOk G W r o) (k' : OpOk G W r' o') {S : L2.St} {H : Hp} {Q : VK} (h : SJ G W (iChain o o' fa fb fc) S H Q) :
    tChain (fun x y H Q => r x y H (QF Q)) (fun x y H Q => r' x y H (QF Q)) (SJ G W fa) (SJ G W fb) (SJ G W fc) S H Q := by
  obtain ⟨env, ah, η, en, p, h⟩ := h
  refine ⟨env, ah, η, en, p, h.bind.imp0 fun x η1 H1 ah1 m1 p1 q1 v rvv => ⟨env, ah1, η1, en.mv m1, p1, q1.bind.imp0 fun y η2 H2 ah2 m2 p2 q2 u ru => ?_⟩⟩
  refine k η2 H2 ah2 x y v u _ p2 (rvv.mv m2) ru (q2.bind.imp0 fun z η3 H3 ah3 m3 p3 q3 w rw' => ?_)
  split at q3
  · cases rw'
    refine ⟨true, rfl, ?_⟩
    rw [if_pos rfl]
    exact ⟨env, ah3, η3, ((en.mv m1).mv m2).mv m3, p3, q3.bind.imp0 fun d η4 H4 ah4 m4 p4 q4 t rt => k' η4 H4 ah4 y d u t Q p4 ((ru.mv m3).mv m4) rt q4⟩
  · cases rw'
    refine ⟨false, rfl, ?_⟩
    rw [if_neg Bool.false_ne_true]
    exact q3.at p3 _ (.bl false)
  · exact q3.elim
theorem j_chain (ho : OpR X (compareOp op) r) (k : OpOk (gX X) W r o) (ho' : OpR X (compareOp op') r') (k' : OpOk (gX X) W r' o') (ha : PE X a (SX X W fa)) (hb : PE X b (SX X W fb)) (hc : PE X c (SX X W fc))
    (hm : lastMarks [op, op'] [b, c] = false := by with_unfolding_all rfl) : PE X (.Compare a [op, op'] [b, c] pos) (SX X W (iChain o o' fa fb fc)) :=
  PE.imp (pe_chain (opr_fz ho) (opr_fz ho') ha hb hc hm) fun S H Q q => chain_ok k k' q
theorem t_chain (ho : OpR X (compareOp op) r) (k : OpOk (gX X) W r o) (ho' : OpR X (compareOp op') r') (k' : OpOk (gX X) W r' o') (ha : PE X a (SX X W fa)) (hb : PE X b (SX X W fb)) (hc : PE X c (SX X W fc))
    (hm : lastMarks [op, op'] [b, c] = false := by with_unfolding_all rfl) : PT X (.Compare a [op, op'] [b, c] pos) (TX X W (iTr (iChain o o' fa fb fc))) :=
  PT.imp (pt_chain (opr_fz ho) (opr_fz ho') ha hb hc hm) fun S H Q q => chain_ok k k' (tr_tB q)
end
end DL
namespace DL
open PySem PySem.Spec PyProof.Rows L2
/-- the pairs of a written dict -/
def iPairs : List (FE × FE) → AE → AH → Res (List (Key × D))
  | [], _, ah => .ok [] ah
  | (fk, fv) :: r, env, ah => (fk env ah).bind fun k ah1 => (fv env ah1).bind fun v ah2 => (iPairs r env ah2).bind fun kvs ah3 => match keyD k with
    | some q => .ok ((q, v) :: kvs) ah3
    | none => .bad
def foldD (kvs : List (Key × D)) (a : List Key × List D) : List Key × List D := kvs.foldl (fun a kv => ptD a.1 a.2 kv.1 kv.2) a
def iDict (ps : List (FE × FE)) : FE := fun env ah => (iPairs ps env ah).bind fun kvs ah1 => if kvs.length ≤ 15 then .ok (.dk (foldD kvs ([], [])).1 (foldD kvs ([], [])).2) ah1 else .bad
def iDictM (ps : List (FE × FE)) : FE := fun env ah => (iPairs ps env ah).bind fun kvs ah1 => if kvs.length ≤ 15 then .ok (.ref ah1.length) (ah1 ++ [.dk (foldD kvs ([], [])).1 (foldD kvs ([], [])).2]) else .bad
section
variable {X : Cx} {G : KW} {W : XW}
def KRel (G : KW) (η : List Addr) (H : Hp) (kvs : List (Key × D)) (ws : List (Key × V)) : Prop := ws.map (·.1) = kvs.map (·.1) ∧ RelAll G η H (kvs.map (·.2)) (ws.map (·.2))
theorem KRel.mv {η η' : List Addr} {H H' : Hp} {kvs : List (Key × D)} {ws : List (Key × V)} (h : KRel G η H kvs ws) (m : Mv η H η' H') : KRel G η' H' kvs ws := ⟨h.1, h.2.mv m⟩
theorem fold_rel {η : List Addr} {H : Hp} : ∀ {kvs : List (Key × D)} {ws : List (Key × V)} {a : List Key × List D} {b : List (Key × V)}, KRel G η H kvs ws → b.map (·.1) = a.1 → RelAll G η H a.2 (b.map (·.2)) →
    (mergeK b ws).map (·.1) = (foldD kvs a).1 ∧ RelAll G η H (foldD kvs a).2 ((mergeK b ws).map (·.2))
  | [], [], a, b, _, h1, h2 => ⟨h1, h2⟩
  | [], _ :: _, _, _, h, _, _ => nomatch h.1
  | _ :: _, [], _, _, h, _, _ => nomatch h.1
  | (k, d) :: kvs, (q, v) :: ws, a, b, h, h1, h2 => by
    obtain ⟨e, r⟩ := h
    simp only [List.map_cons, List.cons.injEq] at e
    obtain ⟨rfl, e⟩ := e
    cases r with
    | cons r0 r =>
      obtain ⟨z1, z2⟩ := pt_rel (q := q) r0 h1 h2
      exact fold_rel (kvs := kvs) (ws := ws) ⟨e, r⟩ z1 z2
theorem prs_ok {S : L2.St} {env : AE} : ∀ (ps : List (FE × FE)) {ah : AH} {η : List Addr} {H : Hp} {R : List (V × V) → Hp → Prop}, EnvOk G η H env S → HpOk G η H ah →
    Post G W η H (iPairs ps env ah) (fun kvs η' H' ah' => ∀ ws, KRel G η' H' kvs ws → R (ws.map fun kv => (kV kv.1, kv.2)) H') → tPairs (ps.map fun p => (SJ G W p.1, SJ G W p.2)) S H R
  | [], ah, η, H, R, en, pk, h => h.at pk [] ⟨rfl, .nil⟩
  | (fk, fv) :: r, ah, η, H, R, en, pk, h => by
    refine ⟨env, ah, η, en, pk, (show Post G W η H ((fk env ah).bind _) _ from h).bind.imp0 fun k η1 H1 ah1 m1 p1 q1 v rvv => ⟨env, ah1, η1, en.mv m1, p1, q1.bind.imp0 fun d η2 H2 ah2 m2 p2 q2 u ru => ?_⟩⟩
    refine prs_ok r ((en.mv m1).mv m2) p2 (q2.bind.imp0 fun kvs η3 H3 ah3 m3 p3 q3 ws rel => ?_)
    split at q3
    · rename_i q e
      have z := q3.at p3 ((q, u) :: ws) ⟨by simp [rel.1], .cons (ru.mv m3) rel.2⟩
      rw [List.map_cons, ← keyD_rel rvv e] at z
      exact z
    · exact q3.elim
theorem Mv.off {a : Addr} {o u : HO} {η η1 : List Addr} {H H1 : Hp} (m : Mv η (L2.upd H a o) η1 H1) (h0 : H a = none) (n : a ∉ η) (h : H1 a = some o) : Mv η H η1 (L2.upd H1 a u) := ((Mv.same (same_new h0)).trans m).side h0 h
theorem disp_ok {η : List Addr} {H : Hp} {S : L2.St} {env : AE} {ah : AH} {ps : List (FE × FE)} {β : Type} {k : List (Key × D) → AH → Res β} {Q : β → List Addr → Hp → AH → Prop} {R : VK} (en : EnvOk G η H env S) (pk : HpOk G η H ah) (h : Post G W η H ((iPairs ps env ah).bind k) Q)
    (fin : ∀ (p : Addr) (η' : List Addr) (H' : Hp) (ah' : AH) (kvs : List (Key × D)) (ws : List (Key × V)), H p = none → p ∉ η' → Mv η (upd H p (.dK [])) η' H' → H' p = some (.dK []) → HpOk G η' H' ah' → KRel G η' H' kvs ws → Post G W η H (k kvs ah') Q → ws.length ≤ 15 ∧ R (.ref p) (upd H' p (.dK (mergeK [] ws)))) :
    tDisp (ps.map fun p => (SJ G W p.1, SJ G W p.2)) S H R := by
  intro p hp
  have s0 := same_new (o := .dK []) hp
  have np := pk.fresh hp
  refine prs_ok ps (en.mv (.same s0)) (pk.same s0) (Post.imp0 (Post.bindB h (.same s0)) fun kvs η' H' ah' m p' q ws rel => ?_)
  have e : H' p = some (.dK []) := m.frm _ _ upd_same np
  have n' : p ∉ η' := fun z => (m.new _ z).elim np fun w => by rw [upd_same] at w; cases w
  obtain ⟨z1, z2⟩ := fin p η' H' ah' kvs ws hp n' m e p' rel q
  exact ⟨e, ws, rfl, z1, z2⟩
variable {pos : Pos} {keys : List (Option Expr)} {values : List Expr} {ps : List (FE × FE)}
theorem d_nil : PPs X pos [] [] (([] : List (FE × FE)).map fun p => (SX X W p.1, SX X W p.2)) := pps_nil
theorem d_cons {k v : Expr} {ks : List (Option Expr)} {vs : List Expr} {fk fv : FE} (hk : PE X k (SX X W fk)) (hv : PE X v (SX X W fv)) (hr : PPs X pos ks vs (ps.map fun p => (SX X W p.1, SX X W p.2))) :
    PPs X pos (some k :: ks) (v :: vs) (((fk, fv) :: ps).map fun p => (SX X W p.1, SX X W p.2)) := pps_cons hk hv hr
theorem Mv.more {η η' : List Addr} {H H' : Hp} {p : Addr} (m : Mv η H η' H') (h : H p = none) : Mv η H (η' ++ [p]) H' where
  pre := m.pre.trans (List.prefix_append _ _)
  ext := m.ext
  new := fun a z => (List.mem_append.mp z).elim (m.new a) fun y => .inr (by rw [List.mem_singleton.mp y]; exact h)
  frm := m.frm
  live := m.live
theorem fits_ws {η : List Addr} {H : Hp} {kvs : List (Key × D)} {ws : List (Key × V)} (rel : KRel G η H kvs ws) : ws.length = kvs.length := by
  have := congrArg List.length rel.1
  simpa using this
theorem j_dict (h : PPs X pos keys values (ps.map fun p => (SX X W p.1, SX X W p.2))) (hall : keys.all (·.isSome) = true := by rfl) (hl : keys.length = values.length := by rfl) (h0 : keys ≠ [] := by exact fun z => nomatch z) (h15 : keys.length ≤ 15 := by decide) :
    PE X (.Dict keys values pos) (SX X W (iDict ps)) := PE.imp (pe_fz (pe_disp h hall hl h0 h15)) fun S H Q ⟨env, ah, η, en, pk, h⟩ => disp_ok en pk h fun p η' H' ah' kvs ws hp n' m e p' rel q => by
  split at q
  · refine ⟨by rw [fits_ws rel]; assumption, .inr ⟨p, _, rfl, upd_same, trivial, fun od => ?_⟩⟩
    rw [upd_upd]
    have nt : ∀ xs, (HO.dK []) ≠ .tup xs := fun _ z => nomatch z
    have nf : ∀ ob v, (HO.dK []) ≠ .frz ob v := fun _ _ z => nomatch z
    have E : Ext H' (upd H' p (.frz od (.dK (mergeK [] ws)))) := Ext.upd e nt nf
    obtain ⟨z1, z2⟩ := fold_rel (b := []) (a := ([], [])) rel rfl .nil
    exact q η' _ (Mv.off m hp (pk.fresh hp) e) (p'.side n' e nt nf) _ (.dk (o := od) upd_same z1 (z2.ext (List.prefix_refl _) E))
  · exact q.elim
theorem j_dictM (h : PPs X pos keys values (ps.map fun p => (SX X W p.1, SX X W p.2))) (hall : keys.all (·.isSome) = true := by rfl) (hl : keys.length = values.length := by rfl) (h0 : keys ≠ [] := by exact fun z => nomatch z) (h15 : keys.length ≤ 15 := by decide) :
    PE X (.Dict keys values pos) (SX X W (iDictM ps)) := PE.imp (pe_disp h hall hl h0 h15) fun S H Q ⟨env, ah, η, en, pk, h⟩ => disp_ok en pk h fun p η' H' ah' kvs ws hp n' m e p' rel q => by
  split at q
  · refine ⟨by rw [fits_ws rel]; assumption, ?_⟩
    have nt : ∀ xs, (HO.dK []) ≠ .tup xs := fun _ z => nomatch z
    have nf : ∀ ob v, (HO.dK []) ≠ .frz ob v := fun _ _ z => nomatch z
    have E : Ext H' (upd H' p (.dK (mergeK [] ws))) := Ext.upd e nt nf
    obtain ⟨z1, z2⟩ := fold_rel (b := []) (a := ([], [])) rel rfl .nil
    have r2 := z2.ext (List.prefix_append η' [p]) E
    refine q (η' ++ [p]) _ ((Mv.off m hp (pk.fresh hp) e).more hp) ((p'.side n' e nt nf).add n' ⟨_, upd_same, z1, r2⟩) _ (.ref ?_)
    rw [← p'.len, List.getElem?_append_right (Nat.le_refl _)]
    simp
  · exact q.elim
end
end DL
namespace DL
open PySem PySem.Spec PyProof.Rows L2
theorem room65 {k : Nat} {A : Around} (r : Room k A) : A.units + 65 < cLine := by have := r.un; omega
theorem room1 {k : Nat} {A : Around} (r : Room k A) : A.units + 1 < cLine := by have := r.un; omega
/-- a def of the module keeps its function -/
def Ok1 (P : Program) (w : World) (K : PySem.W.Frag) (mg : Str → Option Value) (base : Heap) (x : Str) (k : Nat) (ps : List Str) (F : List D → AH → Res D) : Prop :=
  ∃ f fd, mg x = some (.ref f) ∧ PySem.W.keepIn K (.ref f) = true ∧ Binds K fd ps [] ∧ FnG P w K mg base CX0 k f fd ps (spN ⟨K, w⟩ ps.length F)
section
variable {X : Cx} {W : XW}
theorem Ok1.jd {x : Str} {k : Nat} {ps : List Str} {F : List D → AH → Res D} {p pos : Pos} {e : Expr} {es : List Expr} {fs : List FE} (h : Ok1 X.prog X.w X.K X.mg X.base x k ps F) (hr : Room k X.A) (hn : NoRepr X.A) (hg : Gl X x) (hl : fs.length = ps.length) (ha : PA X (e :: es) (AX' X W fs))
    (hdb : (x == ("__debug__" : Str)) = false := by decide) (he : starEach (e :: es) X.env = (false, eval e X.env) :: starEach es X.env := by rfl) (hpl : (backTo pos (starEach es X.env)).any (·.1) = false := by rfl) : PE X (.Call (.Name x p) (e :: es) [] pos) (SX X W (iDef F fs)) := by
  obtain ⟨f, fd, hm, hk, hb, hf⟩ := h
  exact j_def hf hr hn hg hm hk hb hl ha hdb he hpl
/-- a constant of the module -/
def KonOk (w : World) (K : PySem.W.Frag) (mg : Str → Option Value) (x : Str) (d : D) : Prop := ∃ u v, mg x = some u ∧ RelV v u ∧ ∀ η H, Rel ⟨K, w⟩ η H d v
theorem KonOk.je {w : World} {K : PySem.W.Frag} {mg : Str → Option Value} {x : Str} {d : D} {pos : Pos} (h : KonOk w K mg x d) (hg : Gl X x) (e1 : X.w = w) (e2 : X.K = K) (e3 : X.mg = mg) (hd : (x == ("__debug__" : Str)) = false := by decide) : PE X (.Name x pos) (SX X W (iK d)) := by
  subst e1 e2 e3
  obtain ⟨u, v, hm, r, k⟩ := h
  exact j_glob hg hm r k hd
/-- a text or what is walked in order -/
def iSeqS (f : FE) : FI := fun env ah => (f env ah).bind fun d ah1 => match d with
  | .str x => .ok (x.cps.toList.map fun c => .str ⟨#[c]⟩) ah1
  | .tup ds => .ok ds ah1
  | .ct ds => .ok ds ah1
  | .lst ds => .ok ds ah1
  | _ => .bad
theorem i_seqS {tg e : Expr} {f : FE} (h : PE X e (SX X W f)) : PI X tg e (IX X W (iSeqS f)) := ⟨fun pnz s σ H R Iv ⟨env, ah, η, en, pk, q⟩ => by
  cases e1 : f env ah with
  | ok d ah1 =>
    have k : iSeqS f env ah = iStrI f env ah ∨ iSeqS f env ah = iSeq1 f env ah := by
      unfold iSeqS iStrI iSeq1
      rw [e1]
      cases d <;> first | exact .inl rfl | exact .inr rfl
    rcases k with k | k
    · exact (i_str h).run pnz s σ H R Iv ⟨env, ah, η, en, pk, by rw [← k]; exact q⟩
    · exact (i_seq h).run pnz s σ H R Iv ⟨env, ah, η, en, pk, by rw [← k]; exact q⟩
  | exc x e ah1 =>
    have k : iSeqS f env ah = iSeq1 f env ah := by unfold iSeqS iSeq1; rw [e1]; rfl
    exact (i_seq h).run pnz s σ H R Iv ⟨env, ah, η, en, pk, by rw [← k]; exact q⟩
  | bad =>
    have k : iSeqS f env ah = iSeq1 f env ah := by unfold iSeqS iSeq1; rw [e1]; rfl
    exact (i_seq h).run pnz s σ H R Iv ⟨env, ah, η, en, pk, by rw [← k]; exact q⟩⟩
end
/-- a comprehension's block, by a check of the names alone -/
def blkB (N : List Str) (sc scope : Scope) (own : List (Str × Nat)) : Bool :=
  decide (scope.kind = .function) && (scope.names.all fun y => decide (scope.names.lookup y.1 = some y.2)) && (own.all fun p => decide (N[p.2]? = some p.1)) &&
  (scope.names.all fun y => decide (y.2 ≠ .free) || decide (sc.names.lookup y.1 = some .cell) || decide (sc.names.lookup y.1 = some .free)) &&
  (scope.names.all fun y => (decide (y.2 ≠ .local) && decide (y.2 ≠ .cell)) || (own.map (·.1)).contains y.1 || !N.contains y.1)
theorem blk_of {N : List Str} {sc scope : Scope} {own : List (Str × Nat)} (h : blkB N sc scope own = true) : BlkOk N sc scope own := by
  unfold blkB at h
  simp only [Bool.and_eq_true, List.all_eq_true, Bool.or_eq_true, decide_eq_true_eq, Bool.not_eq_true', List.contains_eq_mem, decide_eq_false_iff_not] at h
  obtain ⟨⟨⟨⟨h1, h2⟩, h3⟩, h4⟩, h5⟩ := h
  refine ⟨h1, fun y hy => h2 y hy, fun p hp => h3 p hp, fun y hy e => ?_, fun y hy e => ?_⟩
  · rcases h4 y hy with (z | z) | z
    · exact absurd e z
    · exact .inl z
    · exact .inr z
  · rcases h5 y hy with (z | z) | z
    · exact e.elim (fun q => absurd q z.1) fun q => absurd q z.2
    · exact .inl z
    · exact .inr z
end DL
namespace DL
open PySem PySem.Spec PyProof.Rows L2
def Inj {α : Type} (e : α → D) : Prop := ∀ x y, e x = e y → x = y
def dT {α : Type} (e : α → D) (xs : List α) : D := .tup (xs.map e)
def dL {α : Type} (e : α → D) (xs : List α) : D := .lst (xs.map e)
theorem map_inj' {α : Type} {e : α → D} (h : Inj e) : ∀ {xs ys : List α}, xs.map e = ys.map e → xs = ys
  | [], [], _ => rfl
  | [], _ :: _, q => nomatch q
  | _ :: _, [], q => nomatch q
  | x :: xs, y :: ys, q => by
    simp only [List.map_cons, List.cons.injEq] at q
    rw [h _ _ q.1, map_inj' h q.2]
theorem inj_dT {α : Type} {e : α → D} (h : Inj e) : Inj (dT e) := fun x y q => map_inj' h (D.tup.inj q)
theorem inj_dL {α : Type} {e : α → D} (h : Inj e) : Inj (dL e) := fun x y q => map_inj' h (D.lst.inj q)
def dI (n : Nat) : D := .int (n : Int)
theorem inj_dI : Inj dI := fun x y q => by have := D.int.inj q; omega
theorem inj_int : Inj D.int := fun x y q => D.int.inj q
theorem inj_bl : Inj D.bl := fun x y q => D.bl.inj q
theorem inj_str : Inj D.str := fun x y q => D.str.inj q
open Classical in
noncomputable def specF {α : Type} (pre : α → Prop) (enc : α → List D) (out : α → D) (args : List D) (ah : AH) : Res D := if h : ∃ x, pre x ∧ enc x = args then .ok (out h.choose) ah else .bad
theorem specF_eq {α : Type} {pre : α → Prop} {enc : α → List D} {out : α → D} (inj : ∀ x y, enc x = enc y → out x = out y) {x : α} (h : pre x) {ah : AH} : specF pre enc out (enc x) ah = .ok (out x) ah := by
  unfold specF
  have e : ∃ y, pre y ∧ enc y = enc x := ⟨x, h, rfl⟩
  rw [dif_pos e, inj _ _ e.choose_spec.2]
section
variable {P : Program} {w : World} {K : PySem.W.Frag} {mg : Str → Option Value} {base : Heap}
theorem Ok1.spec {α : Type} {x : Str} {k : Nat} {ps : List Str} {F : List D → AH → Res D} {pre : α → Prop} {enc : α → List D} {out : α → D} (h : Ok1 P w K mg base x k ps F) (hp : ∀ x, pre x → pureD (out x) = true)
    (hi : ∀ x ah, pre x → ∃ u, F (enc x) ah = .ok (out x) (ah ++ u)) : Ok1 P w K mg base x k ps (specF pre enc out) := by
  obtain ⟨f, fd, h1, h2, h3, h4⟩ := h
  refine ⟨f, fd, h1, h2, h3, h4.imp fun vs H Q E ⟨args, ah, η, hl, r, p, q⟩ => ⟨args, ah, η, hl, r, p, ?_⟩⟩
  unfold specF at q
  split at q
  · rename_i e
    obtain ⟨h5, h6⟩ := e.choose_spec
    obtain ⟨u, h7⟩ := hi e.choose ah h5
    rw [h6] at h7
    rw [h7]
    exact fun η' H' m p' v rv => q η H' m.cut (p.cut p' m.pre) v (pure_rel (hp _ h5) rv)
  · exact q.elim
end
theorem compL_map {α : Type} {g : D → AE → Option AE} {t : FT} {f : FE} {env : AE} {e o : α → D} {ah : AH} : ∀ {xs : List α} {acc : List D}, (∀ x ∈ xs, ∃ env1, g (e x) env = some env1 ∧ t env1 ah = .ok true ah ∧ f env1 ah = .ok (o x) ah) →
    acc.length + xs.length ≤ sizeLine → compL g t f env (xs.map e) acc ah = .ok (acc ++ xs.map o) ah
  | [], acc, _, _ => by simp [compL]
  | x :: xs, acc, h, hz => by
    obtain ⟨env1, h1, h2, h3⟩ := h x List.mem_cons_self
    rw [List.length_cons] at hz
    simp only [List.map_cons, compL, h1, h2, h3, Res.nox_ok, Res.bind_ok, if_true]
    rw [if_pos (by omega), compL_map (fun y hy => h y (List.mem_cons_of_mem _ hy)) (by simp; omega)]
    simp
theorem compL_if {α : Type} {g : D → AE → Option AE} {t : FT} {f : FE} {env : AE} {e o : α → D} {c : α → Bool} {ah : AH} : ∀ {xs : List α} {acc : List D}, (∀ x ∈ xs, ∃ env1, g (e x) env = some env1 ∧ t env1 ah = .ok (c x) ah ∧ (c x = true → f env1 ah = .ok (o x) ah)) →
    acc.length + xs.length ≤ sizeLine → compL g t f env (xs.map e) acc ah = .ok (acc ++ (xs.filter c).map o) ah
  | [], acc, _, _ => by simp [compL]
  | x :: xs, acc, h, hz => by
    obtain ⟨env1, h1, h2, h3⟩ := h x List.mem_cons_self
    rw [List.length_cons] at hz
    simp only [List.map_cons, compL, h1, h2, Res.nox_ok, Res.bind_ok]
    cases hc : c x with
    | true =>
      rw [if_pos rfl, h3 hc]
      simp only [Res.nox_ok, Res.bind_ok]
      rw [if_pos (by omega), compL_if (fun y hy => h y (List.mem_cons_of_mem _ hy)) (by simp; omega)]
      simp [hc]
    | false =>
      rw [if_neg Bool.false_ne_true, compL_if (fun y hy => h y (List.mem_cons_of_mem _ hy)) (by omega)]
      simp [hc]
/-- a loop that runs through: the state behind i turns is st i -/
theorem forL_run {g : D → AE → Option AE} {body : FS} {ds : List D} {st : Nat → AE × AH} {n : Nat} (hn : ds.length = n) (h : ∀ i d, ds[i]? = some d → ∃ env1 fl, g d (st i).1 = some env1 ∧ (fl = .nx ∨ fl = .ct) ∧ body env1 (st i).2 = .ok (fl, (st (i + 1)).1) (st (i + 1)).2) :
    forL g body ds (st 0).1 (st 0).2 = .ok (.nx, (st n).1) (st n).2 := by
  induction ds generalizing st n with
  | nil => subst hn; rfl
  | cons d ds ih =>
    subst hn
    obtain ⟨env1, fl, h1, h2, h3⟩ := h 0 d (by simp)
    simp only [forL, h1, h3, Res.bind_ok]
    have := ih (st := fun i => st (i + 1)) rfl fun i d' e => h (i + 1) d' (by simpa using e)
    rcases h2 with rfl | rfl
    · simpa using this
    · simpa using this
@[simp] theorem oAdd_int {i j : Int} {ah : AH} : oAdd (.int i) (.int j) ah = .ok (.int (i + j)) ah := rfl
@[simp] theorem oSub_int {i j : Int} {ah : AH} : oSub (.int i) (.int j) ah = .ok (.int (i - j)) ah := rfl
theorem oMul_int {i j : Int} {ah : AH} (h : CMul i j) : oMul (.int i) (.int j) ah = .ok (.int (i * j)) ah := by simp [oMul, h]
theorem oDiv_int {i j : Int} {ah : AH} (h : 0 < j ∧ j < 1073741824) : oDiv (.int i) (.int j) ah = .ok (.int (i / j)) ah := by simp [oDiv, oI, CDiv, h]
theorem oMod_int {i j : Int} {ah : AH} (h : 0 < j) : oMod (.int i) (.int j) ah = .ok (.int (i % j)) ah := by simp [oMod, oI, C0, h]
theorem oTup_eq {ds : List D} {ah : AH} (h : ds.length ≤ sizeLine) : oTup ds ah = .ok (.tup ds) ah := by simp [oTup, h]
theorem oLst_eq {ds : List D} {ah : AH} (h : ds.length ≤ sizeLine) : oLst ds ah = .ok (.lst ds) ah := by simp [oLst, h]
@[simp] theorem oTuple_lst {xs : List D} {ah : AH} : oTuple [.lst xs] ah = .ok (.tup xs) ah := rfl
@[simp] theorem oTuple_tup {xs : List D} {ah : AH} : oTuple [.tup xs] ah = .ok (.tup xs) ah := rfl
@[simp] theorem oLen_tup {xs : List D} {ah : AH} : oLen [.tup xs] ah = .ok (.int (xs.length : Nat)) ah := rfl
@[simp] theorem oLen_lst {xs : List D} {ah : AH} : oLen [.lst xs] ah = .ok (.int (xs.length : Nat)) ah := rfl
theorem oIx_tup {xs : List D} {i : Int} {d : D} {ah : AH} (h : atI xs i = some d) : oIx (.tup xs) (.int i) ah = .ok d ah := by simp [oIx, seqD, h]
theorem oIx_lst {xs : List D} {i : Int} {d : D} {ah : AH} (h : atI xs i = some d) : oIx (.lst xs) (.int i) ah = .ok d ah := by simp [oIx, seqD, h]
theorem at_nat {xs : List D} {n : Nat} : atI xs (n : Int) = xs[n]? := by
  cases e : xs[n]? with
  | some v => exact atI_nat e
  | none =>
    have h := List.getElem?_eq_none_iff.mp e
    unfold atI ixN
    rw [if_pos (by omega), if_neg (by omega)]
    rfl
theorem ix_tup {xs : List D} {n : Nat} {d : D} {ah : AH} {i : Int} (h : xs[n]? = some d) (e : i = (n : Int)) : oIx (.tup xs) (.int i) ah = .ok d ah := oIx_tup (by rw [e, at_nat, h])
theorem ix_lst {xs : List D} {n : Nat} {d : D} {ah : AH} {i : Int} (h : xs[n]? = some d) (e : i = (n : Int)) : oIx (.lst xs) (.int i) ah = .ok d ah := oIx_lst (by rw [e, at_nat, h])
/-- a loop, by what holds ahead of each turn -/
theorem forL_inv {g : D → AE → Option AE} {body : FS} {I : Nat → AE → AH → Prop} : ∀ {ds : List D} {env : AE} {ah : AH} {k : Nat}, I k env ah →
    (∀ i d env ah, ds[i]? = some d → I (k + i) env ah → ∃ env1 fl env2 ah2, g d env = some env1 ∧ (fl = .nx ∨ fl = .ct) ∧ body env1 ah = .ok (fl, env2) ah2 ∧ I (k + i + 1) env2 ah2) →
    ∃ env' ah', forL g body ds env ah = .ok (.nx, env') ah' ∧ I (k + ds.length) env' ah'
  | [], env, ah, k, h0, _ => ⟨env, ah, rfl, h0⟩
  | d :: ds, env, ah, k, h0, h => by
    obtain ⟨env1, fl, env2, ah2, h1, h2, h3, h4⟩ := h 0 d env ah (by simp) h0
    obtain ⟨env', ah', h5, h6⟩ := forL_inv (ds := ds) (k := k + 1) (I := I) h4 fun i d' e a q z => by
      have := h (i + 1) d' e a (by simpa using q) (by rw [show k + (i + 1) = k + 1 + i by omega]; exact z)
      rw [show k + (i + 1) + 1 = k + 1 + i + 1 by omega] at this
      exact this
    refine ⟨env', ah', ?_, by rw [List.length_cons, show k + (ds.length + 1) = k + 1 + ds.length by omega]; exact h6⟩
    simp only [forL, h1, h3, Res.bind_ok]
    rcases h2 with rfl | rfl <;> exact h5
theorem small {n : Nat} (h : n ≤ 1048576) : n ≤ sizeLine := by rw [sizeLine_eq]; omega
theorem rangeD_map (n : Nat) : rangeD 0 n = (List.range n).map dI := by
  unfold rangeD dI
  exact List.map_congr_left fun i _ => by rw [Int.zero_add]
end DL
namespace DL
open PySem PySem.Spec PyProof.Rows L2
theorem pure_map {α : Type} {e : α → D} (h : ∀ x, pureD (e x) = true) : ∀ xs : List α, pureDL (xs.map e) = true
  | [] => rfl
  | x :: xs => by simp [pureDL, h x, pure_map h xs]
theorem pure_dT {α : Type} {e : α → D} (h : ∀ x, pureD (e x) = true) (xs : List α) : pureD (dT e xs) = true := pure_map h xs
theorem pure_dL {α : Type} {e : α → D} (h : ∀ x, pureD (e x) = true) (xs : List α) : pureD (dL e xs) = true := pure_map h xs
theorem oAdd_tup {xs ys : List D} {ah : AH} (h : xs.length + ys.length ≤ sizeLine) : oAdd (.tup xs) (.tup ys) ah = .ok (.tup (xs ++ ys)) ah := by
  show (if xs.length + ys.length ≤ sizeLine then (if xs = [] then Res.ok (D.tup ys) ah else if ys = [] then .ok (D.tup xs) ah else .ok (D.tup (xs ++ ys)) ah) else .bad) = _
  rw [if_pos h]
  split
  · rename_i e; subst e; rfl
  · split
    · rename_i e; subst e; simp
    · rfl
theorem oAdd_lst {xs ys : List D} {ah : AH} (h : xs.length + ys.length ≤ sizeLine) : oAdd (.lst xs) (.lst ys) ah = .ok (.lst (xs ++ ys)) ah := by
  show (if xs.length + ys.length ≤ sizeLine then Res.ok (D.lst (xs ++ ys)) ah else .bad) = _
  rw [if_pos h]
theorem zipD_map {α β : Type} {e : α → D} {f : β → D} : ∀ (xs : List α) (ys : List β), zipD (xs.map e) (ys.map f) = (List.zip xs ys).map fun p => D.tup [e p.1, f p.2]
  | [], _ => by simp [zipD]
  | _ :: _, [] => by simp [zipD]
  | x :: xs, y :: ys => by simp [zipD, zipD_map xs ys]
theorem oShl1 {k : Nat} {ah : AH} (h : k ≤ 1000000) : oShl (.int 1) (.int (k : Int)) ah = .ok (.int ((2 ^ k : Nat) : Int)) ah := by
  have c : CPow 1 (k : Int) := ⟨by omega, by omega, by decide⟩
  have e : (1 : Int) * 2 ^ (k : Int).toNat = ((2 ^ k : Nat) : Int) := by rw [Int.toNat_natCast, Int.one_mul]; exact (Int.natCast_pow 2 k).symm
  unfold oShl oI
  simp only [c, if_true, e]
end DL
namespace DL
open PySem PySem.Spec PyProof.Rows L2
@[simp] theorem tup1 {a : D} {ah : AH} : oTup [a] ah = .ok (.tup [a]) ah := oTup_eq (small (by simp))
@[simp] theorem tup2 {a b : D} {ah : AH} : oTup [a, b] ah = .ok (.tup [a, b]) ah := oTup_eq (small (by simp))
@[simp] theorem tup3 {a b c : D} {ah : AH} : oTup [a, b, c] ah = .ok (.tup [a, b, c]) ah := oTup_eq (small (by simp))
@[simp] theorem tup4 {a b c d : D} {ah : AH} : oTup [a, b, c, d] ah = .ok (.tup [a, b, c, d]) ah := oTup_eq (small (by simp))
@[simp] theorem tup0 {ah : AH} : oTup [] ah = .ok (.tup []) ah := oTup_eq (small (by simp))
@[simp] theorem lst0 {ah : AH} : oLst [] ah = .ok (.lst []) ah := oLst_eq (small (by simp))
@[simp] theorem lst1 {a : D} {ah : AH} : oLst [a] ah = .ok (.lst [a]) ah := oLst_eq (small (by simp))
@[simp] theorem lst2 {a b : D} {ah : AH} : oLst [a, b] ah = .ok (.lst [a, b]) ah := oLst_eq (small (by simp))
@[simp] theorem lstM0 {ah : AH} : oLstM [] ah = .ok (.ref ah.length) (ah ++ [.lst []]) := by unfold oLstM; rw [if_pos (small (by simp))]
@[simp] theorem lstM1 {a : D} {ah : AH} : oLstM [a] ah = .ok (.ref ah.length) (ah ++ [.lst [a]]) := by unfold oLstM; rw [if_pos (small (by simp))]
@[simp] theorem lstM2 {a b : D} {ah : AH} : oLstM [a, b] ah = .ok (.ref ah.length) (ah ++ [.lst [a, b]]) := by unfold oLstM; rw [if_pos (small (by simp))]
def rangeK (d : D) (ah : AH) : Res (List D) := match d with
  | .int j => if rgIn j then .ok (rangeD 0 j.toNat) ah else .bad
  | _ => .bad
theorem iRange1_eq {f : FE} {env : AE} {ah : AH} : iRange1 [f] env ah = (f env ah).bind rangeK := by
  unfold iRange1 iArgs iArgs
  cases f env ah with
  | ok d ah1 =>
    simp only [Res.bind_ok]
    unfold rangeK
    cases d <;> rfl
  | exc x e a => rfl
  | bad => rfl
theorem rangeK_nat {n : Nat} {ah : AH} (h : n ≤ 4096) : rangeK (.int (n : Int)) ah = .ok ((List.range n).map dI) ah := by
  unfold rangeK
  have c : rgIn (n : Int) := by unfold rgIn; omega
  simp only [c, if_true, Int.toNat_natCast, rangeD_map]
def rangeK2 (d e : D) (ah : AH) : Res (List D) := match d, e with
  | .int i, .int j => if rgIn i ∧ rgIn j then .ok (rangeD i (j - i).toNat) ah else .bad
  | _, _ => .bad
theorem iRange2_eq {f g : FE} {env : AE} {ah : AH} : iRange2 [f, g] env ah = (f env ah).bind fun x ah1 => (g env ah1).bind fun y ah2 => rangeK2 x y ah2 := by
  unfold iRange2 iArgs iArgs iArgs
  cases f env ah with
  | ok d ah1 =>
    simp only [Res.bind_ok]
    cases g env ah1 with
    | ok e ah2 =>
      simp only [Res.bind_ok]
      unfold rangeK2
      cases d <;> cases e <;> rfl
    | exc x e a => rfl
    | bad => rfl
  | exc x e a => rfl
  | bad => rfl
end DL
namespace DL
open PySem PySem.Spec PyProof.Rows L2
section
variable {env env1 : AE} {ah a1 a2 a3 a4 : AH} {f fa fb fc : FE} {fs : List FE} {x y z d : D} {ds xs : List D} {t t2 : FT} {s s2 : FS} {fi : FI} {b : Bool}
theorem eC : iC d env ah = .ok d ah := rfl
theorem eK : iK d env ah = .ok d ah := rfl
theorem eV {i : Nat} (h : env[i]? = some (some d)) : iVar i env ah = .ok d ah := by unfold iVar; rw [h]
theorem eBin {o : D → D → AH → Res D} (h1 : fa env ah = .ok x a1) (h2 : fb env a1 = .ok y a2) (h3 : o x y a2 = .ok z a3) : iBin o fa fb env ah = .ok z a3 := by unfold iBin; rw [h1, Res.bind_ok, h2, Res.bind_ok, h3]
theorem eUn {o : D → AH → Res D} (h1 : f env ah = .ok x a1) (h3 : o x a1 = .ok z a3) : iUn o f env ah = .ok z a3 := by unfold iUn; rw [h1, Res.bind_ok, h3]
theorem eA0 : iArgs [] env ah = .ok [] ah := rfl
theorem eA (h1 : f env ah = .ok x a1) (h2 : iArgs fs env a1 = .ok xs a2) : iArgs (f :: fs) env ah = .ok (x :: xs) a2 := by unfold iArgs; rw [h1, Res.bind_ok, h2, Res.bind_ok]
theorem eCall {o : List D → AH → Res D} (h1 : iArgs fs env ah = .ok xs a1) (h2 : o xs a1 = .ok z a2) : iCall o fs env ah = .ok z a2 := by unfold iCall; rw [h1, Res.bind_ok, h2]
theorem eDef {F : List D → AH → Res D} (h1 : iArgs fs env ah = .ok xs a1) (h2 : F xs a1 = .ok z a2) : iDef F fs env ah = .ok z a2 := by unfold iDef; rw [h1, Res.bind_ok, h2, Res.nox_ok]
theorem eFz (h1 : f env ah = .ok x a1) (h3 : fzD x a1 = .ok z a3) : iFz f env ah = .ok z a3 := eUn h1 h3
theorem eIfT (h1 : t env ah = .ok true a1) (h2 : fa env a1 = .ok z a2) : iIf t fa fb env ah = .ok z a2 := by unfold iIf; rw [h1, Res.bind_ok, if_pos rfl, h2]
theorem eIfF (h1 : t env ah = .ok false a1) (h2 : fb env a1 = .ok z a2) : iIf t fa fb env ah = .ok z a2 := by unfold iIf; rw [h1, Res.bind_ok, if_neg Bool.false_ne_true, h2]
theorem eIf (h1 : t env ah = .ok b a1) (h2 : (if b = true then fa env a1 else fb env a1) = .ok z a2) : iIf t fa fb env ah = .ok z a2 := by unfold iIf; rw [h1, Res.bind_ok, h2]
theorem eTr (h1 : f env ah = .ok (.bl b) a1) : iTr f env ah = .ok b a1 := by unfold iTr; rw [h1, Res.bind_ok]
theorem eTru (h1 : f env ah = .ok x a1) (h2 : truD a1 x = some b) : iTru f env ah = .ok b a1 := by unfold iTru; rw [h1, Res.bind_ok, h2]
theorem eNotT (h1 : t env ah = .ok b a1) : bNot t env ah = .ok (!b) a1 := by unfold bNot; rw [h1, Res.bind_ok]
theorem eAndT (h1 : t env ah = .ok true a1) {r : Res Bool} (h2 : t2 env a1 = r) : bAnd t t2 env ah = r := by unfold bAnd; rw [h1, Res.bind_ok, if_pos rfl, h2]
theorem eAndF (h1 : t env ah = .ok false a1) : bAnd t t2 env ah = .ok false a1 := by unfold bAnd; rw [h1, Res.bind_ok, if_neg Bool.false_ne_true]
theorem eOrT (h1 : t env ah = .ok true a1) : bOr t t2 env ah = .ok true a1 := by unfold bOr; rw [h1, Res.bind_ok, if_pos rfl]
theorem eOrF (h1 : t env ah = .ok false a1) {r : Res Bool} (h2 : t2 env a1 = r) : bOr t t2 env ah = r := by unfold bOr; rw [h1, Res.bind_ok, if_neg Bool.false_ne_true, h2]
theorem eSeq {r : Res (Fl × AE)} (h1 : s env ah = .ok (.nx, env1) a1) (h2 : s2 env1 a1 = r) : sSeq s s2 env ah = r := by unfold sSeq; rw [h1, Res.bind_ok]; exact h2
theorem eSeqR (h1 : s env ah = .ok (.rt d, env1) a1) : sSeq s s2 env ah = .ok (.rt d, env1) a1 := by unfold sSeq; rw [h1, Res.bind_ok]
theorem eRet (h1 : f env ah = .ok d a1) : sRet f env ah = .ok (.rt d, env) a1 := by unfold sRet; rw [h1, Res.bind_ok]
theorem eNx : sNx env ah = .ok (.nx, env) ah := rfl
theorem eDrop (h1 : f env ah = .ok d a1) : sDrop f env ah = .ok (.nx, env) a1 := by unfold sDrop; rw [h1, Res.bind_ok]
theorem eAsg {g : D → AE → Option AE} (h1 : f env ah = .ok d a1) (h2 : g d env = some env1) : sAsg g f env ah = .ok (.nx, env1) a1 := by unfold sAsg; rw [h1, Res.bind_ok, h2]
theorem eSIfT {r : Res (Fl × AE)} (h1 : t env ah = .ok true a1) (h2 : s env a1 = r) : sIf t s s2 env ah = r := by unfold sIf; rw [h1, Res.bind_ok, if_pos rfl, h2]
theorem eSIfF {r : Res (Fl × AE)} (h1 : t env ah = .ok false a1) (h2 : s2 env a1 = r) : sIf t s s2 env ah = r := by unfold sIf; rw [h1, Res.bind_ok, if_neg Bool.false_ne_true, h2]
theorem eSIf {r : Res (Fl × AE)} (h1 : t env ah = .ok b a1) (h2 : (if b = true then s env a1 else s2 env a1) = r) : sIf t s s2 env ah = r := by unfold sIf; rw [h1, Res.bind_ok, h2]
theorem eFor {g : D → AE → Option AE} {r : Res (Fl × AE)} (h1 : fi env ah = .ok ds a1) (h2 : forL g s ds env a1 = r) : sFor fi g s env ah = r := by unfold sFor; rw [h1, Res.bind_ok, h2]
theorem ePut {fo fx : FE} (h1 : f env ah = .ok d a1) (h2 : fo env a1 = .ok x a2) (h3 : fx env a2 = .ok y a3) (h4 : putD x y d a3 = some a4) : sPut fo fx f env ah = .ok (.nx, env) a4 := by
  unfold sPut; rw [h1, Res.bind_ok, h2, Res.bind_ok, h3, Res.bind_ok, h4]
theorem eAug {i : Nat} {o : D → D → AH → Res D} (h0 : env[i]? = some (some x)) (h1 : f env ah = .ok y a1) (h2 : o x y a1 = .ok z a2) : sAug i o f env ah = .ok (.nx, env.set i (some z)) a2 := by unfold sAug; rw [h0]; simp only; rw [h1, Res.bind_ok, h2, Res.bind_ok]
theorem eApp {fo : FE} {n : Nat} (h1 : fo env ah = .ok (.ref n) a1) (h2 : a1[n]? = some (.lst xs)) (h3 : f env a1 = .ok y a2) (h4 : a2[n]? = some (.lst ds)) (hz : ds.length < sizeLine) : iApp fo f env ah = .ok .non (a2.set n (.lst (ds ++ [y]))) := by
  unfold iApp
  rw [h1, Res.bind_ok]
  have e : isLst a1 (.ref n) = true := by unfold isLst; simp only [h2]
  rw [if_pos e, h3, Res.bind_ok]
  unfold oApp
  simp only [h4]
  rw [if_pos hz]
theorem eLc {g : D → AE → Option AE} {vs : List Nat} (h1 : fi env ah = .ok ds a1) (h2 : compL g t f (wipeA env vs) ds [] a1 = .ok xs a2) : iLc fi g t f vs env ah = .ok (.lst xs) a2 := by unfold iLc; rw [h1, Res.bind_ok, h2, Res.bind_ok]
theorem eLcM {g : D → AE → Option AE} {vs : List Nat} (h1 : fi env ah = .ok ds a1) (h2 : compL g t f (wipeA env vs) ds [] a1 = .ok xs a2) : iLcM fi g t f vs env ah = .ok (.ref a2.length) (a2 ++ [.lst xs]) := by unfold iLcM; rw [h1, Res.bind_ok, h2, Res.bind_ok]
theorem eSl {o : D → Option Int → Option Int → AH → Res D} {fl fh : FO} {lo hi : Option Int} (h1 : f env ah = .ok x a1) (h2 : fl env a1 = .ok lo a2) (h3 : fh env a2 = .ok hi a3) (h4 : o x lo hi a3 = .ok z a4) : iSl o f fl fh env ah = .ok z a4 := by
  unfold iSl; rw [h1, Res.bind_ok, h2, Res.bind_ok, h3, Res.bind_ok, h4]
theorem eNoP : iNoP env ah = .ok none ah := rfl
theorem ePart {i : Int} (h1 : f env ah = .ok (.int i) a1) : iPart f env ah = .ok (some i) a1 := by unfold iPart; rw [h1, Res.bind_ok]
theorem eRg1 {n : Nat} (h1 : f env ah = .ok (.int (n : Int)) a1) (hn : n ≤ 4096) : iRange1 [f] env ah = .ok ((List.range n).map dI) a1 := by rw [iRange1_eq, h1, Res.bind_ok, rangeK_nat hn]
theorem eSqT (h1 : f env ah = .ok (.tup ds) a1) : iSeqS f env ah = .ok ds a1 := by unfold iSeqS; rw [h1, Res.bind_ok]
theorem eSqL (h1 : f env ah = .ok (.lst ds) a1) : iSeqS f env ah = .ok ds a1 := by unfold iSeqS; rw [h1, Res.bind_ok]
theorem eSqS {q : Str} (h1 : f env ah = .ok (.str q) a1) : iSeqS f env ah = .ok (q.cps.toList.map fun c => .str ⟨#[c]⟩) a1 := by unfold iSeqS; rw [h1, Res.bind_ok]
theorem eRvT (h1 : f env ah = .ok (.tup ds) a1) : iRevI f env ah = .ok ds.reverse a1 := by unfold iRevI; rw [h1, Res.bind_ok]
theorem eRvL (h1 : f env ah = .ok (.lst ds) a1) : iRevI f env ah = .ok ds.reverse a1 := by unfold iRevI; rw [h1, Res.bind_ok]
theorem eZpL (h1 : iArgs fs env ah = .ok [.lst xs, .lst ds] a1) : iZipI fs env ah = .ok (zipD xs ds) a1 := by unfold iZipI; rw [h1, Res.bind_ok]
theorem eZpT (h1 : iArgs fs env ah = .ok [.tup xs, .tup ds] a1) : iZipI fs env ah = .ok (zipD xs ds) a1 := by unfold iZipI; rw [h1, Res.bind_ok]
theorem eBodyR {n : Nat} {args : List D} (h : s (args.map some ++ List.replicate (n - args.length) none) ah = .ok (.rt d, env1) a1) : iBody n s args ah = .ok d a1 := by unfold iBody; rw [h]
theorem eBodyN {n : Nat} {args : List D} (h : s (args.map some ++ List.replicate (n - args.length) none) ah = .ok (.nx, env1) a1) : iBody n s args ah = .ok .non a1 := by unfold iBody; rw [h]
theorem okd {α : Type} {r : Res α} {u v : α} (h : r = .ok u ah) (e : u = v) : r = .ok v ah := by rw [h, e]
end
end DL
namespace DL
open PySem PySem.Spec PyProof.Rows L2
theorem oTuple_ref {n : Nat} {xs : List D} {ah : AH} (h : ah[n]? = some (.lst xs)) : oTuple [.ref n] ah = .ok (.tup xs) ah := by
  have e : seqD ah (.ref n) = some (false, xs) := by simp only [seqD, h]
  unfold oTuple
  simp only [e]
theorem last_at {ah : AH} {o : AO} : (ah ++ [o])[ah.length]? = some o := by simp
theorem set_last {ah : AH} {o p : AO} : (ah ++ [o]).set ah.length p = ah ++ [p] := by
  induction ah with
  | nil => rfl
  | cons a ah ih => simp only [List.cons_append, List.length_cons, List.set_cons_succ, ih]
theorem zip_maps {α β γ : Type} (f : α → β) (g : α → γ) : ∀ xs : List α, (xs.map f).zip (xs.map g) = xs.map fun x => (f x, g x)
  | [] => rfl
  | x :: xs => by simp [zip_maps f g xs]
end DL
namespace DL
open PySem PySem.Spec PyProof.Rows L2
theorem compL_grow {α : Type} {g : D → AE → Option AE} {f : FE} {env : AE} {e : α → D} {o : AO} : ∀ {xs : List α} {acc : List D} {ah : AH}, (∀ x ∈ xs, ∀ a, ∃ env1, g (e x) env = some env1 ∧ f env1 a = .ok (.ref a.length) (a ++ [o])) → acc.length + xs.length ≤ sizeLine →
    compL g (fun _ ah => .ok true ah) f env (xs.map e) acc ah = .ok (acc ++ (List.range xs.length).map fun i => D.ref (ah.length + i)) (ah ++ List.replicate xs.length o)
  | [], acc, ah, _, _ => by simp [compL]
  | x :: xs, acc, ah, h, hz => by
    obtain ⟨env1, h1, h3⟩ := h x List.mem_cons_self ah
    rw [List.length_cons] at hz
    simp only [List.map_cons, compL, h1, h3, Res.nox_ok, Res.bind_ok, if_true]
    rw [if_pos (by omega), compL_grow (fun y hy a => h y (List.mem_cons_of_mem _ hy) a) (by simp; omega)]
    have e1 : (List.range (xs.length + 1)).map (fun i => D.ref (ah.length + i)) = D.ref ah.length :: (List.range xs.length).map fun i => D.ref ((ah ++ [o]).length + i) := by
      rw [List.range_succ_eq_map, List.map_cons, List.map_map]
      congr 1
      refine List.map_congr_left fun i _ => ?_
      simp only [Function.comp, List.length_append, List.length_cons, List.length_nil]
      congr 1
      omega
    rw [List.length_cons, e1, List.replicate_succ]
    simp
theorem oMulM_one {d : D} {n : Nat} {ah : AH} (h : n ≤ 4096) : oMulM (.lst [d]) (.int (n : Int)) ah = .ok (.ref ah.length) (ah ++ [.lst (List.replicate n d)]) := by
  unfold oMulM seqD
  simp only [Int.toNat_natCast, List.length_cons, List.length_nil]
  rw [if_pos ⟨by omega, by omega, by rw [sizeLine_eq]; omega⟩]
  have e : ∀ m : Nat, (List.replicate m [d]).flatten = List.replicate m d := fun m => by
    induction m with
    | zero => rfl
    | succ m ih => rw [List.replicate_succ, List.flatten_cons, ih]; rfl
  rw [e]
def aoI (row : List Int) : AO := .lst (row.map D.int)
def H2 (ah : AH) (F B : List (List Int)) : AH := ah ++ (F.map aoI ++ B.map aoI)
section
variable {ah : AH} {F B : List (List Int)} {r : Nat}
theorem h2_get1 (h : r < F.length) : (H2 ah F B)[ah.length + r]? = some (aoI (F.getD r [])) := by
  unfold H2
  rw [List.getElem?_append_right (by omega), show ah.length + r - ah.length = r by omega, List.getElem?_append_left (by simpa using h), List.getElem?_map, List.getElem?_eq_getElem h, List.getD_eq_getElem?_getD, List.getElem?_eq_getElem h]
  rfl
theorem h2_get2 (h : r < B.length) : (H2 ah F B)[ah.length + F.length + r]? = some (aoI (B.getD r [])) := by
  unfold H2
  rw [List.getElem?_append_right (by omega), show ah.length + F.length + r - ah.length = F.length + r by omega, List.getElem?_append_right (by simp), List.length_map, show F.length + r - F.length = r by omega, List.getElem?_map, List.getElem?_eq_getElem h, List.getD_eq_getElem?_getD, List.getElem?_eq_getElem h]
  rfl
theorem set_app1 {α : Type} {x : α} : ∀ {xs ys : List α} {i : Nat}, i < xs.length → (xs ++ ys).set i x = xs.set i x ++ ys
  | [], _, _, h => absurd h (Nat.not_lt_zero _)
  | y :: xs, ys, 0, _ => rfl
  | y :: xs, ys, i + 1, h => by simp only [List.cons_append, List.set_cons_succ]; rw [set_app1 (by simpa using h)]
theorem set_app2 {α : Type} {x : α} : ∀ {xs ys : List α} {i : Nat}, (xs ++ ys).set (xs.length + i) x = xs ++ ys.set i x
  | [], ys, i => by simp
  | y :: xs, ys, i => by
    rw [List.cons_append, List.length_cons, show xs.length + 1 + i = xs.length + i + 1 by omega, List.set_cons_succ, set_app2]
    rfl
theorem h2_set1 {row : List Int} (h : r < F.length) : (H2 ah F B).set (ah.length + r) (aoI row) = H2 ah (F.set r row) B := by
  unfold H2
  rw [set_app2, set_app1 (by simpa using h), List.map_set]
theorem h2_set2 {row : List Int} : (H2 ah F B).set (ah.length + F.length + r) (aoI row) = H2 ah F (B.set r row) := by
  unfold H2
  rw [Nat.add_assoc, set_app2, show F.length = (F.map aoI).length by simp, set_app2, List.map_set]
theorem put_row {a : AH} {n c : Nat} {row : List Int} {v : Int} (h : a[n]? = some (aoI row)) (hc : c < row.length) : putD (.ref n) (.int (c : Int)) (.int v) a = some (a.set n (aoI (row.set c v))) := by
  unfold putD
  simp only [h, aoI]
  have e : ixN (row.map D.int).length (c : Int) = some c := by
    unfold ixN
    rw [if_pos (by omega), if_pos (by rw [List.length_map]; omega)]
    simp
  simp only [e, List.map_set]
end
theorem eMulSmall {k v : Int} {ah : AH} (h1 : -(2 ^ 64) < k) (h2 : k < 2 ^ 64) : oMul (.int k) (.int v) ah = .ok (.int (k * v)) ah := oMul_int (.inl ⟨h1, h2⟩)
theorem range_getD {α β : Type} (f : α → β) (d : α) (xs : List α) : (List.range xs.length).map (fun j => f (xs.getD j d)) = xs.map f := by
  apply List.ext_getElem
  · simp
  · intro i h1 h2
    have hi : i < xs.length := by simpa using h2
    simp [List.getD_eq_getElem?_getD, List.getElem?_eq_getElem hi]
theorem eEnT {fs : List FE} {env : AE} {ah a1 : AH} {xs : List D} (h1 : iArgs fs env ah = .ok [.tup xs] a1) : iEnumA fs env ah = .ok (numD 0 xs) a1 := by unfold iEnumA; rw [h1, Res.bind_ok]
end DL
namespace DL
open PySem PySem.Spec PyProof.Rows L2
theorem fz_ref {n : Nat} {ds : List D} {ah : AH} (h : ah[n]? = some (.lst ds)) : fzD (.ref n) ah = .ok (.lst ds) (ah.set n (.fz (.lst ds))) := by
  unfold fzD
  simp only [h]
theorem fz_last {ds : List D} {ah : AH} : fzD (.ref ah.length) (ah ++ [.lst ds]) = .ok (.lst ds) (ah ++ [.fz (.lst ds)]) := by
  rw [fz_ref last_at, set_last]
theorem eDown_lst {xs : List D} {ah : AH} : oDown (.lst xs) ah = .ok (.lst xs.reverse) ah := rfl
theorem eDown_tup {xs : List D} {ah : AH} : oDown (.tup xs) ah = .ok (.tup xs.reverse) ah := rfl
theorem eP0 {env : AE} {ah : AH} : iPairs [] env ah = .ok [] ah := rfl
theorem eP {fk fv : FE} {ps : List (FE × FE)} {env : AE} {ah a1 a2 a3 : AH} {k v : D} {q : Key} {kvs : List (Key × D)} (h1 : fk env ah = .ok k a1) (h2 : fv env a1 = .ok v a2) (h3 : iPairs ps env a2 = .ok kvs a3) (h4 : keyD k = some q) : iPairs ((fk, fv) :: ps) env ah = .ok ((q, v) :: kvs) a3 := by
  unfold iPairs
  rw [h1, Res.bind_ok, h2, Res.bind_ok, h3, Res.bind_ok]
  simp only [h4]
theorem eDict {ps : List (FE × FE)} {env : AE} {ah a1 : AH} {kvs : List (Key × D)} (h1 : iPairs ps env ah = .ok kvs a1) (h2 : kvs.length ≤ 15) : iDict ps env ah = .ok (.dk (foldD kvs ([], [])).1 (foldD kvs ([], [])).2) a1 := by
  unfold iDict
  rw [h1, Res.bind_ok, if_pos h2]
end DL
namespace DL
open PySem PySem.Spec PyProof.Rows L2
/-- what may be shown and compared: depth at most k, at most n items -/
structure Shw (k n : Nat) (d : PyData) : Prop where
  sh : d.showable = true
  lf : d.leavesShort 13 = true
  ly : d.canLay0 = true
  nd : d.hasDict = false
  dp : d.depth ≤ k
  bk : d.bulk ≤ n
theorem Shw.mono {k n k' n' : Nat} {d : PyData} (h : Shw k n d) (h1 : k ≤ k') (h2 : n ≤ n') : Shw k' n' d := ⟨h.sh, h.lf, h.ly, h.nd, Nat.le_trans h.dp h1, Nat.le_trans h.bk h2⟩
theorem shw_int {i : Int} (h : i.natAbs < 1000000000000) : Shw 0 0 (.int i) := by
  refine ⟨?_, ?_, rfl, rfl, Nat.le_refl _, Nat.le_refl _⟩
  · show decide (i.natAbs.log2 < 1920) = true
    refine decide_eq_true ?_
    by_cases c : i.natAbs = 0
    · rw [c]; decide
    · have : i.natAbs.log2 < 40 := (Nat.log2_lt c).mpr (by omega)
      omega
  · show decide ((PyData.shown (.int i)).length ≤ 13) = true
    refine decide_eq_true ?_
    have e := int_text_length_le10 (a := i) (k := 12) (by decide) (by omega)
    show (PySem.Str.ofString (ToString.toString i)).length ≤ 13
    rw [PySem.ofString_length]
    exact e
theorem shw_all {k n : Nat} : ∀ {xs : List PyData}, (∀ x ∈ xs, Shw k n x) → PyData.showableAll xs = true ∧ PyData.leavesShortAll 13 xs = true ∧ PyData.canLayAll0 xs = true ∧ PyData.hasDictAll xs = false ∧ PyData.depthAll xs ≤ k ∧ PyData.bulkAll xs ≤ xs.length * (n + 1)
  | [], _ => ⟨rfl, rfl, rfl, rfl, Nat.zero_le _, Nat.zero_le _⟩
  | x :: xs, h => by
    have a := h x List.mem_cons_self
    obtain ⟨b1, b2, b3, b4, b5, b6⟩ := shw_all fun y hy => h y (List.mem_cons_of_mem _ hy)
    refine ⟨?_, ?_, ?_, ?_, ?_, ?_⟩
    · simp [PyData.showableAll, a.sh, b1]
    · simp [PyData.leavesShortAll, a.lf, b2]
    · simp [PyData.canLayAll0, a.ly, b3]
    · simp [PyData.hasDictAll, a.nd, b4]
    · show max _ _ ≤ k
      exact Nat.max_le.mpr ⟨a.dp, b5⟩
    · show PyData.bulk x + 1 + PyData.bulkAll xs ≤ (xs.length + 1) * (n + 1)
      have := a.bk
      rw [Nat.add_mul]
      omega
theorem shw_tup {k n : Nat} {xs : List PyData} (h : ∀ x ∈ xs, Shw k n x) : Shw (k + 1) (xs.length * (n + 1)) (.tuple xs) := by
  obtain ⟨b1, b2, b3, b4, b5, b6⟩ := shw_all h
  exact ⟨by simpa [PyData.showable] using b1, by simpa [PyData.leavesShort] using b2, by simpa [PyData.canLay0] using b3, by simpa [PyData.hasDict] using b4, by simp only [PyData.depth]; omega, by simpa [PyData.bulk] using b6⟩
theorem shw_lst {k n : Nat} {xs : List PyData} (h : ∀ x ∈ xs, Shw k n x) : Shw (k + 1) (xs.length * (n + 1)) (.list xs) := by
  obtain ⟨b1, b2, b3, b4, b5, b6⟩ := shw_all h
  exact ⟨by simpa [PyData.showable] using b1, by simpa [PyData.leavesShort] using b2, by simpa [PyData.canLay0] using b3, by simpa [PyData.hasDict] using b4, by simp only [PyData.depth]; omega, by simpa [PyData.bulk] using b6⟩
theorem Shw.rpr {k n : Nat} {d : PyData} (h : Shw k n d) (hk : k ≤ 40) (hn : n ≤ 1048576) : rprOk d = true := by
  have h1 := h.bk; have h2 := h.dp
  unfold rprOk
  simp only [Bool.and_eq_true, decide_eq_true_eq, Bool.not_eq_true']
  exact ⟨h.sh, h.lf, by omega, by omega, h.nd⟩
theorem Shw.shaped {k n : Nat} {d : PyData} (h : Shw k n d) (hk : k ≤ 40) : SeqAt.shaped d = true := by
  have h2 := h.dp
  unfold SeqAt.shaped
  simp only [Bool.and_eq_true, decide_eq_true_eq]
  exact ⟨h.ly, by omega⟩
theorem py_map {α : Type} {e : α → D} {p : α → PyData} (h : ∀ x, toPy (e x) = some (p x)) : ∀ xs : List α, toPyL (xs.map e) = some (xs.map p)
  | [] => rfl
  | x :: xs => by simp [toPyL, h x, py_map h xs]
theorem py_dT {α : Type} {e : α → D} {p : α → PyData} (h : ∀ x, toPy (e x) = some (p x)) (xs : List α) : toPy (dT e xs) = some (.tuple (xs.map p)) := by
  unfold dT toPy
  simp only [py_map h xs]
theorem py_dL {α : Type} {e : α → D} {p : α → PyData} (h : ∀ x, toPy (e x) = some (p x)) (xs : List α) : toPy (dL e xs) = some (.list (xs.map p)) := by
  unfold dL toPy
  simp only [py_map h xs]
theorem eqv_map {α : Type} [DecidableEq α] {p : α → PyData} (h : ∀ x y, PyData.eqv (p x) (p y) = decide (x = y)) : ∀ xs ys : List α, PyData.eqvAll (xs.map p) (ys.map p) = decide (xs = ys)
  | [], [] => by simp [PyData.eqvAll]
  | [], _ :: _ => by simp [PyData.eqvAll]
  | _ :: _, [] => by simp [PyData.eqvAll]
  | x :: xs, y :: ys => by
    rw [List.map_cons, List.map_cons, PyData.eqvAll, h x y, eqv_map h xs ys, Bool.eq_iff_iff]
    simp
theorem eqv_tupM {α : Type} [DecidableEq α] {p : α → PyData} (h : ∀ x y, PyData.eqv (p x) (p y) = decide (x = y)) (xs ys : List α) : PyData.eqv (.tuple (xs.map p)) (.tuple (ys.map p)) = decide (xs = ys) := by rw [PyData.eqv]; exact eqv_map h xs ys
theorem eqv_intI (x y : Int) : PyData.eqv (.int x) (.int y) = decide (x = y) := by
  rw [PyData.eqv, Bool.eq_iff_iff]
  simp
theorem eRepr {fs : List FE} {env : AE} {ah a1 : AH} {d : D} {q : PyData} (h1 : iArgs fs env ah = .ok [d] a1) (h2 : toPy d = some q) (h3 : rprOk q = true) : iCall oRepr fs env ah = .ok (.str q.shown) a1 := by
  refine eCall h1 ?_
  unfold oRepr
  simp only [h2, h3, if_true]
theorem oEq_str {x y : Str} {ah : AH} : oEq (.str x) (.str y) ah = .ok (.bl (decide (x = y))) ah := rfl
theorem oEq_dat {x y : D} {p q : PyData} {ah : AH} (h0 : scalD x y = none) (h1 : toPy x = some p) (h2 : toPy y = some q) (s1 : SeqAt.shaped p = true) (s2 : SeqAt.shaped q = true) : oEq x y ah = .ok (.bl (PyData.eqv p q)) ah := by
  unfold oEq eqD
  simp only [h0, h1, h2, s1, s2, and_self, if_true]
theorem eAnd1 {f g : FE} {env : AE} {ah a1 : AH} {r : Res D} (h1 : f env ah = .ok (.bl true) a1) (h2 : g env a1 = r) : iAnd f g env ah = r := by unfold iAnd; rw [h1, Res.bind_ok]; exact h2
theorem eAnd0 {f g : FE} {env : AE} {ah a1 : AH} (h1 : f env ah = .ok (.bl false) a1) : iAnd f g env ah = .ok (.bl false) a1 := by unfold iAnd; rw [h1, Res.bind_ok]
theorem all_bl {bs : List Bool} {ah : AH} : oAll [.lst (bs.map D.bl)] ah = .ok (.bl (bs.all id)) ah := by
  unfold oAll oL1 lstD
  simp only [seqD, blsD_map]
end DL
namespace DL
open PySem PySem.Spec PyProof.Rows L2
theorem eChain {o o' : D → D → AH → Res D} {fa fb fc : FE} {env : AE} {ah a1 a2 a3 a4 a5 : AH} {x y u z : D} (h1 : fa env ah = .ok x a1) (h2 : fb env a1 = .ok y a2) (h3 : o x y a2 = .ok (.bl true) a3) (h4 : fc env a3 = .ok u a4) (h5 : o' y u a4 = .ok z a5) : iChain o o' fa fb fc env ah = .ok z a5 := by
  unfold iChain
  rw [h1, Res.bind_ok, h2, Res.bind_ok, h3, Res.bind_ok]
  simp only
  rw [h4, Res.bind_ok, h5]
theorem eChain0 {o o' : D → D → AH → Res D} {fa fb fc : FE} {env : AE} {ah a1 a2 a3 : AH} {x y : D} (h1 : fa env ah = .ok x a1) (h2 : fb env a1 = .ok y a2) (h3 : o x y a2 = .ok (.bl false) a3) : iChain o o' fa fb fc env ah = .ok (.bl false) a3 := by
  unfold iChain
  rw [h1, Res.bind_ok, h2, Res.bind_ok, h3, Res.bind_ok]
theorem oLeI {i j : Int} {ah : AH} : oLe (.int i) (.int j) ah = .ok (.bl (decide (i ≤ j))) ah := rfl
theorem oLtI {i j : Int} {ah : AH} : oLt (.int i) (.int j) ah = .ok (.bl (decide (i < j))) ah := rfl
theorem oEqI {i j : Int} {ah : AH} : oEq (.int i) (.int j) ah = .ok (.bl (decide (i = j))) ah := rfl
theorem isNot_bl {a b : Bool} {ah : AH} : oIsNot (.bl a) (.bl b) ah = .ok (.bl (!decide (a = b))) ah := by cases a <;> cases b <;> rfl
end DL
namespace DL
open PySem PySem.Spec PyProof.Rows L2
/-- a comprehension whose items change the heap, by what holds of it -/
theorem compL_ex {α : Type} {g : D → AE → Option AE} {f : FE} {env : AE} {e : α → D} {P : AH → Prop} {Q : D → Prop} : ∀ {xs : List α} {acc : List D} {ah : AH}, P ah → (∀ x ∈ xs, ∀ a, P a → ∃ env1 y a', g (e x) env = some env1 ∧ f env1 a = .ok y a' ∧ Q y ∧ P a') → acc.length + xs.length ≤ sizeLine →
    ∃ ys ah', compL g (fun _ ah => .ok true ah) f env (xs.map e) acc ah = .ok (acc ++ ys) ah' ∧ ys.length = xs.length ∧ (∀ y ∈ ys, Q y) ∧ P ah'
  | [], acc, ah, h0, _, _ => ⟨[], ah, by simp [compL], rfl, (fun _ h => absurd h List.not_mem_nil), h0⟩
  | x :: xs, acc, ah, h0, h, hz => by
    obtain ⟨env1, y, a', h1, h3, hq, hp⟩ := h x List.mem_cons_self ah h0
    rw [List.length_cons] at hz
    obtain ⟨ys, ah', k1, k2, k3, k4⟩ := compL_ex (acc := acc ++ [y]) (xs := xs) (e := e) hp (fun z hz a => h z (List.mem_cons_of_mem _ hz) a) (by simp; omega)
    refine ⟨y :: ys, ah', ?_, by simp [k2], fun z hz => (List.mem_cons.mp hz).elim (fun w => by rw [w]; exact hq) (k3 z), k4⟩
    simp only [List.map_cons, compL, h1, h3, Res.nox_ok, Res.bind_ok, if_true]
    rw [if_pos (by omega), k1]
    simp
theorem rangeK2_0 {n : Nat} {ah : AH} (h : n ≤ 4096) : rangeK2 (.int 0) (.int (n : Int)) ah = .ok ((List.range n).map dI) ah := by
  unfold rangeK2
  have c : rgIn 0 ∧ rgIn (n : Int) := by unfold rgIn; omega
  simp only [c, and_self, if_true, Int.sub_zero, Int.toNat_natCast, rangeD_map]
theorem eRg2 {f g : FE} {env : AE} {ah a1 a2 : AH} {n : Nat} (h1 : f env ah = .ok (.int 0) a1) (h2 : g env a1 = .ok (.int (n : Int)) a2) (h : n ≤ 4096) : iRange2 [f, g] env ah = .ok ((List.range n).map dI) a2 := by
  rw [iRange2_eq, h1, Res.bind_ok, h2, Res.bind_ok, rangeK2_0 h]
theorem oGe_int {i j : Int} {ah : AH} : oGe (.int i) (.int j) ah = .ok (.bl (decide (j ≤ i))) ah := rfl
theorem oGt_int {i j : Int} {ah : AH} : oGt (.int i) (.int j) ah = .ok (.bl (decide (j < i))) ah := rfl
theorem oMulR {k v : Int} {ah : AH} (h1 : -(2 ^ 64) < v) (h2 : v < 2 ^ 64) : oMul (.int k) (.int v) ah = .ok (.int (k * v)) ah := oMul_int (.inr ⟨h1, h2⟩)
theorem oPow_int {i j : Int} {ah : AH} (h : CPow i j) : oPow (.int i) (.int j) ah = .ok (.int (i ^ j.toNat)) ah := by
  unfold oPow oI
  simp only [h, if_true]
theorem oInt_int {i : Int} {ah : AH} : oInt [.int i] ah = .ok (.int i) ah := rfl
theorem oLen_lstI {ns : List Int} {ah : AH} : oLen [.lst (ns.map D.int)] ah = .ok (.int ((ns.length : Nat) : Int)) ah := by rw [oLen_lst, List.length_map]
theorem atI_map {ns : List Int} {k : Nat} (h : k < ns.length) : (ns.map D.int)[k]? = some (.int ns[k]) := by rw [List.getElem?_map, List.getElem?_eq_getElem h]; rfl
end DL
namespace DL
open PySem PySem.Spec PyProof.Rows L2
theorem compL_alloc {α : Type} {g : D → AE → Option AE} {f : FE} {env : AE} {e : α → D} {o : α → AO} : ∀ {xs : List α} {acc : List D} {ah : AH}, (∀ x ∈ xs, ∀ a, ∃ env1, g (e x) env = some env1 ∧ f env1 a = .ok (.ref a.length) (a ++ [o x])) → acc.length + xs.length ≤ sizeLine →
    compL g (fun _ ah => .ok true ah) f env (xs.map e) acc ah = .ok (acc ++ (List.range xs.length).map fun i => D.ref (ah.length + i)) (ah ++ xs.map o)
  | [], acc, ah, _, _ => by simp [compL]
  | x :: xs, acc, ah, h, hz => by
    obtain ⟨env1, h1, h3⟩ := h x List.mem_cons_self ah
    rw [List.length_cons] at hz
    simp only [List.map_cons, compL, h1, h3, Res.nox_ok, Res.bind_ok, if_true]
    rw [if_pos (by omega), compL_alloc (fun y hy a => h y (List.mem_cons_of_mem _ hy) a) (by simp; omega)]
    have e1 : (List.range (xs.length + 1)).map (fun i => D.ref (ah.length + i)) = D.ref ah.length :: (List.range xs.length).map fun i => D.ref ((ah ++ [o x]).length + i) := by
      rw [List.range_succ_eq_map, List.map_cons, List.map_map]
      congr 1
      refine List.map_congr_left fun i _ => ?_
      simp only [Function.comp, List.length_append, List.length_cons, List.length_nil]
      congr 1
      omega
    rw [List.length_cons, e1]
    simp
end DL
namespace DL
open PySem PySem.Spec PyProof.Rows L2
/-- a loop each of whose turns appends to a list -/
theorem forL_app {α : Type} {g : D → AE → Option AE} {body : FS} {St : List D → AE → AH → Prop} {e : α → D} {Y : α → List D} {N : Nat} : ∀ {xs : List α} {X : List D} {env : AE} {a : AH}, X.length + (xs.flatMap Y).length ≤ N →
    (∀ x ∈ xs, ∀ X env a, X.length + (Y x).length ≤ N → St X env a → ∃ env1 env2 a2, g (e x) env = some env1 ∧ body env1 a = .ok (.nx, env2) a2 ∧ St (X ++ Y x) env2 a2) → St X env a →
    ∃ env' a', forL g body (xs.map e) env a = .ok (.nx, env') a' ∧ St (X ++ xs.flatMap Y) env' a'
  | [], X, env, a, _, _, h0 => ⟨env, a, rfl, by simpa using h0⟩
  | x :: xs, X, env, a, hz, h, h0 => by
    rw [List.flatMap_cons, List.length_append] at hz
    obtain ⟨env1, env2, a2, h1, h2, h3⟩ := h x List.mem_cons_self X env a (by omega) h0
    obtain ⟨env', a', h4, h5⟩ := forL_app (xs := xs) (X := X ++ Y x) (by rw [List.length_append]; omega) (fun y hy => h y (List.mem_cons_of_mem _ hy)) h3
    refine ⟨env', a', ?_, by rw [List.flatMap_cons, ← List.append_assoc]; exact h5⟩
    simp only [List.map_cons, forL, h1, h2, Res.bind_ok]
    exact h4
/-- a loop that changes nothing but its own names -/
theorem forL_same {α : Type} {g : D → AE → Option AE} {body : FS} {St : AE → Prop} {e : α → D} {a : AH} : ∀ {xs : List α} {env : AE}, St env → (∀ x ∈ xs, ∀ env, St env → ∃ env1 env2, g (e x) env = some env1 ∧ body env1 a = .ok (.nx, env2) a ∧ St env2) →
    ∃ env', forL g body (xs.map e) env a = .ok (.nx, env') a ∧ St env'
  | [], env, h0, _ => ⟨env, rfl, h0⟩
  | x :: xs, env, h0, h => by
    obtain ⟨env1, env2, h1, h2, h3⟩ := h x List.mem_cons_self env h0
    obtain ⟨env', h4, h5⟩ := forL_same (xs := xs) h3 fun y hy => h y (List.mem_cons_of_mem _ hy)
    refine ⟨env', ?_, h5⟩
    simp only [List.map_cons, forL, h1, h2, Res.bind_ok]
    exact h4
theorem eNe_dat {x y : D} {p q : PyData} {ah : AH} (h0 : scalD x y = none) (h1 : toPy x = some p) (h2 : toPy y = some q) (s1 : SeqAt.shaped p = true) (s2 : SeqAt.shaped q = true) : oNe x y ah = .ok (.bl (!PyData.eqv p q)) ah := by
  unfold oNe eqD
  simp only [h0, h1, h2, s1, s2, and_self, if_true]
theorem eLstRg {r : FRg} {env : AE} {ah a1 : AH} {i j : Int} (h1 : r env ah = .ok (i, j) a1) (h2 : rgOk i j = true) : iLstRg r env ah = .ok (.lst (rgD i j)) a1 := by
  unfold iLstRg
  rw [h1, Res.bind_ok]
  simp only
  rw [if_pos h2]
theorem eRgg {f g : FE} {env : AE} {ah a1 a2 : AH} {i j : Int} (h1 : f env ah = .ok (.int i) a1) (h2 : g env a1 = .ok (.int j) a2) : iRg2 f g env ah = .ok (i, j) a2 := by
  unfold iRg2
  rw [h1, Res.bind_ok, h2, Res.bind_ok]
end DL
namespace DL
open PySem PySem.Spec PyProof.Rows L2
theorem tup_once (l : Addr) (items : Array Value) (n : Nat) (dd : Option Addr) (sl : Array (Option Value)) (u : Tok) :
    Meets (Builtin.«tuple.__mul__» ⟨[.ref l, .int 1 u], []⟩) (fun _ R s => s.heap.get? l = some { cls := .type "tuple", dict := dd, data := .seq items n, slots := sl } ∧ R (.ok (.ret (.ref l))) s) :=
  .of_wp fun prog w A R s h => by
    obtain ⟨hp, g, d, tk, os⟩ := s
    obtain ⟨hl, h⟩ := h
    have f1 := AutoSeq1.idx_int
    have c1 : (items.isEmpty || ((1 : Int) == 1)) = true := by rw [show ((1 : Int) == 1) = true from rfl, Bool.or_true]
    wp_walk using wpAny_loadPart' hl
    repeat (first
      | (refine wpAny_ite_false (decide_eq_false (by decide)) ?_; wp_walk using wpAny_loadPart' hl)
      | (refine wpAny_ite_true (decide_eq_true c1) ?_; wp_walk using wpAny_loadPart' hl))
    exact ⟨_, rfl, h⟩
theorem tup_never (l : Addr) (items : Array Value) (n : Nat) (dd : Option Addr) (sl : Array (Option Value)) (u : Tok) (c1 : (items.isEmpty || ((0 : Int) == 1)) = false) (c2 : (decide ((0 : Int) ≤ 0) || items.isEmpty) = true) :
    Meets (Builtin.«tuple.__mul__» ⟨[.ref l, .int 0 u], []⟩) (fun _ R s => s.heap.get? l = some { cls := .type "tuple", dict := dd, data := .seq items n, slots := sl } ∧
      R (.ok (.ret (Value.ref s.heap.objs.size))) { s with heap := s.heap.push { cls := Value.type "tuple", data := Data.seq #[] }, toks := s.toks }) :=
  .of_wp fun prog w A R s h => by
    obtain ⟨hp, g, d, tk, os⟩ := s
    obtain ⟨hl, h⟩ := h
    have f1 := AutoSeq1.idx_int
    have hsz : (#[] : Array Value).size ≤ sizeLine := Nat.zero_le _
    wp_walk using wpAny_loadPart' hl
    repeat (first
      | (refine wpAny_ite_false (decide_eq_false (by decide)) ?_; wp_walk using wpAny_loadPart' hl)
      | (refine wpAny_ite_false (decide_eq_false (by rw [c1]; exact Bool.false_ne_true)) ?_; wp_walk using wpAny_loadPart' hl)
      | (refine wpAny_ite_true (decide_eq_true c2) ?_; wp_walk using wpAny_loadPart' hl)
      | (refine wpAny_ite_false (decide_eq_false (Nat.not_lt.mpr hsz)) ?_; wp_walk using wpAny_loadPart' hl))
    exact ⟨_, rfl, h⟩
def rRep01 (K : PySem.W.Frag) : R2 := fun x y H Q => ∃ l k xs, x = .ref l ∧ y = .int k ∧ SqT K H l xs ∧ ((k = 1 ∧ Q (.ref l) H) ∨ (k = 0 ∧ xs ≠ [] ∧ ∀ p, H p = none → Q (.ref p) (upd H p (.tup []))))
section
variable {X : Cx} {W : XW}
theorem op_rep01 : OpR X (binaryOp .Mult) (rRep01 X.K) := by
  intro pnz s σ H x y v u Q I rx ry h
  obtain ⟨l, k, xs, rfl, rfl, hT, h⟩ := h
  cases rx
  obtain ⟨t, rfl⟩ := ry
  obtain ⟨its, r, ⟨⟨cls, dd, data, sl⟩, ho, hc, n, hd⟩, hz⟩ := I.tuple hT
  simp only at hc hd
  subst hc hd
  rcases h with ⟨rfl, q⟩ | ⟨rfl, ne, q⟩
  · refine wpAny_binaryOp_repeat_ref (T := "tuple") (U := "int") (by decide) ⟨_, ho, rfl⟩ (fun z => typeIs_int z 1 t) noFill_tuple_mul F.fills_int_mul F.slot_int_rmul repeat_tuple F.slot_int_index.lookup
      (call_meets F.slot_int_rmul (typeIs_int s 1 t) F.entry_int_rmul (F.args_int_rmul_2 _ _) (int_rmul_tuple 1 t l its.toArray n dd sl)
        ⟨ho, rfl, ⟨_, ho, rfl⟩, call_meets F.slot_tuple_mul ⟨_, ho, rfl⟩ F.entry_tuple_mul (F.args_tuple_mul_2 _ _) (tup_once l its.toArray n dd sl t) ⟨ho, ?_⟩⟩)
    exact ⟨.ref l, H, I, rfl, q⟩
  · have hi : its.toArray.isEmpty = false := by
      cases its with
      | nil => cases r; exact absurd rfl ne
      | cons _ _ => rfl
    refine wpAny_binaryOp_repeat_ref (T := "tuple") (U := "int") (by decide) ⟨_, ho, rfl⟩ (fun z => typeIs_int z 0 t) noFill_tuple_mul F.fills_int_mul F.slot_int_rmul repeat_tuple F.slot_int_index.lookup
      (call_meets F.slot_int_rmul (typeIs_int s 0 t) F.entry_int_rmul (F.args_int_rmul_2 _ _) (int_rmul_tuple 0 t l its.toArray n dd sl)
        ⟨ho, rfl, ⟨_, ho, rfl⟩, call_meets F.slot_tuple_mul ⟨_, ho, rfl⟩ F.entry_tuple_mul (F.args_tuple_mul_2 _ _) (tup_never l its.toArray n dd sl t (by rw [hi]; rfl) (by rw [hi]; rfl)) ⟨ho, ?_⟩⟩)
    exact ⟨.ref s.heap.objs.size, _, I.laid (t' := s.toks) (o := .tup []) (fun b ob z => Heap.get?_push_of_some _ z) (Nat.le_refl _) ⟨Nat.zero_le _, _, .nil, IsTup.new _ _⟩, rfl, q _ (I.hok.fresh (Nat.le_refl _))⟩
/-- x * y, tuples however often -/
def oMulT (x y : D) (ah : AH) : Res D := match y with
  | .int k => match seqD ah x with
    | some (true, xs) => if k = 1 then .ok x ah else if xs ≠ [] ∧ k = 0 then .ok (.tup []) ah else oMul x y ah
    | _ => oMul x y ah
  | _ => oMul x y ah
def rMulT (K : PySem.W.Frag) : R2 := fun x y H Q => rRep01 K x y H Q ∨ rMulA K x y H Q
theorem op_mulT : OpR X (binaryOp .Mult) (rMulT X.K) := op_rep01.or op_mulA
end
section
variable {G : KW} {W : XW}
theorem ok_mulT : OpOk G W (rMulT G.K) oMulT := by
  intro η H ah x y v u Q p rx ry h
  unfold oMulT at h
  split at h
  · rename_i k
    split at h
    · rename_i xs e1
      split at h
      · rename_i hk
        subst hk
        have rx' := rx
        obtain ⟨a, vs, rfl, r1, q1, _⟩ := seq_rel p rx e1
        cases ry
        exact .inl ⟨a, 1, vs, rfl, rfl, q1 rfl, .inl ⟨rfl, post_val p rx' h⟩⟩
      · split at h
        · rename_i hk
          obtain ⟨ne, rfl⟩ := hk
          obtain ⟨a, vs, rfl, r1, q1, _⟩ := seq_rel p rx e1
          cases ry
          exact .inl ⟨a, 0, vs, rfl, rfl, q1 rfl, .inr ⟨rfl, fun z => ne ((nil_rel r1).mpr z), fun q hq => post_tup p .nil h hq⟩⟩
        · exact .inr (ok_mul η H ah x _ v u Q p rx ry h)
    · exact .inr (ok_mul η H ah x _ v u Q p rx ry h)
  · exact .inr (ok_mul η H ah x _ v u Q p rx ry h)
def oDivmod (ds : List D) (ah : AH) : Res D := match ds with
  | [.int i, .int j] => if CDiv i j then .ok (.tup [.int (i / j), .int (i % j)]) ah else .bad
  | _ => .bad
theorem ok_divmod : CaOk G W (fun xs H Q => ∃ i j, xs = [.int i, .int j] ∧ CDiv i j ∧ ∀ p, H p = none → Q (.ref p) (upd H p (.tup [.int (i / j), .int (i % j)]))) oDivmod := by
  intro η H ah ds vs Q p r h
  unfold oDivmod at h
  split at h
  · rename_i i j
    split at h
    · rename_i c
      cases r with
      | cons r1 r =>
        cases r1
        cases r with
        | cons r1 r =>
          cases r1
          cases r
          exact ⟨i, j, rfl, c, fun q hq => post_tup p (.cons (.int _) (.cons (.int _) .nil)) h hq⟩
    · exact h.elim
  · exact h.elim
def oSortedR := oL1 intsD fun ns => some (.lst ((ns.mergeSort (fun a b => decide (b ≤ a))).map D.int))
theorem sort_down {ns ms : List Int} (h1 : ms.Perm ns) (h2 : ms.Pairwise (· ≥ ·)) : ms = ns.mergeSort fun a b => decide (b ≤ a) := by
  refine List.Perm.eq_of_pairwise (le := fun a b : Int => b ≤ a) (fun a b _ _ x y => Int.le_antisymm y x) h2 ?_ (h1.trans (List.mergeSort_perm _ _).symm)
  have := List.pairwise_mergeSort (le := fun a b : Int => decide (b ≤ a)) (fun a b c h k => by simp at *; omega) (fun a b => by simp; omega) ns
  exact this.imp fun h => of_decide_eq_true h
theorem ok_sortedR : CaOk G W (fun vs H Q => rSortedKw G.K true [.bl true] vs [.bl true] H Q) oSortedR := ok_L1 fun η H ah a us xs ns d Q p r q e1 e2 h => by
  cases e2
  obtain rfl := ints_rel r e1
  refine ⟨a, ns, rfl, rfl, q, fun ms l h1 h2 hl => ?_⟩
  rw [sort_down h1 h2]
  exact post_fz p (RelAll.ints _) h hl
end
section
variable {X : Cx} {W : XW} {e : Expr} {f : FE} {p pos : Pos}
theorem j_sortedR {k1 : Nat} {p1 p2 : Pos} (hg : Gl X "sorted") (hm : X.mg "sorted" = none) (he : PE X e (SX X W f))
    (h1 : backTo pos (starEach [e] X.env) = (false, eval e X.env) :: backTo pos (starEach [] X.env) := by rfl) (h2 : (backTo pos (starEach [e] X.env)).any (·.1) = false := by rfl) (h3 : starEach [e] X.env = (false, eval e X.env) :: starEach [] X.env := by rfl) :
    PE X (.Call (.Name "sorted" p) [e] [⟨some "reverse", .Constant (.bool true) k1 p1, p2⟩] pos) (SX X W (iCall oSortedR [f])) := by
  refine PE.imp (pe_fz (pe_callBK (ks := [Str.ofString "reverse"]) (cr_sortedRev (b := true)) hg hm boot_sorted (a_cons he a_nil h3) (pk_cons pe_bl pk_nil) (by decide) (by decide) h1 h2)) fun S H Q ⟨env, ah, η, en, pk, h⟩ => ?_
  exact ⟨env, ah, η, en, pk, h.bind.imp0 fun ds η1 H1 ah1 m1 p1 q1 => fun vs rs => ok_sortedR η1 H1 ah1 ds vs Q p1 rs q1⟩
end
section
variable {X : Cx} {W : XW} {tg : Expr} {fs : List FE} {p pos : Pos} {G : KW} {η : List Addr} {H : Hp}
theorem rangeC_len (lo c : Int) (n : Nat) : (rangeC lo c n).length = n := by simp [rangeC]
theorem it_rangeC {lo c : Int} {n : Nat} : ItOk G η H (Itc lo c n) (rangeC lo c n) where
  go := fun i d hd H' e => by
    have hi : i < n := by have := (List.getElem?_eq_some_iff.mp hd).1; rw [rangeC_len] at this; exact this
    refine ⟨hi, fun x H'' y => ?_⟩
    obtain ⟨rfl, rfl⟩ := y
    simp [rangeC, hi] at hd
    subst hd
    exact ⟨Same.refl _, .int _⟩
  stop := fun i hi H' e => by rw [rangeC_len] at hi; exact hi
/-- how many there are, where the model's own bounds hold -/
def rg3B (i j c : Int) : Bool := decide (c ≠ 0) && (decide (c.natAbs < 1073741824) && Builtin.Range.small i j c)
def rg3N (i j c : Int) : Nat := (Builtin.Range.rangeSize i j c).toNat
def iRange3 (fs : List FE) : FI := fun env ah => (iArgs fs env ah).bind fun ds ah1 => match ds with
  | [.int i, .int j, .int c] => if rg3B i j c = true ∧ Builtin.Range.rangeSize i j c = (rg3N i j c : Nat) then .ok (rangeC i c (rg3N i j c)) ah1 else .bad
  | _ => .bad
theorem i_range3 {a b c : Expr} (hg : Gl X "range") (hm : X.mg "range" = none) (ha : PA X [a, b, c] (AX' X W fs)) (hs : starEach [a, b, c] X.env = (false, eval a X.env) :: starEach [b, c] X.env := by rfl) (hs2 : (backTo pos (starEach [b, c] X.env)).any (·.1) = false := by rfl) :
    PI X tg (.Call (.Name "range" p) [a, b, c] [] pos) (IX X W (iRange3 fs)) :=
  PI.imp (pi_range3 hg hm ha hs hs2) fun S H R ⟨env, ah, η, en, pk, h⟩ =>
  ⟨env, ah, η, en, pk, h.bind.imp0 fun ds η1 H1 ah1 m1 p1 q1 => fun vs rs => by
    split at q1
    · rename_i i j c
      split at q1
      · rename_i hc
        cases rs with
        | cons r rs =>
          cases r
          cases rs with
          | cons r rs =>
            cases r
            cases rs with
            | cons r rs =>
              cases r; cases rs
              obtain ⟨z1, z2⟩ := hc
              unfold rg3B at z1
              simp only [Bool.and_eq_true, decide_eq_true_eq] at z1
              exact ⟨i, j, c, _, rfl, ⟨z1.1, z1.2.1, z1.2.2, z2⟩, q1.at p1 _ it_rangeC⟩
      · exact q1.elim
    · exact q1.elim⟩
end
end DL
namespace DL
open PySem PySem.Spec PyProof.Rows L2
section
variable {a b : Nat} {ah a1 : AH} {env : AE}
theorem eN (n : Nat) {i : Int} (h : i = (n : Int) := by rfl) : iC (.int i) env ah = .ok (dI n) ah := by rw [h]; rfl
theorem addN : oAdd (dI a) (dI b) ah = .ok (dI (a + b)) ah := rfl
theorem subN (h : b ≤ a) : oSub (dI a) (dI b) ah = .ok (dI (a - b)) ah := by
  unfold dI
  rw [oSub_int, show ((a : Int) - (b : Int)) = ((a - b : Nat) : Int) by omega]
theorem mulN (h : a < 18446744073709551616) : oMul (dI a) (dI b) ah = .ok (dI (a * b)) ah := by
  unfold dI
  rw [oMul_int (.inl ⟨by omega, by omega⟩), Int.natCast_mul]
theorem mulNr (h : b < 18446744073709551616) : oMul (dI a) (dI b) ah = .ok (dI (a * b)) ah := by
  unfold dI
  rw [oMul_int (.inr ⟨by omega, by omega⟩), Int.natCast_mul]
theorem divN (h : 0 < b) (k : b < 1073741824) : oDiv (dI a) (dI b) ah = .ok (dI (a / b)) ah := by
  unfold dI
  rw [oDiv_int ⟨by omega, by omega⟩]
  rfl
theorem modN (h : 0 < b) : oMod (dI a) (dI b) ah = .ok (dI (a % b)) ah := by
  unfold dI
  rw [oMod_int (by omega)]
  rfl
theorem shlN (h : b ≤ 1000) (k : a < 1000000) : oShl (dI a) (dI b) ah = .ok (dI (a * 2 ^ b)) ah := by
  have c : CPow (a : Int) (b : Int) := ⟨by omega, by omega, by
    have : ((a : Int)).natAbs = a := by omega
    first
      | (simp only [this]; omega)
      | decide⟩
  have e : (a : Int) * 2 ^ (b : Int).toNat = ((a * 2 ^ b : Nat) : Int) := by
    rw [Int.toNat_natCast, Int.natCast_mul, Int.natCast_pow]
    rfl
  unfold oShl oI dI
  simp only [c, if_true, e]
theorem ltN : oLt (dI a) (dI b) ah = .ok (.bl (decide (a < b))) ah := by
  have e : decide ((a : Int) < (b : Int)) = decide (a < b) := by rw [decide_eq_decide]; omega
  unfold dI; rw [oLtI, e]
theorem leN : oLe (dI a) (dI b) ah = .ok (.bl (decide (a ≤ b))) ah := by
  have e : decide ((a : Int) ≤ (b : Int)) = decide (a ≤ b) := by rw [decide_eq_decide]; omega
  unfold dI; rw [oLeI, e]
theorem gtN : oGt (dI a) (dI b) ah = .ok (.bl (decide (b < a))) ah := by
  have e : decide ((b : Int) < (a : Int)) = decide (b < a) := by rw [decide_eq_decide]; omega
  unfold dI; rw [oGt_int, e]
theorem geN : oGe (dI a) (dI b) ah = .ok (.bl (decide (b ≤ a))) ah := by
  have e : decide ((b : Int) ≤ (a : Int)) = decide (b ≤ a) := by rw [decide_eq_decide]; omega
  unfold dI; rw [oGe_int, e]
theorem eqN : oEq (dI a) (dI b) ah = .ok (.bl (decide (a = b))) ah := by
  have e : decide ((a : Int) = (b : Int)) = decide (a = b) := by rw [decide_eq_decide]; omega
  show Res.ok (D.bl (decide ((a : Int) = (b : Int)))) ah = _
  rw [e]
theorem neN : oNe (dI a) (dI b) ah = .ok (.bl (!decide (a = b))) ah := by
  have e : decide ((a : Int) = (b : Int)) = decide (a = b) := by rw [decide_eq_decide]; omega
  show Res.ok (D.bl (!decide ((a : Int) = (b : Int)))) ah = _
  rw [e]
theorem eqS {x y : Str} : oEq (.str x) (.str y) ah = .ok (.bl (decide (x = y))) ah := rfl
theorem intN : oInt [dI a] ah = .ok (dI a) ah := rfl
theorem max2N : oMax2 [dI a, dI b] ah = .ok (dI (max a b)) ah := by
  show Res.ok (D.int (if (b : Int) > (a : Int) then (b : Int) else (a : Int))) ah = _
  unfold dI
  congr 2
  split <;> omega
theorem min2N : oMin2 [dI a, dI b] ah = .ok (dI (min a b)) ah := by
  show Res.ok (D.int (if (b : Int) < (a : Int) then (b : Int) else (a : Int))) ah = _
  unfold dI
  congr 2
  split <;> omega
theorem lenT {α : Type} {e : α → D} {xs : List α} : oLen [.tup (xs.map e)] ah = .ok (dI xs.length) ah := by rw [oLen_tup, List.length_map]; rfl
theorem lenL {α : Type} {e : α → D} {xs : List α} : oLen [.lst (xs.map e)] ah = .ok (dI xs.length) ah := by rw [oLen_lst, List.length_map]; rfl
theorem lenT' {xs : List D} : oLen [.tup xs] ah = .ok (dI xs.length) ah := rfl
theorem lenL' {xs : List D} : oLen [.lst xs] ah = .ok (dI xs.length) ah := rfl
theorem lenS {x : Str} (h : x.length ≤ 1048576) : oLen [.str x] ah = .ok (dI x.length) ah := by
  unfold oLen
  simp only
  rw [if_pos (small h)]
  rfl
theorem map_dI (xs : List Nat) : xs.map dI = (xs.map fun n => ((n : Nat) : Int)).map D.int := by rw [List.map_map]; rfl
theorem sum_cast (xs : List Nat) : (xs.map fun n => ((n : Nat) : Int)).sum = ((xs.sum : Nat) : Int) := by
  induction xs with
  | nil => rfl
  | cons x xs ih => rw [List.map_cons, List.sum_cons, List.sum_cons, ih]; omega
theorem sumN {xs : List Nat} : oSum [.lst (xs.map dI)] ah = .ok (dI xs.sum) ah := by
  rw [map_dI]
  unfold oSum oL1 lstD
  simp only [seqD, intsD_map, sum_cast]
  rfl
theorem maxI_cast : ∀ (x : Nat) (xs : List Nat), maxI ((x :: xs).map fun n => ((n : Nat) : Int)) = some (((xs.foldl max x : Nat) : Nat) : Int)
  | x, [] => rfl
  | x, y :: xs => by
    have h := maxI_cast y xs
    have fm : ∀ (zs : List Nat) (p q : Nat), zs.foldl max (max p q) = max p (zs.foldl max q) := fun zs => by
      induction zs with
      | nil => intro p q; rfl
      | cons z zs ih => intro p q; rw [List.foldl_cons, List.foldl_cons, Nat.max_assoc, ih]
    show (maxI ((y :: xs).map fun n => ((n : Nat) : Int))).map (max (x : Int)) = _
    rw [h, List.foldl_cons, fm]
    show some (max (x : Int) _) = _
    congr 1
    omega
def maxL : List Nat → Nat
  | [] => 0
  | x :: xs => xs.foldl max x
theorem maxN {xs : List Nat} (h : xs ≠ []) : oMax [.lst (xs.map dI)] ah = .ok (dI (maxL xs)) ah := by
  cases xs with
  | nil => exact absurd rfl h
  | cons x xs =>
    rw [map_dI]
    unfold oMax oL1 lstD
    simp only [seqD, intsD_map, maxI_cast, Option.map_some]
    rfl
theorem mapE_at {α : Type} {e : α → D} {xs : List α} {n : Nat} {x : α} (h : xs[n]? = some x) : (xs.map e)[n]? = some (e x) := by rw [List.getElem?_map, h]; rfl
theorem ixT {α : Type} {e : α → D} {xs : List α} {n : Nat} {x : α} (h : xs[n]? = some x) : oIx (.tup (xs.map e)) (dI n) ah = .ok (e x) ah := ix_tup (n := n) (mapE_at h) rfl
theorem ixL {α : Type} {e : α → D} {xs : List α} {n : Nat} {x : α} (h : xs[n]? = some x) : oIx (.lst (xs.map e)) (dI n) ah = .ok (e x) ah := ix_lst (n := n) (mapE_at h) rfl
/-- range, two bounds -/
theorem eRgN {f g : FE} {a2 : AH} {m n : Nat} (h1 : f env ah = .ok (dI m) a1) (h2 : g env a1 = .ok (dI n) a2) (k : m ≤ 1048576) (l : n ≤ 1048576) : iRange2 [f, g] env ah = .ok ((List.range (n - m)).map fun i => dI (m + i)) a2 := by
  rw [iRange2_eq, h1, Res.bind_ok, h2, Res.bind_ok]
  unfold rangeK2 dI
  have c : rgIn (m : Int) ∧ rgIn (n : Int) := by unfold rgIn; omega
  simp only [c, and_self, if_true]
  congr 1
  unfold rangeD
  rw [show ((n : Int) - (m : Int)).toNat = n - m by omega]
  rfl
theorem eRg1N {f : FE} {n : Nat} (h1 : f env ah = .ok (dI n) a1) (hn : n ≤ 4096) : iRange1 [f] env ah = .ok ((List.range n).map dI) a1 := eRg1 (n := n) h1 hn
theorem cut_to {xs : List D} {n : Nat} : cutD xs none (some (n : Int)) = xs.take n := by
  unfold cutD
  rw [show HT.sIx xs.length 0 none = 0 from rfl, HT.sIx_nat xs.length xs.length n, Nat.sub_zero, List.drop_zero]
  by_cases c : n ≤ xs.length
  · rw [Nat.min_eq_left c]
  · rw [Nat.min_eq_right (by omega), List.take_of_length_le (Nat.le_refl _), List.take_of_length_le (by omega)]
theorem cut_from {xs : List D} {n : Nat} : cutD xs (some (n : Int)) none = xs.drop n := by
  unfold cutD
  rw [HT.sIx_nat xs.length 0 n, show HT.sIx xs.length xs.length none = xs.length from rfl]
  by_cases c : n ≤ xs.length
  · rw [Nat.min_eq_left c]
    exact List.take_of_length_le (by simp)
  · rw [Nat.min_eq_right (by omega), Nat.sub_self, List.take_zero, List.drop_of_length_le (by omega)]
theorem sliceToL {xs : List D} {n : Nat} : oSl (.lst xs) none (some (n : Int)) ah = .ok (.lst (xs.take n)) ah := by
  show Res.ok (D.lst (cutD xs none (some (n : Int)))) ah = _
  rw [cut_to]
theorem sliceFromL {xs : List D} {n : Nat} : oSl (.lst xs) (some (n : Int)) none ah = .ok (.lst (xs.drop n)) ah := by
  show Res.ok (D.lst (cutD xs (some (n : Int)) none)) ah = _
  rw [cut_from]
theorem sliceToT {xs : List D} {n : Nat} : oSl (.tup xs) none (some (n : Int)) ah = .ok (.tup (xs.take n)) ah := by
  have e1 : HT.sIx xs.length xs.length (some (n : Int)) = min n xs.length := HT.sIx_nat xs.length xs.length n
  unfold oSl seqD
  simp only [e1, cut_to]
  split
  · rename_i z
    rw [List.take_of_length_le (by omega)]
  · rfl
theorem sliceFromT {xs : List D} {n : Nat} : oSl (.tup xs) (some (n : Int)) none ah = .ok (.tup (xs.drop n)) ah := by
  have e1 : HT.sIx xs.length 0 (some (n : Int)) = min n xs.length := HT.sIx_nat xs.length 0 n
  have e2 : HT.sIx xs.length xs.length none = xs.length := rfl
  unfold oSl seqD
  simp only [e1, e2, cut_from]
  split
  · rename_i z
    have : n = 0 ∨ xs = [] := by
      by_cases c : xs = []
      · exact .inr c
      · have := List.length_pos_iff.mpr c; exact .inl (by omega)
    rcases this with rfl | rfl <;> simp
  · rfl
theorem ePartN {f : FE} {n : Nat} (h1 : f env ah = .ok (dI n) a1) : iPart f env ah = .ok (some (n : Int)) a1 := ePart h1
/-- a loop over a list, by what holds ahead of each item -/
theorem forL_each {α : Type} {g : D → AE → Option AE} {body : FS} {e : α → D} {I : List α → AE → AH → Prop} : ∀ {xs : List α} {env : AE} {ah : AH}, I xs env ah →
    (∀ x xs env ah, I (x :: xs) env ah → ∃ env1 fl env2 ah2, g (e x) env = some env1 ∧ (fl = .nx ∨ fl = .ct) ∧ body env1 ah = .ok (fl, env2) ah2 ∧ I xs env2 ah2) →
    ∃ env' ah', forL g body (xs.map e) env ah = .ok (.nx, env') ah' ∧ I [] env' ah'
  | [], env, ah, h0, _ => ⟨env, ah, rfl, h0⟩
  | x :: xs, env, ah, h0, h => by
    obtain ⟨env1, fl, env2, ah2, h1, h2, h3, h4⟩ := h x xs env ah h0
    obtain ⟨env', ah', h5, h6⟩ := forL_each (xs := xs) h4 h
    refine ⟨env', ah', ?_, h6⟩
    simp only [List.map_cons, forL, h1, h3, Res.bind_ok]
    rcases h2 with rfl | rfl <;> exact h5
end
end DL
set_option maxHeartbeats 1500000
namespace DL
open PySem PySem.Spec PyProof.Rows L2
section
variable {X : Cx}
/-- a tuple of ints, as the model's items -/
theorem tupInts {pnz : List (Addr × Obj)} {σ : L2.St} {H : Hp} {s : Shared} {a : Addr} {ns : List Int} (I : Inv X pnz σ H s) (hs : SqT X.K H a (ns.map V.int)) :
    ∃ (xs : Array (Int × Tok)) (its : List Value), s.heap.IsTuple a (intItems xs) ∧ xs.toList.map (·.1) = ns ∧ IntsAre its ns ∧ s.heap.IsTuple a its.toArray ∧ its.length ≤ sizeLine := by
  obtain ⟨its, rv, p, hz⟩ := I.tuple hs
  have hi := rv.ints
  obtain ⟨xs, e⟩ := hi.allInts.items
  have hn : numsOf (intItems xs).toList = ns := by rw [← e]; exact hi.numsOf
  rw [nums_intItems] at hn
  refine ⟨xs, its, ?_, hn, hi, p, ?_⟩
  · rw [← e]; exact p
  · rw [rv.length] at hz; exact hz
def rSumT (K : PySem.W.Frag) : List V → Hp → VK → Prop := fun vs H Q => ∃ (a : Addr) (ns : List Int), vs = [V.ref a] ∧ SqT K H a (ns.map V.int) ∧ Q (.int ns.sum) H
theorem cr_sumT (hc : X.calm = true) : CallR X (.builtin "sum") (rSumT X.K) := by
  intro pnz s σ H vs us Q I r h
  obtain ⟨a, ns, rfl, hs, q⟩ := h
  rw [Vals.ref1 r]
  obtain ⟨xs, its, t1, rfl, -, -, -⟩ := tupInts I hs
  refine PySem.W.ktm_sumG (I.ok.hd hc) t1 fun h' tk t' hk => ⟨.int _, H, I.kept hk, ⟨t', ?_⟩, q⟩
  rw [preSum_eq, List.take_of_length_le (by simp)]
def rMaxT (K : PySem.W.Frag) : List V → Hp → VK → Prop := fun vs H Q => ∃ (a : Addr) (ns : List Int), vs = [V.ref a] ∧ SqT K H a (ns.map V.int) ∧ 0 < ns.length ∧ ∀ m, m ∈ ns → (∀ y, y ∈ ns → y ≤ m) → Q (.int m) H
def rMinT (K : PySem.W.Frag) : List V → Hp → VK → Prop := fun vs H Q => ∃ (a : Addr) (ns : List Int), vs = [V.ref a] ∧ SqT K H a (ns.map V.int) ∧ 0 < ns.length ∧ ∀ m, m ∈ ns → (∀ y, y ∈ ns → m ≤ y) → Q (.int m) H
theorem tup_iter {prog : Program} {w : World} {A : Around} {E Q : Value → Shared → Prop} {s : Shared} {t : Addr} {items : Array Value} (ht : s.heap.IsTuple t items)
    (h : ∀ s2 : Shared, s2 = { s with heap := s.heap.push { cls := .type "tuple_iterator", data := .fields #[.ref t, .int 0 0] } } → (s2.heap.IsTupleIter s.heap.objs.size t 0 ∧ s2.heap.IsTuple t items) → (∀ b ∈ [s.heap.objs.size, t], b < s2.heap.objs.size) → t ≠ s.heap.objs.size → Q (.ref s.heap.objs.size) s2) :
    wpAny (model prog w) A (pyIter (.ref t)) Q E s := by
  have lt : t < s.heap.objs.size := by obtain ⟨_, e, _⟩ := ht; exact Heap.lt_size e
  refine wpAny_pyIter_tuple ht (h _ rfl ⟨⟨_, Heap.get?_push_size _ rfl, rfl, rfl⟩, ht.at fun o e => Heap.get?_push_of_some _ e⟩ (fun b hb => ?_) (Nat.ne_of_lt lt))
  have sz : (s.heap.push { cls := .type "tuple_iterator", data := .fields #[.ref t, .int 0 0] }).objs.size = s.heap.objs.size + 1 := Heap.size_push _ _
  show b < (s.heap.push _).objs.size
  rw [sz]
  rcases List.mem_cons.mp hb with e | hb
  · rw [e]; exact Nat.lt_succ_self _
  · rw [List.mem_singleton.mp hb]; exact Nat.lt_succ_of_lt lt
theorem past_kept {s : Shared} {t : Addr} {h' : Heap} (hk : ∀ b o, b ∉ [s.heap.objs.size] → (s.heap.push { cls := .type "tuple_iterator", data := .fields #[.ref t, .int 0 0] }).get? b = some o → h'.get? b = some o) (b : Addr) (o : Obj) (e : s.heap.get? b = some o) : h'.get? b = some o :=
  hk b o (fun m => absurd (List.mem_singleton.mp m) (Nat.ne_of_lt (Heap.lt_size e))) (Heap.get?_push_of_some _ e)
theorem cr_maxT (hc : X.calm = true) : CallR X (.builtin "max") (rMaxT X.K) := by
  intro pnz s σ H vs us Q I r h
  obtain ⟨a, ns, rfl, hs, hne, q⟩ := h
  rw [Vals.ref1 r]
  obtain ⟨xs, its, t1, rfl, -, -, -⟩ := tupInts I hs
  have hz : 0 < xs.size := by simpa using hne
  refine call_max_walk (tup_iter t1 fun s2 e st hfp hne2 => ?_)
  subst e
  refine ⟨_, _, _, _, _, _, _, rfl, Walks.tuple (A := X.A.in1) (I.ok.hd hc) _ a hne2 (intItems xs), st, hfp, by simpa [intItems] using hz, CmpOf.ints_gt (numAt xs) (fun _ _ => intItems_at), fun v h' tk hP hk => ?_⟩
  obtain ⟨t, rfl⟩ := intItems_at (show (intItems xs)[argBest (fun i j => decide (numAt xs i > numAt xs j)) (xs.size - 1)]? = some v by simpa [intItems] using hP)
  obtain ⟨h1, h2⟩ := argBest_gt (numAt xs) (xs.size - 1)
  refine ⟨.int _, H, I.kept (past_kept hk), ⟨t, rfl⟩, q _ ?_ fun y hy => ?_⟩
  · rw [numAt_eq]; exact PySem.getD_mem (by rw [List.length_map, Array.length_toList]; omega)
  · obtain ⟨j, hj, rfl⟩ := mem_getD hy
    rw [List.length_map, Array.length_toList] at hj
    rw [← numAt_eq]; exact h2 j (by omega)
theorem cr_minT (hc : X.calm = true) : CallR X (.builtin "min") (rMinT X.K) := by
  intro pnz s σ H vs us Q I r h
  obtain ⟨a, ns, rfl, hs, hne, q⟩ := h
  rw [Vals.ref1 r]
  obtain ⟨xs, its, t1, rfl, -, -, -⟩ := tupInts I hs
  have hz : 0 < xs.size := by simpa using hne
  refine call_min_walk (tup_iter t1 fun s2 e st hfp hne2 => ?_)
  subst e
  refine ⟨_, _, _, _, _, _, _, rfl, Walks.tuple (A := X.A.in1) (I.ok.hd hc) _ a hne2 (intItems xs), st, hfp, by simpa [intItems] using hz, CmpOf.ints_lt (numAt xs) (fun _ _ => intItems_at), fun v h' tk hP hk => ?_⟩
  obtain ⟨t, rfl⟩ := intItems_at (show (intItems xs)[argBest (fun i j => decide (numAt xs i < numAt xs j)) (xs.size - 1)]? = some v by simpa [intItems] using hP)
  obtain ⟨h1, h2⟩ := argBest_lt (numAt xs) (xs.size - 1)
  refine ⟨.int _, H, I.kept (past_kept hk), ⟨t, rfl⟩, q _ ?_ fun y hy => ?_⟩
  · rw [numAt_eq]; exact PySem.getD_mem (by rw [List.length_map, Array.length_toList]; omega)
  · obtain ⟨j, hj, rfl⟩ := mem_getD hy
    rw [List.length_map, Array.length_toList] at hj
    rw [← numAt_eq]; exact h2 j (by omega)
end
section
variable {prog : Program} {w : World} {A : Around} {E : Value → Shared → Prop} {s : Shared}
/-- a tuple's items gathered: one new list -/
theorem gather_tup {Q : List Value → Shared → Prop} {t : Addr} {o : Obj} {items : Array Value} {n : Nat} (ho : s.heap.get? t = some o) (hc : o.cls = .type "tuple") (hd : o.data = .seq items n) (hz : items.size ≤ sizeLine)
    (q : Q items.toList { s with heap := (s.heap.push (seqObj "list" #[] 0)).update s.heap.objs.size (Obj.mapSeq (· ++ items)) }) : wpAny (model prog w) A (collect (.ref t)) Q E s := by
  have new : (s.heap.push (seqObj "list" #[] 0)).get? s.heap.objs.size = some (seqObj "list" #[] 0) := Heap.get?_push_size _ rfl
  have grown := get?_update_seq new (· ++ items)
  have last : wpAny (model prog w) A (do
      let o ← load s.heap.objs.size
      match o.data with
      | .seq xs _ => pure xs.toList
      | _ => unsupported "internal:collect") Q E { s with heap := (s.heap.push (seqObj "list" #[] 0)).update s.heap.objs.size (Obj.mapSeq (· ++ items)) } := by
    refine wpAny_bind (wpAny_load grown ?_)
    show wpAny _ _ (pure ((#[] : Array Value) ++ items).toList) Q E _
    rw [show ((#[] : Array Value) ++ items).toList = items.toList by simp]
    exact wpAny_pure q
  unfold collect
  refine wpAny_bind (wpAny_runValue (codeAny_builtin F.entry_proto_collect ?_))
  rw [Around.under_plainId F.plain_proto_collect _]
  refine wpAny_bind (wpAny_newObj_type (wpAny_pure ⟨plainId_quiet F.plain_list_iadd _, codeAny_builtin F.entry_list_iadd ?_⟩))
  rw [Around.under_plainId F.plain_list_iadd _]
  refine wpAny_mono (wpAny_extend_seq (hsz := hz) (A := A) (R := fun r z => r = .ok (.ret (.ref s.heap.objs.size)) ∧ z = { s with heap := (s.heap.push (seqObj "list" #[] 0)).update s.heap.objs.size (Obj.mapSeq (· ++ items)) })
    (s := { s with heap := s.heap.push (seqObj "list" #[] 0) }) _ t _ 0 (.inr rfl) new (Heap.get?_push_of_some _ ho) hc hd ⟨rfl, rfl⟩) (fun fin z h => ?_) (fun e z h => ?_)
  · cases fin with
    | done f =>
      obtain ⟨e, rfl⟩ := h
      cases e
      exact last
    | again c => exact ⟨h.1, codeAny_mono h.2 fun r z hr => by obtain ⟨rfl, rfl⟩ := hr; exact last⟩
  · exact absurd h.1 (by simp)
end
section
variable {X : Cx}
/-- sorted of a tuple -/
theorem sorted_tup {b : Bool} {kw : List (Str × Value)} {pnz : List (Addr × Obj)} {s : Shared} {σ : L2.St} {H : Hp} {a : Addr} {ns : List Int} {Q : VK} (I : Inv X pnz σ H s) (hs : SqT X.K H a (ns.map V.int))
    (hk : ∀ a, Builtin.«list.sort» ⟨[.ref a], kw⟩ = Builtin.«list.sort» ⟨[.ref a], [(Str.ofString "reverse", .bool b)]⟩) (ha1 : argsOk "sorted" ⟨[.ref a], kw⟩) (ha2 : ∀ a, argsOk "list.sort" ⟨[a], kw⟩)
    (q : ∀ (ms : List Int) (p : Addr), ms.Perm ns → OrdB b ms → H p = none → Q (.ref p) (upd H p (.lst (ms.map V.int)))) : wpAny (model X.prog X.w) X.A (call (.builtin "sorted") [.ref a] kw) (EP X pnz σ Q) X.xe s := by
  obtain ⟨xs, its, -, -, hi, ⟨o, ho, hc, n, hd⟩, hz⟩ := tupInts I hs
  refine call_function_entry_kw kind_sorted plain_sorted entry_sorted ha1 ?_
  unfold Builtin.«sorted»
  refine wpAny_bind (m := checkCount "sorted" 1 1 _) (wpAny_pure ?_)
  refine wpAny_bind (gather_tup ho hc hd (by rw [List.size_toArray]; exact hz) ?_)
  rw [show its.toArray.toList = its by simp]
  refine wpAny_bind (wpAny_newList ?_ hz)
  have sz1 : ((s.heap.push (seqObj "list" #[] 0)).update s.heap.objs.size (Obj.mapSeq (· ++ its.toArray))).objs.size = s.heap.objs.size + 1 := by rw [Heap.size_update, size_push']
  have at1 : (((s.heap.push (seqObj "list" #[] 0)).update s.heap.objs.size (Obj.mapSeq (· ++ its.toArray))).push (seqObj "list" its.toArray 0)).get? (s.heap.objs.size + 1) = some (seqObj "list" its.toArray 0) := by
    rw [← sz1]
    exact Heap.get?_push_size _ rfl
  show wpAny _ _ _ _ _ { s with heap := ((s.heap.push (seqObj "list" #[] 0)).update s.heap.objs.size (Obj.mapSeq (· ++ its.toArray))).push (seqObj "list" its.toArray 0) }
  rw [sz1]
  refine wpAny_bind (wpAny_holding (wpAny_call_entry_kw slot_list_sort ⟨_, at1, rfl⟩ entry_list_sort ?_ (ha2 _)))
  rw [hk]
  refine SrtR.list_sort_ordR SrtO.swo_int at1 hz (fun h2 => SrtO.ints_sortable hi h2) fun out o1 o2 => ⟨_, rfl, wpAny_pure ⟨_, rfl, ?_⟩⟩
  obtain ⟨ms, k1, k2, k3⟩ := SrtR.ints_outR hi o1 o2
  obtain ⟨ep, at2⟩ := PyProof.Rows.sortedAll_at s.heap its (if b = true then out.toArray.reverse else out.toArray)
  have lm : (ms.map V.int).length ≤ sizeLine := by
    rw [List.length_map, k2.length_eq, ← hi.length]
    exact hz
  have back : ((if b = true then out.toArray.reverse else out.toArray).toList).toArray = (if b = true then out.toArray.reverse else out.toArray) := by rw [Array.toArray_toList]
  exact ⟨.ref _, upd H (s.heap.objs.size + 1) (.lst (ms.map V.int)), I.laid (t' := s.toks) (fun _ _ => PyProof.Rows.sortedAll_old) (Nat.le_succ _) ⟨lm, _, ep, vals_of_ints k1, by rw [back]; exact at2⟩, rfl, q _ _ k2 k3 (I.hok.fresh (Nat.le_succ _))⟩
theorem cr_sortT1 : CallR X (.builtin "sorted") (fun vs H Q => ∃ (a : Addr) (ns : List Int), vs = [V.ref a] ∧ SqT X.K H a (ns.map V.int) ∧ ∀ (ms : List Int) (p : Addr), ms.Perm ns → OrdB false ms → H p = none → Q (.ref p) (upd H p (.lst (ms.map V.int)))) := by
  intro pnz s σ H vs us Q I r h
  obtain ⟨a, ns, rfl, hs, q⟩ := h
  rw [Vals.ref1 r]
  exact sorted_tup (b := false) (kw := []) I hs (fun a => by rw [list_sort_rev]; first | rfl | kernel_rfl) (args_sorted1 _) (fun a => by first | exact args_list_sort1 _ | decide +kernel | rfl) q
theorem cr_sortT2 {b : Bool} : CallRK X (.builtin "sorted") [Str.ofString "reverse"] (fun vs zs H Q => ∃ (a : Addr) (ns : List Int), vs = [V.ref a] ∧ zs = [.bl b] ∧ SqT X.K H a (ns.map V.int) ∧ ∀ (ms : List Int) (p : Addr), ms.Perm ns → OrdB b ms → H p = none → Q (.ref p) (upd H p (.lst (ms.map V.int)))) := by
  intro pnz s σ H vs zs us ws Q I r rz h
  obtain ⟨a, ns, rfl, rfl, hs, q⟩ := h
  rw [Vals.ref1 r]
  obtain ⟨w1, rfl, e1⟩ := vals1 rz
  obtain rfl : w1 = Value.bool b := e1
  exact sorted_tup I hs (fun _ => rfl) (PyProof.Rows.args_sorted_rev _ _) (fun _ => PyProof.Rows.args_list_sort_rev _ _) q
end
def oT1 {α : Type} (g : List D → Option α) (k : α → Option D) (ds : List D) (ah : AH) : Res D := match ds with
  | [d] => match seqD ah d with
    | some (true, xs) => match g xs with
      | some a => match k a with
        | some r => .ok r ah
        | none => .bad
      | none => .bad
    | _ => oL1 g k ds ah
  | _ => .bad
section
variable {G : KW} {W : XW}
theorem ok_T1 {α : Type} {g : List D → Option α} {k : α → Option D} {r r2 : List V → Hp → VK → Prop} (h0 : CaOk G W r (oL1 g k)) (hr : ∀ (η : List Addr) (H : Hp) (ah : AH) (a : Addr) (us : List V) (xs : List D) (x : α) (d : D) (Q : VK), HpOk G η H ah → RelAll G η H xs us → SqT G.K H a us → g xs = some x → k x = some d →
    Post G W η H (.ok d ah) (QV G Q) → r2 [.ref a] H (QF Q)) : CaOk G W (fun vs H Q => r vs H Q ∨ r2 vs H Q) (oT1 g k) := by
  intro η H ah ds vs Q p rr h
  unfold oT1 at h
  split at h
  · split at h
    · rename_i xs e1
      obtain ⟨v, rfl, rx⟩ := relL1 rr
      obtain ⟨a, us, rfl, r1, q1, _⟩ := seq_rel p rx e1
      split at h
      · split at h
        · exact .inr (hr η H ah a us xs _ _ Q p r1 (q1 rfl) (by assumption) (by assumption) h)
        · exact h.elim
      · exact h.elim
    · exact .inl (h0 η H ah _ vs Q p rr h)
  · exact h.elim
def oSumT := oT1 intsD fun ns => some (.int ns.sum)
def oMaxT := oT1 intsD fun ns => (maxI ns).map D.int
def oMinT := oT1 intsD fun ns => (minI ns).map D.int
def oSortedT := oT1 intsD fun ns => some (.lst ((ns.mergeSort (fun a b => decide (a ≤ b))).map D.int))
def oSortedRT := oT1 intsD fun ns => some (.lst ((ns.mergeSort (fun a b => decide (b ≤ a))).map D.int))
theorem ok_sumT : CaOk G W (fun vs H Q => rSum G.K vs H Q ∨ rSumT G.K vs H Q) oSumT := ok_T1 ok_sum fun η H ah a us xs ns d Q p r q e1 e2 h => by
  cases e2
  obtain rfl := ints_rel r e1
  exact ⟨a, ns, rfl, q, post_val p (.int _) h⟩
theorem ok_maxT : CaOk G W (fun vs H Q => rMax G.K vs H Q ∨ rMaxT G.K vs H Q) oMaxT := ok_T1 ok_max fun η H ah a us xs ns d Q p r q e1 e2 h => by
  obtain ⟨m, e3, rfl⟩ := Option.map_eq_some_iff.mp e2
  obtain rfl := ints_rel r e1
  obtain ⟨h1, h2⟩ := maxI_eq e3
  refine ⟨a, ns, rfl, q, List.length_pos_of_mem h1, fun m' hm hy => ?_⟩
  have := h2 m' hm; have := hy m h1
  obtain rfl : m' = m := by omega
  exact post_val p (.int _) h
theorem ok_minT : CaOk G W (fun vs H Q => rMin G.K vs H Q ∨ rMinT G.K vs H Q) oMinT := ok_T1 ok_min fun η H ah a us xs ns d Q p r q e1 e2 h => by
  obtain ⟨m, e3, rfl⟩ := Option.map_eq_some_iff.mp e2
  obtain rfl := ints_rel r e1
  obtain ⟨h1, h2⟩ := minI_eq e3
  refine ⟨a, ns, rfl, q, List.length_pos_of_mem h1, fun m' hm hy => ?_⟩
  have := h2 m' hm; have := hy m h1
  obtain rfl : m' = m := by omega
  exact post_val p (.int _) h
theorem ok_sortedT : CaOk G W (fun vs H Q => rSortedI G.K vs H Q ∨ ∃ (a : Addr) (ns : List Int), vs = [V.ref a] ∧ SqT G.K H a (ns.map V.int) ∧ ∀ (ms : List Int) (p : Addr), ms.Perm ns → OrdB false ms → H p = none → Q (.ref p) (upd H p (.lst (ms.map V.int)))) oSortedT := ok_T1 ok_sorted fun η H ah a us xs ns d Q p r q e1 e2 h => by
  cases e2
  obtain rfl := ints_rel r e1
  refine ⟨a, ns, rfl, q, fun ms l h1 h2 hl => ?_⟩
  rw [sorted_one h1 h2]
  exact post_fz p (RelAll.ints _) h hl
theorem ok_sortedRT : CaOk G W (fun vs H Q => rSortedKw G.K true [.bl true] vs [.bl true] H Q ∨ ∃ (a : Addr) (ns : List Int), vs = [V.ref a] ∧ SqT G.K H a (ns.map V.int) ∧ ∀ (ms : List Int) (p : Addr), ms.Perm ns → OrdB true ms → H p = none → Q (.ref p) (upd H p (.lst (ms.map V.int)))) oSortedRT := ok_T1 ok_sortedR fun η H ah a us xs ns d Q p r q e1 e2 h => by
  cases e2
  obtain rfl := ints_rel r e1
  refine ⟨a, ns, rfl, q, fun ms l h1 h2 hl => ?_⟩
  rw [sort_down h1 h2]
  exact post_fz p (RelAll.ints _) h hl
end
section
variable {X : Cx} {W : XW} {e : Expr} {f : FE} {p pos : Pos}
theorem crOr {f : Value} {r r2 : List V → Hp → VK → Prop} (h1 : CallR X f r) (h2 : CallR X f r2) : CallR X f (fun vs H Q => r vs H Q ∨ r2 vs H Q) := by
  intro pnz s σ H vs us Q I rr h
  rcases h with h | h
  · exact h1 pnz s σ H vs us Q I rr h
  · exact h2 pnz s σ H vs us Q I rr h
theorem cr_sumA (hc : X.calm = true) : CallR X (.builtin "sum") (fun vs H Q => rSum X.K vs H Q ∨ rSumT X.K vs H Q) := crOr (cr_sum hc) (cr_sumT hc)
theorem cr_maxA (hc : X.calm = true) : CallR X (.builtin "max") (fun vs H Q => rMax X.K vs H Q ∨ rMaxT X.K vs H Q) := crOr (cr_max hc) (cr_maxT hc)
theorem cr_minA (hc : X.calm = true) : CallR X (.builtin "min") (fun vs H Q => rMin X.K vs H Q ∨ rMinT X.K vs H Q) := crOr (cr_min hc) (cr_minT hc)
theorem cr_sortedA : CallR X (.builtin "sorted") (fun vs H Q => rSortedI X.K vs H Q ∨ ∃ (a : Addr) (ns : List Int), vs = [V.ref a] ∧ SqT X.K H a (ns.map V.int) ∧ ∀ (ms : List Int) (p : Addr), ms.Perm ns → OrdB false ms → H p = none → Q (.ref p) (upd H p (.lst (ms.map V.int)))) := crOr cr_sortedI cr_sortT1
theorem j_sortedRT {k1 : Nat} {p1 p2 : Pos} (hg : Gl X "sorted") (hm : X.mg "sorted" = none) (he : PE X e (SX X W f))
    (h1 : backTo pos (starEach [e] X.env) = (false, eval e X.env) :: backTo pos (starEach [] X.env) := by rfl) (h2 : (backTo pos (starEach [e] X.env)).any (·.1) = false := by rfl) (h3 : starEach [e] X.env = (false, eval e X.env) :: starEach [] X.env := by rfl) :
    PE X (.Call (.Name "sorted" p) [e] [⟨some "reverse", .Constant (.bool true) k1 p1, p2⟩] pos) (SX X W (iCall oSortedRT [f])) := by
  have both : CallRK X (.builtin "sorted") [Str.ofString "reverse"] (fun vs zs H Q => rSortedKw X.K true [.bl true] vs zs H Q ∨ ∃ (a : Addr) (ns : List Int), vs = [V.ref a] ∧ zs = [.bl true] ∧ SqT X.K H a (ns.map V.int) ∧ ∀ (ms : List Int) (p : Addr), ms.Perm ns → OrdB true ms → H p = none → Q (.ref p) (upd H p (.lst (ms.map V.int)))) := by
    intro pnz s σ H vs zs us ws Q I r rz h
    rcases h with h | h
    · exact cr_sortedRev (b := true) pnz s σ H vs zs us ws Q I r rz h
    · exact cr_sortT2 (b := true) pnz s σ H vs zs us ws Q I r rz h
  refine PE.imp (pe_fz (pe_callBK (ks := [Str.ofString "reverse"]) both hg hm boot_sorted (a_cons he a_nil h3) (pk_cons pe_bl pk_nil) (by decide) (by decide) h1 h2)) fun S H Q ⟨env, ah, η, en, pk, h⟩ => ?_
  exact ⟨env, ah, η, en, pk, h.bind.imp0 fun ds η1 H1 ah1 m1 p1 q1 => fun vs rs => (ok_sortedRT η1 H1 ah1 ds vs Q p1 rs q1).imp id fun ⟨a, ns, z1, z2, z3⟩ => ⟨a, ns, z1, rfl, z2, z3⟩⟩
end
section
variable {ah : AH} {xs : List Nat}
theorem sumTT : oSumT [.tup (xs.map dI)] ah = .ok (dI xs.sum) ah := by
  rw [map_dI]
  unfold oSumT oT1
  simp only [seqD, intsD_map, sum_cast]
  rfl
theorem minI_cast : ∀ (x : Nat) (xs : List Nat), minI ((x :: xs).map fun n => ((n : Nat) : Int)) = some (((xs.foldl min x : Nat) : Nat) : Int)
  | x, [] => rfl
  | x, y :: xs => by
    have h := minI_cast y xs
    have fm : ∀ (zs : List Nat) (p q : Nat), zs.foldl min (min p q) = min p (zs.foldl min q) := fun zs => by
      induction zs with
      | nil => intro p q; rfl
      | cons z zs ih => intro p q; rw [List.foldl_cons, List.foldl_cons, Nat.min_assoc, ih]
    show (minI ((y :: xs).map fun n => ((n : Nat) : Int))).map (min (x : Int)) = _
    rw [h, List.foldl_cons, fm]
    show some (min (x : Int) _) = _
    congr 1
    omega
def minL : List Nat → Nat
  | [] => 0
  | x :: xs => xs.foldl min x
theorem maxTT (h : xs ≠ []) : oMaxT [.tup (xs.map dI)] ah = .ok (dI (maxL xs)) ah := by
  cases xs with
  | nil => exact absurd rfl h
  | cons x xs =>
    rw [map_dI]
    unfold oMaxT oT1
    simp only [seqD, intsD_map, maxI_cast, Option.map_some]
    rfl
theorem minTT (h : xs ≠ []) : oMinT [.tup (xs.map dI)] ah = .ok (dI (minL xs)) ah := by
  cases xs with
  | nil => exact absurd rfl h
  | cons x xs =>
    rw [map_dI]
    unfold oMinT oT1
    simp only [seqD, intsD_map, minI_cast, Option.map_some]
    rfl
theorem sortRTT (h : xs.Pairwise (· ≥ ·)) : oSortedRT [.tup (xs.map dI)] ah = .ok (.lst (xs.map dI)) ah := by
  have e := sort_down (ns := xs.map fun n => ((n : Nat) : Int)) (ms := xs.map fun n => ((n : Nat) : Int)) (List.Perm.refl _) (List.pairwise_map.mpr (h.imp fun k => by omega))
  rw [map_dI]
  unfold oSortedRT oT1
  simp only [seqD, intsD_map]
  rw [← e]
theorem sortTT (h : xs.Pairwise (· ≤ ·)) : oSortedT [.tup (xs.map dI)] ah = .ok (.lst (xs.map dI)) ah := by
  have e := sorted_one (ns := xs.map fun n => ((n : Nat) : Int)) (ms := xs.map fun n => ((n : Nat) : Int)) (List.Perm.refl _) (List.pairwise_map.mpr (h.imp fun k => by omega))
  rw [map_dI]
  unfold oSortedT oT1
  simp only [seqD, intsD_map]
  rw [← e]
theorem divmodN {a b : Nat} (h : 0 < b) (k : b < 1073741824) : oDivmod [dI a, dI b] ah = .ok (.tup [dI (a / b), dI (a % b)]) ah := by
  have c : CDiv (a : Int) (b : Int) := ⟨by omega, by omega⟩
  unfold oDivmod dI
  simp only [c, if_true]
  rfl
theorem mulT1 {d : D} {r : Nat} (h : r ≤ 1000) : oMulT (.tup [d]) (dI r) ah = .ok (.tup (List.replicate r d)) ah := by
  have f : ∀ m : Nat, (List.replicate m [d]).flatten = List.replicate m d := fun m => by
    induction m with
    | zero => rfl
    | succ m ih => rw [List.replicate_succ, List.flatten_cons, ih]; rfl
  by_cases h0 : r = 0
  · subst h0; rfl
  · by_cases h1 : r = 1
    · subst h1; rfl
    · unfold oMulT dI
      simp only [seqD]
      rw [if_neg (by omega), if_neg (by simp; omega)]
      unfold oMul seqD
      simp only
      rw [if_pos ⟨by simp, by omega, by omega, by simp⟩, Int.toNat_natCast, f]
theorem shp_nats {xs : List Nat} (h : ∀ x ∈ xs, x < 1000000000000) : Shw 1 xs.length (.list (xs.map fun n : Nat => PyData.int (n : Int))) ∧ Shw 1 xs.length (.tuple (xs.map fun n : Nat => PyData.int (n : Int))) := by
  have a : ∀ x ∈ xs.map fun n : Nat => PyData.int (n : Int), Shw 0 0 x := fun x hx => by
    obtain ⟨i, hi, rfl⟩ := List.mem_map.mp hx
    exact shw_int (by have := h i hi; omega)
  have l := shw_lst a
  have t := shw_tup a
  rw [List.length_map] at l t
  simp only [Nat.zero_add, Nat.mul_one] at l t
  exact ⟨l, t⟩
theorem eqv_natI (x y : Nat) : PyData.eqv (.int (x : Int)) (.int (y : Int)) = decide (x = y) := by
  rw [eqv_intI, decide_eq_decide]
  omega
theorem py_natL (xs : List Nat) : toPy (.lst (xs.map dI)) = some (.list (xs.map fun n : Nat => PyData.int (n : Int))) := py_dL (e := dI) (p := fun n : Nat => PyData.int (n : Int)) (fun _ => rfl) xs
theorem py_natT (xs : List Nat) : toPy (.tup (xs.map dI)) = some (.tuple (xs.map fun n : Nat => PyData.int (n : Int))) := by
  unfold toPy
  simp only [py_map (e := dI) (p := fun n : Nat => PyData.int (n : Int)) (fun _ => rfl) xs]
theorem ne_natL {xs ys : List Nat} (h : ∀ x ∈ xs, x < 1000000000000) (k : ∀ y ∈ ys, y < 1000000000000) : oNe (.lst (xs.map dI)) (.lst (ys.map dI)) ah = .ok (.bl (!decide (xs = ys))) ah := by
  have := eNe_dat (ah := ah) rfl (py_natL xs) (py_natL ys) ((shp_nats h).1.shaped (by omega)) ((shp_nats k).1.shaped (by omega))
  rw [PyData.eqv, eqv_map eqv_natI] at this
  exact this
theorem eq_natL {xs ys : List Nat} (h : ∀ x ∈ xs, x < 1000000000000) (k : ∀ y ∈ ys, y < 1000000000000) : oEq (.lst (xs.map dI)) (.lst (ys.map dI)) ah = .ok (.bl (decide (xs = ys))) ah := by
  have := oEq_dat (ah := ah) rfl (py_natL xs) (py_natL ys) ((shp_nats h).1.shaped (by omega)) ((shp_nats k).1.shaped (by omega))
  rw [PyData.eqv, eqv_map eqv_natI] at this
  exact this
theorem sumTL : oSumT [.lst (xs.map dI)] ah = .ok (dI xs.sum) ah := sumN
end
end DL
set_option maxHeartbeats 1500000
namespace DL
open PySem PySem.Spec PyProof.Rows L2
def whL (t : FT) (s : FS) : Nat → AE → AH → Res (Fl × AE)
  | 0, _, _ => .bad
  | n + 1, env, ah => (t env ah).bind fun b ah1 => if b = true then (s env ah1).bind fun r ah2 => (match r with
      | (.nx, env2) => whL t s n env2 ah2
      | (.ct, env2) => whL t s n env2 ah2
      | (.bk, env2) => .ok (.nx, env2) ah2
      | (.rt d, env2) => .ok (.rt d, env2) ah2) else .ok (.nx, env) ah1
def sWhile (n : Nat) (t : FT) (s : FS) : FS := fun env ah => whL t s n env ah
section
variable {X : Cx} {W : XW} {pos : Pos}
theorem s_while {c : Expr} {body : List Stmt} {ft : FT} {fb : FS} (n : Nat) (hp : PassesOwn (model X.prog X.w) X.A X.env X.xe) (hc : PT X c (TX X W ft)) (hb : PSs X body (SSX X W fb)) : PS X (.While c body [] pos) (SSX X W (sWhile n ft fb)) := PS.imp (ps_while hp hc hb) fun Dn S H ⟨env, ah, η, en, pk, h⟩ => by
  refine ⟨fun m S' H' => ∃ env1 ah1 η1, EnvOk (gX X) η1 H' env1 S' ∧ HpOk (gX X) η1 H' ah1 ∧ Mv η H η1 H' ∧ Post (gX X) W η1 H' (whL ft fb m env1 ah1) (QS (gX X) Dn), ⟨n, env, ah, η, en, pk, Mv.refl, h⟩, ?_⟩
  rintro m S2 H2 ⟨env2, ah2, η2, en2, p2, m2, q2⟩
  cases m with
  | zero => exact q2.elim
  | succ m =>
    simp only [whL] at q2
    refine ⟨env2, ah2, η2, en2, p2, q2.bind.imp0 fun b η3 H3 ah3 m3 p3 q3 => ?_⟩
    cases b with
    | true =>
      simp only [if_true] at q3 ⊢
      refine ⟨fun S' H' => ∃ env1 ah1 η1, EnvOk (gX X) η1 H' env1 S' ∧ HpOk (gX X) η1 H' ah1 ∧ Mv η H η1 H' ∧ Post (gX X) W η1 H' (whL ft fb m env1 ah1) (QS (gX X) Dn), fun S' H' k => ⟨m, Nat.lt_succ_self m, k⟩, ?_⟩
      refine ⟨env2, ah3, η3, en2.mv m3, p3, q3.bind.imp0 fun r η4 H4 ah4 m4 p4 q4 => ?_⟩
      obtain ⟨fl, env4⟩ := r
      have m5 : Mv η H η4 H4 := (m2.trans m3).trans m4
      cases fl with
      | nx => exact fun S' en' => ⟨env4, ah4, η4, en', p4, m5, q4⟩
      | ct => exact fun S' en' => ⟨env4, ah4, η4, en', p4, m5, q4⟩
      | bk => exact q4.at p4
      | rt d => exact q4.at p4
    | false =>
      rw [if_neg Bool.false_ne_true] at q3 ⊢
      exact q3.at p3 S2 (en2.mv m3)
end
section
variable {t : FT} {s : FS} {env env2 : AE} {ah a1 a2 : AH} {r : Res (Fl × AE)} {n : Nat}
theorem eWh0 (h1 : t env ah = .ok false a1) : whL t s (n + 1) env ah = .ok (.nx, env) a1 := by
  simp only [whL, h1, Res.bind_ok]
  rfl
theorem eWh1 (h1 : t env ah = .ok true a1) (h2 : s env a1 = .ok (.nx, env2) a2) (h3 : whL t s n env2 a2 = r) : whL t s (n + 1) env ah = r := by
  simp only [whL, h1, h2, Res.bind_ok, if_true]
  exact h3
theorem eOr1 {f g : FE} (h1 : f env ah = .ok (.bl true) a1) : iOr f g env ah = .ok (.bl true) a1 := by unfold iOr; rw [h1, Res.bind_ok]
theorem eOr0 {f g : FE} {q : Res D} (h1 : f env ah = .ok (.bl false) a1) (h2 : g env a1 = q) : iOr f g env ah = q := by unfold iOr; rw [h1, Res.bind_ok]; exact h2
theorem eWhile (h : whL t s n env ah = r) : sWhile n t s env ah = r := h
end
end DL
set_option maxHeartbeats 1500000
namespace DL
open PySem PySem.Spec PyProof.Rows L2
/-- a walk, counted from k on -/
theorem drawsFrom {prog : Program} {w : World} {A : Around} {it : Addr} {fp : List Addr} {n : Nat} {P : Nat → Value → Prop} {St : Nat → Heap → Prop} (k : Nat) (D : Draws prog w A it fp n P St) :
    Draws prog w A it fp (k + n) (fun i v => k ≤ i ∧ P (i - k) v) (fun i h => k ≤ i ∧ St (i - k) h) where
  live := fun i h st => D.live _ h st.2
  frame := fun i h h' st q => ⟨st.1, D.frame _ h h' st.2 q⟩
  item := fun i s Q E hi st hQ => D.item (i - k) s Q E (by omega) st.2 fun x h' tk p st' sb => hQ x h' tk ⟨st.1, p⟩ ⟨by omega, by rw [show i + 1 - k = i - k + 1 by omega]; exact st'⟩ sb
  done := fun s Q E st hE => D.done s Q E (by rw [show k + n - k = n by omega] at st; exact st.2) hE
def ItnK (K : PySem.W.Frag) (a : Addr) (k : Nat) : It :=
  ⟨fun i H => ∃ xs x, SqL K H a xs ∧ xs[i]? = some x, fun i H v H' => ∃ T x, v = .ref T ∧ H T = none ∧ H' = upd H T (.tup [.int ((k + i : Nat) : Int), x]) ∧ ∀ xs, SqL K H a xs → xs[i]? = some x,
    fun i H => ∃ xs : List V, SqL K H a xs ∧ xs.length ≤ i⟩
theorem turn_enumK {P : Program} {w : World} {K : PySem.W.Frag} {elts : List Expr} {kk : Nat} {tpos : Pos} (a e it : Addr) (k : Nat) :
    Turn P w K (.Tuple elts kk tpos) (ItnK K a k) [e, it] e (fun i h => (∃ old, IsEnum h e it ((k + i : Nat) : Int) old) ∧ h.IsListIter it a i ∧ e ≠ it) where
  mem := by simp
  obj := fun i h st b hb => by
    obtain ⟨⟨old, he⟩, ⟨o, ho, _, hd⟩, _⟩ := st
    rcases (by simpa using hb : b = e ∨ b = it) with rfl | rfl
    · exact ⟨_, he, fun v q => nomatch q⟩
    · exact ⟨o, ho, fun v q => by rw [hd] at q; cases q⟩
  keep := fun i h h' st q => let ⟨⟨old, he⟩, hi, hne⟩ := st; ⟨⟨old, q e (by simp) _ he⟩, hi.at fun o z => q it (by simp) o z, hne⟩
  item := by
    intro X hP hw hK hc i pnz s σ H E Iv hf st hg
    subst hP hw hK
    obtain ⟨⟨old, he⟩, hit, hne⟩ := st
    obtain ⟨xs, x, hq, hx⟩ := hg
    obtain ⟨its, rvv, p, hzz⟩ := Iv.list hq
    obtain ⟨u, hu, ru⟩ := rvv.get hx
    have le : e < s.heap.objs.size := Heap.lt_size he
    have li : it < s.heap.objs.size := by obtain ⟨_, q, _⟩ := hit; exact Heap.lt_size q
    have hh : X.A.in1.handled = none := Iv.ok.hd hc
    have pl := p.isList
    have hai : a ≠ it := fun z => by
      obtain ⟨o1, h1, h2, _⟩ := hit
      obtain ⟨o2, k1, k2, _⟩ := pl
      rw [z, h1] at k1; cases k1
      rw [h2] at k2; injection k2 with z2; exact absurd z2 (by decide)
    have hae : a ≠ e := fun z => by
      obtain ⟨o2, k1, k2, _⟩ := pl
      have he' : s.heap.get? e = some _ := he
      rw [z, he'] at k1; cases k1
      injection k2 with z2; exact absurd z2 (by decide)
    have lt : i < its.toArray.size := by simpa using (List.getElem?_eq_some_iff.mp hu).1
    have D := drawsFrom k (Draws.list (prog := X.prog) (w := X.w) (A := X.A.in1) hh it a hai its.toArray)
    refine wpAny_pyNext_enum_itemD D he ⟨by omega, by rw [show k + i - k = i by omega]; exact ⟨hit, pl⟩⟩ (by omega) hne (by simp; exact ⟨hne, hae.symm⟩) fun y h' tk hP ho hs' hT hsz hk => ?_
    have ey : y = u := by
      have h1 : its.toArray[i]? = some u := by simpa using hu
      have h2 := hP.2
      rw [show k + i - k = i by omega, h1] at h2
      exact (Option.some.inj h2).symm
    subst ey
    refine ⟨_, rfl, wpAny_letOwnedTupleGo_enum (s := { s with heap := h', toks := tk + 1 }) ho fun h'' he' sb => ?_⟩
    have hT2 : h''.get? s.heap.objs.size = some { cls := .type "tuple", data := .seq #[.int ((k + i : Nat) : Int) tk, y] } := (sb.2 _ (Nat.ne_of_gt le)).trans hT
    have new : ObjOk X.prog X.w (upd H s.heap.objs.size (.tup [.int ((k + i : Nat) : Int), x])) h'' s.heap.objs.size (.tup [.int ((k + i : Nat) : Int), x]) :=
      ⟨by show 2 ≤ sizeLine; decide, [.int ((k + i : Nat) : Int) tk, y], .cons ⟨_, rfl⟩ (.cons ru .nil), ⟨_, hT2, rfl, _, rfl⟩⟩
    have I1 : Inv X pnz σ (upd H s.heap.objs.size (.tup [.int ((k + i : Nat) : Int), x])) { s with heap := h'', toks := tk + 1 } :=
      Iv.turnedNew (ch := [e, it]) (fun b ob hb q => (sb.2 b (fun z => hb (by simp [z]))).trans (hk b ob (fun z => hb (by simp [z])) (fun z => hb (by simp [z])) q)) hf (Nat.le_refl _) new
    have its' : h''.IsListIter it a (i + 1) := by
      have q := hs'.2
      rw [show k + i + 1 - k = i + 1 by omega] at q
      exact q.1.at fun o z => (sb.2 it (Ne.symm hne)).trans z
    refine ⟨.ref s.heap.objs.size, _, I1, rfl, ⟨_, x, rfl, Iv.hok.fresh (Nat.le_refl _), rfl, fun ys hy => by rw [Iv.list_inj hy hq]; exact hx⟩, ⟨⟨y, by rw [show ((k + (i + 1) : Nat) : Int) = ((k + i : Nat) : Int) + 1 by omega]; exact he'⟩, its', hne⟩, fun b hb => ?_⟩
    have hb' : b < s.heap.objs.size := by
      rcases (by simpa using hb : b = e ∨ b = it) with z | z
      · rw [z]; exact le
      · rw [z]; exact li
    rw [upd_ne (Nat.ne_of_lt hb')]
    exact (hf b hb).1
  done := by
    intro X hP hw hK hc i pnz s σ H E Iv hf st hg
    subst hP hw hK
    obtain ⟨⟨old, he⟩, hit, hne⟩ := st
    obtain ⟨xs, hq, hx⟩ := hg
    obtain ⟨its, rvv, p, hzz⟩ := Iv.list hq
    have hh : X.A.in1.handled = none := Iv.ok.hd hc
    obtain ⟨f0, f1, f2, f3, f4, f5⟩ := hf it (by simp)
    have hT : s.TypeIs (.ref e) "enumerate" := ⟨_, he, rfl⟩
    unfold pyNext
    refine wpAny_bind (wpAny_attempt (wpAny_callSpecial?_slot (name := Str.ofString "__next__") hT F.slot_enumerate_next
      (wpAny_call_entry F.slot_enumerate_next hT F.entry_enumerate_next ?_ (F.args_enumerate_next_1 _))))
    show wpAny _ _ (field (.ref e) 2 >>= _) _ _ _
    refine wpAny_bind (wpAny_field he rfl (x := .ref it) rfl ?_)
    refine wpAny_bind (wpAny_nextOf_list_end hh hit p.isList (by simp; rw [← rvv.length]; exact hx) fun h' x he' hx' => ?_)
    obtain ⟨o, ho, hcl⟩ := hx'
    refine wpAny_bind (wpAny_isInstance (T := "StopIteration") (b := true) ⟨o, ho, hcl⟩ isSubtype_stop ?_)
    exact wpAny_pure ⟨rfl, Iv.turned (t' := s.toks) (fun b o hb q => he' b o hb q) f0 f1 f3 f4 f5⟩
  self := fun A i s Q E st h => let ⟨⟨_, he⟩, _⟩ := st; wpAny_pyIter_enum he h
theorem callKw {M : Model} {A : Around} {E : Value → Shared → Prop} {s : Shared} {env : Env} {pos : Pos} {T : String} {e : Expr} {rest : List Expr} {kws : List Keyword} {Q : Value → Shared → Prop}
    (h : wpAny M A (spliced (backTo pos (starEach (e :: rest) env))) (fun vs s1 => wpAny M A (evalAll ((backToKw pos (keywordEach kws env)).map (·.2))) (fun kvs s2 => wpAny M A (call (.type T) vs (((backToKw pos (keywordEach kws env)).filterMap (·.1)).zip kvs)) Q E s2) E s1) E s)
    (he : backTo pos (starEach (e :: rest) env) = (false, eval e env) :: backTo pos (starEach rest env)) (h1 : (backTo pos (starEach (e :: rest) env)).any (·.1) = false) (h2 : (backToKw pos (keywordEach kws env)).all (·.1.isSome) = true)
    (h3 : (backToKw pos (keywordEach kws env)).any (·.1.isNone) = false) : wpAny M A (callWith pos (.type T) [] (backTo pos (starEach (e :: rest) env)) (backToKw pos (keywordEach kws env))) Q E s := by
  have inner : wpAny M A (evalArgs (.type T) true (backTo pos (starEach (e :: rest) env)) (backToKw pos (keywordEach kws env))) (fun a s1 => wpAny M A (call (.type T) ([] ++ a.pos) a.kw) Q E s1) E s := by
    rw [he] at h ⊢
    exact PyProof.Rows.evalArgs_kwB h2 h
  unfold callWith
  refine wpAny_bind (wpAny_holding (wpAny_mono inner (fun a s1 k => wpAny_bind (wpAny_standAt ?_)) fun _ _ x => x))
  simp only [h1, h3, Bool.or_false]
  refine wpAny_bind (wpAny_pure ?_)
  exact wpAny_bind (wpAny_mono k (fun r s2 q => wpAny_bind (wpAny_holding (wpAny_point (wpAny_pure q)))) fun _ _ x => x)
def tgEnumK (K : PySem.W.Frag) (k : Nat) (ta : TA) : TI := fun S H R => ta S H fun vs H1 => ∃ a xs, vs = [.ref a] ∧ SqL K H1 a xs ∧ R (ItnK K a k) H1
theorem pi_enumK {X : Cx} {e : Expr} {ta : TA} {p pos tpos p1 p2 : Pos} {elts : List Expr} {kk k1 : Nat} (k : Nat) {i : Int} (hi : i = (k : Int)) (hk : k < 1000000) (hg : Gl X "enumerate") (hm : X.mg "enumerate" = none) (ha : PA X [e] ta)
    (he : backTo pos (starEach [e] X.env) = (false, eval e X.env) :: backTo pos (starEach [] X.env) := by rfl) (hpl : (backTo pos (starEach [e] X.env)).any (·.1) = false := by rfl)
    (hall : (backToKw pos (keywordEach [⟨some "start", .Constant (.int i) k1 p1, p2⟩] X.env)).all (·.1.isSome) = true := by rfl) (hnone : (backToKw pos (keywordEach [⟨some "start", .Constant (.int i) k1 p1, p2⟩] X.env)).any (·.1.isNone) = false := by rfl)
    (hks : (backToKw pos (keywordEach [⟨some "start", .Constant (.int i) k1 p1, p2⟩] X.env)).filterMap (·.1) = [Str.ofString "start"] := by rfl) :
    PI X (.Tuple elts kk tpos) (.Call (.Name "enumerate" p) [e] [⟨some "start", .Constant (.int i) k1 p1, p2⟩] pos) (tgEnumK X.K k ta) := by
  refine ⟨fun pnz s σ H R Iv h => ?_⟩
  refine wpAny_Call_Name_kw (ld_blt Iv hg hm boot_enumerate ?_ (by decide) (by decide))
  refine callKw (thn (ha.run pos pnz s σ H _ Iv h) fun us s1 ⟨vs, H1, I1, r1, a, xs, ex, hq, q⟩ => thn ((pk_cons (nm := some "start") pe_int pk_nil).run pos pnz s1 σ H1 (fun zs H2 => zs = [.int i] ∧ H2 = H1) I1 ⟨rfl, rfl⟩) fun ws s2 ⟨zs, H2, I2, r2, ez, eh⟩ => ?_) he hpl hall hnone
  subst ez eh
  rw [hks]
  obtain ⟨w1, rfl, t, rfl⟩ := vals1 r2
  subst ex
  cases r1 with
  | cons r rr =>
    cases rr; cases r
    obtain ⟨its, rvv, p', hzz⟩ := I2.list hq
    have fp : ∀ b ∈ [s2.heap.objs.size + 1, s2.heap.objs.size], FpOk X pnz H2 b := fun b hb => by
      have hle : s2.heap.objs.size ≤ b := by
        rcases (by simpa using hb : b = s2.heap.objs.size + 1 ∨ b = s2.heap.objs.size) with z | z
        · rw [z]; exact Nat.le_succ _
        · rw [z]; exact Nat.le_refl _
      exact I2.fpOk hle (I2.hok.fresh hle)
    refine PySem.enum_begins_start (begins_list a its.toArray) p'.isList (by omega) (by omega) fun h' he' hit _ hk' => wpAny_pyIter_enum he' ?_
    rw [hi] at he'
    exact ⟨s2.heap.objs.size + 1, _, _, _, H2, rfl, I2.kept (t' := s2.toks) hk', turn_enumK a _ _ k, ⟨⟨.none, he'⟩, ⟨_, hit, rfl, rfl⟩, Nat.succ_ne_self _⟩, fp, q⟩
def iEnumK (k : Nat) (f : FE) : FI := fun env ah => (f env ah).bind fun d ah1 => match d with
  | .lst xs => .ok (numD k xs) ah1
  | _ => .bad
theorem it_enumK {G : KW} {η : List Addr} {H : Hp} {a : Addr} {ds : List D} {vs : List V} {k : Nat} (h : FzL H a vs) (r : RelAll G η H ds vs) : ItOk G η H (ItnK G.K a k) (numD k ds) where
  go := fun i d hd H' e => by
    obtain ⟨x, hx, rfl⟩ := numD_get hd
    obtain ⟨v, hv, rvv⟩ := r.get hx
    refine ⟨⟨vs, v, (h.ext e).sq, hv⟩, fun z H'' w => ?_⟩
    obtain ⟨T, v', rfl, hT, rfl, w1⟩ := w
    have e1 := w1 vs (h.ext e).sq
    rw [hv] at e1; cases e1
    exact pair_new hT (.int _) (rvv.ext (List.prefix_refl _) e)
  stop := fun i hi H' e => ⟨vs, (h.ext e).sq, by rw [numD_len, r.length] at hi; exact hi⟩
theorem i_enumK {X : Cx} {W : XW} {e : Expr} {f : FE} {p pos tpos p1 p2 : Pos} {elts : List Expr} {kk k1 : Nat} (k : Nat) {i : Int} (hi : i = (k : Int)) (hk : k < 1000000) (hg : Gl X "enumerate") (hm : X.mg "enumerate" = none) (h : PE X e (SX X W f))
    (h3 : starEach [e] X.env = (false, eval e X.env) :: starEach [] X.env := by rfl) (he : backTo pos (starEach [e] X.env) = (false, eval e X.env) :: backTo pos (starEach [] X.env) := by rfl) (hpl : (backTo pos (starEach [e] X.env)).any (·.1) = false := by rfl)
    (hall : (backToKw pos (keywordEach [⟨some "start", .Constant (.int i) k1 p1, p2⟩] X.env)).all (·.1.isSome) = true := by rfl) (hnone : (backToKw pos (keywordEach [⟨some "start", .Constant (.int i) k1 p1, p2⟩] X.env)).any (·.1.isNone) = false := by rfl)
    (hks : (backToKw pos (keywordEach [⟨some "start", .Constant (.int i) k1 p1, p2⟩] X.env)).filterMap (·.1) = [Str.ofString "start"] := by rfl) :
    PI X (.Tuple elts kk tpos) (.Call (.Name "enumerate" p) [e] [⟨some "start", .Constant (.int i) k1 p1, p2⟩] pos) (IX X W (iEnumK k f)) :=
  PI.imp (pi_enumK k hi hk hg hm (a_cons h a_nil h3) he hpl hall hnone hks) fun S H R ⟨env, ah, η, en, pk, h⟩ => by
    refine ⟨env, ah, η, en, pk, ?_⟩
    have e1 : iArgs [f] env ah = (f env ah).bind fun d ah1 => .ok [d] ah1 := by
      unfold iArgs
      cases f env ah <;> rfl
    rw [e1]
    unfold iEnumK at h
    cases e2 : f env ah with
    | ok d ah1 =>
      rw [e2] at h
      simp only [Res.bind_ok] at h ⊢
      cases d with
      | lst xs =>
        intro η' H' m p' vs rs
        cases rs with
        | cons r rr =>
          cases rr
          cases r with
          | lst fz rl => exact ⟨_, _, rfl, fz.sq, h η' H' m p' _ (it_enumK fz rl)⟩
      | _ => exact h.elim
    | exc x e a => rw [e2] at h; exact h
    | bad => rw [e2] at h; exact h.elim
end DL
set_option maxHeartbeats 1500000
namespace DL
open PySem PySem.Spec PyProof.Rows L2
theorem RelAll.erase {G : KW} {η : List Addr} {H : Hp} : ∀ {ds : List D} {vs : List V} (i : Nat), RelAll G η H ds vs → RelAll G η H (ds.eraseIdx i) (vs.eraseIdx i)
  | _, _, _, .nil => .nil
  | _, _, 0, .cons _ r => r
  | _, _, i + 1, .cons h r => .cons h (RelAll.erase i r)
def oPop (x y : D) (ah : AH) : Res D := match x, y with
  | .ref n, .int i => match ah[n]? with
    | some (.lst ds) => if 0 ≤ i ∧ i < 2 ^ 62 then (match ds[i.toNat]? with
      | some d => .ok d (ah.set n (.lst (ds.eraseIdx i.toNat)))
      | none => .bad) else .bad
    | _ => .bad
  | _, _ => .bad
def iPop (fo f : FE) : FE := fun env ah => (fo env ah).bind fun x ah1 => if isLst ah1 x = true then (f env ah1).bind fun y ah2 => oPop x y ah2 else .bad
section
variable {X : Cx} {W : XW}
theorem pop_ok {G : KW} {η : List Addr} {H : Hp} {ah : AH} {x y : D} {v u : V} {Q : VK} (p : HpOk G η H ah) (rx : Rel G η H x v) (ry : Rel G η H y u) (h : Post G W η H (oPop x y ah) (QV G Q)) : rPopAt v [u] H Q := by
  unfold oPop at h
  split at h
  · rename_i n i
    cases ry
    cases rx with
    | ref hn =>
      rename_i a
      obtain ⟨o, ho, ok⟩ := p.at hn
      rw [ho] at h
      cases o with
      | lst ds =>
        obtain ⟨vs, h1, r1⟩ := ok
        simp only at h
        split at h
        · rename_i hi
          split at h
          · rename_i d hd
            obtain ⟨w, hw, rw'⟩ := r1.get hd
            have m : Mv η H η (upd H a (.lst (vs.eraseIdx i.toNat))) := .upd (List.mem_of_getElem? hn) h1 (fun _ z => nomatch z) (fun _ _ z => nomatch z)
            have lt := (List.getElem?_eq_some_iff.mp hw).1
            refine ⟨a, vs, i, i.toNat, w, rfl, rfl, h1, by omega, by omega, ?_, hw, h η _ m (p.put hn h1 (fun _ z => nomatch z) (fun _ _ z => nomatch z) ⟨_, upd_same, (RelAll.erase _ r1).mv m⟩) _ (rw'.mv m)⟩
            unfold seqIndex?
            simp only
            first
              | (rw [if_neg (by omega), if_pos (by omega)])
              | (split <;> first | omega | rfl | (split <;> first | omega | rfl))
              | (simp; omega)
          · exact h.elim
        · exact h.elim
      | _ => exact h.elim
  · exact h.elim
theorem j_pop {o e : Expr} {fo f : FE} {apos cpos : Pos} (ho : PE X o (SX X W fo)) (he : PE X e (SX X W f))
    (hbase : attributeBase o "pop" X.env (eval o X.env) = eval o X.env := by rfl)
    (hfew : ((backTo cpos (starEach [e] X.env)).all (fun x => !x.1) && (backToKw cpos (keywordEach [] X.env)).all (fun x => x.1.isSome)
      && decide ([e].length + ([] : List Keyword).length + (if ([] : List Keyword).isEmpty then 0 else 1) < 30)) = true := by rfl)
    (hline : (apos.endLine == cpos.line) = true := by rfl) (hs : starEach [e] X.env = (false, eval e X.env) :: starEach [] X.env := by rfl) (hplain : (backTo cpos (starEach [] X.env)).any (·.1) = false := by rfl) :
    PE X (.Call (.Attribute o "pop" apos) [e] [] cpos) (SX X W (iPop fo f)) :=
  PE.imp (pe_bm PySem.F.plainAttrs_list PySem.F.slot_list_pop PySem.F.type_list_pop mt_popAt ho (a_cons he a_nil hs) hbase hfew hline hs hplain) fun S H Q ⟨env, ah, η, en, pk, h⟩ => by
    refine ⟨env, ah, η, en, pk, h.bind.imp0 fun x η1 H1 ah1 m1 p1 q1 => fun v rvv => ?_⟩
    split at q1
    · rename_i hx
      obtain ⟨n, a, ds, vs, rfl, rfl, h1, h2, h3, h4⟩ := lst_at p1 rvv hx
      refine ⟨.inl ⟨rfl, vs, .inl (.inl h3)⟩, env, ah1, η1, en.mv m1, p1, ?_⟩
      unfold iArgs iArgs
      have q2 := q1.bind.imp0 (Q' := fun y η2 H2 ah2 => Post (gX X) W η2 H2 ((Res.ok [] ah2).bind fun ds ah3 => Res.ok (y :: ds) ah3) fun ds η' H' _ => ∀ vs, RelAll (gX X) η' H' ds vs → rPopAt (.ref a) vs H' Q) fun y η2 H2 ah2 m2 p2 q2 => ?_
      · revert q2
        generalize f env ah1 = r
        intro q2
        cases r with
        | ok d ah' => exact fun η' H' m p => (q2 η' H' m p).at p
        | exc x e' ah' => exact q2
        | bad => exact q2
      · rw [Res.bind_ok]
        intro η3 H3 m3 p3 us rs
        cases rs with
        | cons r rr =>
          cases rr
          exact pop_ok p3 ((rvv.mv m2).mv m3) r (q2.mono m3)
    · exact q1.elim
end
theorem ePop {fo f : FE} {env : AE} {ah a1 a2 : AH} {n k : Nat} {ds es : List D} {d : D} (h1 : fo env ah = .ok (.ref n) a1) (h2 : a1[n]? = some (.lst ds)) (h3 : f env a1 = .ok (dI k) a2) (h4 : a2[n]? = some (.lst es)) (h5 : es[k]? = some d) (hk : k < 1000000) : iPop fo f env ah = .ok d (a2.set n (.lst (es.eraseIdx k))) := by
  unfold iPop
  rw [h1, Res.bind_ok]
  have e : isLst a1 (.ref n) = true := by unfold isLst; simp only [h2]
  rw [if_pos e, h3, Res.bind_ok]
  unfold oPop dI
  simp only [h4, Int.toNat_natCast, h5]
  rw [if_pos ⟨by omega, by omega⟩]
end DL
namespace DL
open PySem PySem.Spec PyProof.Rows L2
/-- none of the objects that are looked at is a list -/
def noLst (K : PySem.W.Frag) : Bool := K.all fun q => match q.2.cls with
  | .type n => !(n == "list")
  | _ => true
theorem noLst_at {K : PySem.W.Frag} (h : noLst K = true) {a : Addr} {o : Obj} (e : K.lookup a = some o) : o.cls ≠ .type "list" := by
  intro z
  have m := List.all_eq_true.mp h _ (He.lookup_mem e)
  simp only [z] at m
  exact absurd m (by decide)
/-- a def of the top, as it is written -/
def mkD (x : Str) (st : Stmt) : He.DefD := ⟨(x, none), x, x, defArgs st, defBody st, defScope st, [], []⟩
section
variable {fa : List He.Fa} {fn : List He.DefD} {ts : List He.Tab} {tf : List He.Defn} {ex : PySem.W.Frag → Bool} {w : World} {K : PySem.W.Frag} {h : Heap} {mg : Str → Option Value}
theorem def_at (c : He.SaysX fa fn ts tf ex w h K) (X : K.In h) (G : h.Ns mainGlobals mg) {x : Str} {st : Stmt} (i j : Nat) (e1 : fn[i]? = some (mkD x st)) (e2 : fa[j]? = some (.glo x)) : ∃ f fd, Fun K x x st f fd ∧ mg x = some (.ref f) := by
  obtain ⟨fd, ⟨oc, od, dV, kV, doc, pm, an, cd, ct, sl, e, lk, co, hd, -⟩, kp⟩ := c.t.d.def_ i e1
  have z : dV = .none := by
    rcases hd with ⟨-, q⟩ | ⟨q, -⟩
    · exact q
    · exact absurd rfl q
  subst z
  exact ⟨_, fd, ⟨⟨oc, od, kV, doc, pm, an, cd, ct, sl, e, lk, co⟩, kp⟩, He.glo_ok X G (c.t.d.fact j e2)⟩
theorem free_at (c : He.SaysX fa fn ts tf ex w h K) (X : K.In h) (G : h.Ns mainGlobals mg) {x : Str} (j : Nat) (e : fa[j]? = some (.free x)) : mg x = none := He.free_ok X G (c.t.d.fact j e)
theorem kon_int (c : He.SaysX fa fn ts tf ex w h K) (X : K.In h) (G : h.Ns mainGlobals mg) {x : Str} {i : Int} (j : Nat) (e : fa[j]? = some (.int x i)) : KonOk w K mg x (.int i) := by
  obtain ⟨t, q⟩ := He.int_ok X G (c.t.d.fact j e)
  exact ⟨_, .int i, q, ⟨t, rfl⟩, fun _ _ => .int i⟩
theorem kon_str (c : He.SaysX fa fn ts tf ex w h K) (X : K.In h) (G : h.Ns mainGlobals mg) {x z : Str} (j : Nat) (e : fa[j]? = some (.str x z)) : KonOk w K mg x (.str z) := by
  obtain ⟨t, q⟩ := He.str_ok X G (c.t.d.fact j e)
  exact ⟨_, .str z, q, ⟨t, rfl⟩, fun _ _ => .str z⟩
/-- values that a table may hold -/
inductive Lit where
  | int (i : Int) | str (x : Str)
def Lit.d : Lit → D
  | .int i => .int i
  | .str x => .str x
def Lit.dv : Lit → He.Dv
  | .int i => .int i
  | .str x => .str x
theorem Lit.rel {G : KW} {η : List Addr} {H : Hp} (l : Lit) : Rel G η H l.d (l.dv.v G.K) := by
  cases l with
  | int i => exact .int i
  | str x => exact .str x
theorem lits_rel {G : KW} {η : List Addr} {H : Hp} : ∀ ls : List Lit, RelAll G η H (ls.map Lit.d) (ls.map fun l => l.dv.v G.K)
  | [] => .nil
  | l :: ls => .cons l.rel (lits_rel ls)
/-- the module's name x is a table of these -/
def tabB (K : PySem.W.Frag) (x : Str) (kvs : List (Str × Lit)) : Bool := He.valsB K (He.ga K x) (kvs.map fun q => (q.1, q.2.dv))
theorem kon_tab (c : He.SaysX fa fn ts tf ex w h K) (X : K.In h) (G : h.Ns mainGlobals mg) {x : Str} {kvs : List (Str × Lit)} (j i : Nat) (e : fa[j]? = some (.glo x)) (e2 : ts[i]? = some (fun K => He.ga K x, kvs.map (·.1))) (e3 : tabB K x kvs = true) :
    KonOk w K mg x (.cd (kvs.map (·.1)) (kvs.map fun q => q.2.d)) := by
  obtain ⟨es, n, q1, q2, q3⟩ := c.t.tab i e2
  refine ⟨_, .ref (He.ga K x), He.glo_ok X G (c.t.d.fact j e), rfl, fun η H => .cd (vs := kvs.map fun q => q.2.dv.v K) (fun i z v h1 h2 => ?_) (by simp) ?_⟩
  · rw [List.getElem?_map] at h1 h2
    obtain ⟨p, hp, rfl⟩ := Option.map_eq_some_iff.mp h1
    rw [hp] at h2
    cases h2
    obtain ⟨u, u1, u2⟩ := He.valsB_ok e3 (List.mem_map.mpr ⟨p, List.mem_of_getElem? hp, rfl⟩)
    exact ⟨es, n, u, q1, q2, u1, u2⟩
  · have := lits_rel (G := ⟨K, w⟩) (η := η) (H := H) (kvs.map (·.2))
    rw [List.map_map, List.map_map] at this
    exact this
/-- a tuple of the module, without attributes -/
def tupN (K : PySem.W.Frag) (x : Str) (vs : List He.Dv) : Bool := He.tupB K x vs && (match K.lookup (He.ga K x) with
  | some o => o.dict.isNone
  | none => false)
theorem tupN_ok {K : PySem.W.Frag} {x : Str} {vs : List He.Dv} (h : tupN K x vs = true) : He.tupB K x vs = true ∧ ∀ o, K.lookup (He.ga K x) = some o → o.dict = none := by
  obtain ⟨h1, h2⟩ := He.ba h
  refine ⟨h1, fun o e => ?_⟩
  rw [e] at h2
  exact Option.isNone_iff_eq_none.mp h2
theorem kon_tup (c : He.SaysX fa fn ts tf ex w h K) (X : K.In h) (G : h.Ns mainGlobals mg) {x : Str} {ls : List Lit} (j : Nat) (e : fa[j]? = some (.glo x)) (e3 : tupN K x (ls.map Lit.dv) = true) : KonOk w K mg x (.ct (ls.map Lit.d)) := by
  refine ⟨_, .ref (He.ga K x), He.glo_ok X G (c.t.d.fact j e), rfl, fun η H => .ct (vs := ls.map fun l => l.dv.v K) ?_ (lits_rel ls)⟩
  have dn := (tupN_ok e3).2
  rcases He.tupB_ok (tupN_ok e3).1 (fun _ => none) with (q | ⟨o, q⟩) | ⟨o, its, n, q1, q2, q3, q4, q5⟩
  · cases q
  · cases q
  · rw [List.map_map] at q5
    exact .inl ⟨o, its, n, q1, q2, q3, q4, q5, dn o q1⟩
end
/-- the law is called with the script -/
theorem call_script {P : Program} {w : World} {K : PySem.W.Frag} {mg mb : Str → Option Value} {k : Nat} {x : Str} {ps : List Str} {F : List D → AH → Res D} {fa a : Addr} {s1 : Shared} {vs : List Value} {ns : List Int}
    (nk : noLst K = true) (kx : K.In s1.heap) (n1 : s1.heap.Ns mainGlobals mg) (n2 : s1.heap.Ns builtinsNs mb) (n3 : ∀ y : Str, y ≠ "__name__" → mb y = bootBuiltins y) (nl : s1.heap.NoLimit) (g0 : s1.gens = #[])
    (oa : s1.heap.get? a = some ⟨.type "list", none, .seq vs.toArray 0, #[]⟩) (is : IntsAre vs ns) (sz : ns.length ≤ sizeLine) (room : Room k callerA) (hf : mg x = some (.ref fa)) (h1 : ps.length = 1)
    (law : ∀ b : Heap, K.In b → b.Ns mainGlobals mg → Ok1 P w K mg b x k ps F) (true_ : ∃ a', F [.lst (ns.map D.int)] [] = .ok (.bl true) a') :
    codeAny (model P w) callerA (.call (.ref fa) ⟨[.ref a], []⟩) (fun r s2 => r = .ok (.ret (.bool true)) ∧ OldK s1.heap s2.heap ∧ s2.os = s1.os ∧ AllBare s2.gens) s1 := by
  have ka : K.lookup a = none := by
    cases e : K.lookup a with
    | none => rfl
    | some o =>
      have q := kx a o e
      rw [oa] at q
      cases q
      exact absurd rfl (noLst_at nk e)
  let ob : Obj := ⟨.type "list", none, .seq vs.toArray 0, #[]⟩
  let H : Hp := fun b => if b = a then some (.frz ob (.lst (ns.map V.int))) else none
  have hAt : H a = some (.frz ob (.lst (ns.map V.int))) := if_pos rfl
  have off : ∀ b, b ≠ a → H b = none := fun b n => if_neg n
  have offO : ∀ (b : Addr) (o : Obj), s1.heap.get? b = some o → o ≠ ob → H b = none := fun b o e n => off b fun z => by
    subst z
    rw [oa] at e
    exact n (Option.some.inj e).symm
  have nsK : ∀ (b : Addr) (m : Str → Option Value), s1.heap.Ns b m → (hidT s1.heap H).Ns b m := by
    rintro b m ⟨o, es, ep, e, d, r⟩
    refine ⟨o, es, ep, hidT_get e (offO b o e fun z => ?_), d, r⟩
    subst z
    cases d
  have inK : K.In (hidT s1.heap H) := fun b o e => hidT_get (kx b o e) (off b fun z => by rw [z, ka] at e; cases e)
  have md : Mod K mg (hidT s1.heap H) := ⟨inK, nsK _ _ n1, ⟨mb, nsK _ _ n2, n3⟩, nl.elim fun mc z => ⟨mc, nsK _ _ z.1, z.2⟩⟩
  have hok : HOk P w H s1.heap := fun b u e => by
    by_cases hb : b = a
    · subst hb
      rw [hAt] at e
      cases e
      exact ⟨oa, by rw [List.length_map]; exact sz, vs, _, vals_ints is, oa⟩
    · rw [off b hb] at e; cases e
  have e0 : Env0 P w K mg (hidT s1.heap H) callerA [] s1 H := ⟨rfl, md, fun _ _ e => of_hidT e, Nat.le_of_eq (hidT_size _ _), trivial, (fun b m => nomatch m), hok, .of_eq g0⟩
  obtain ⟨f, fd, hm, _, bd, fg⟩ := law _ inK (nsK _ _ n1)
  rw [hf] at hm
  cases hm
  obtain ⟨a', ft⟩ := true_
  have sp : spN ⟨K, w⟩ ps.length F [.ref a] H (fun v _ => v = .bl true) fun _ _ _ => False := by
    refine ⟨[.lst (ns.map D.int)], [], [], h1.symm, .cons (.lst ⟨ob, hAt⟩ ?_) .nil, ⟨rfl, .nil, fun n b o z => by simp at z⟩, ?_⟩
    · clear ft sz is oa
      induction ns with
      | nil => exact .nil
      | cons i ns ih =>
        rw [List.map_cons, List.map_cons]
        exact .cons (.int i) (by
          have : ∀ ms : List Int, RelAll ⟨K, w⟩ [] H (ms.map D.int) (ms.map V.int) := fun ms => by
            induction ms with
            | nil => exact .nil
            | cons m ms ih => exact .cons (.int m) ih
          exact this ns)
    · rw [ft]
      intro η' H' _ _ v r
      cases r
      rfl
  refine codeAny_mono (fg.go callerA [] s1 H ⟨[.ref a], []⟩ [.ref a] [.ref a] _ _ room rfl e0 (bd s1 [.ref a] kx (by simpa using h1.symm)) (.cons rfl .nil) sp) fun r s2 q => ?_
  match r, q with
  | .error e, q => exact (show False from q).elim
  | .ok .next, q => exact False.elim q
  | .ok .brk, q => exact False.elim q
  | .ok .cont, q => exact False.elim q
  | .ok (.ret u), q =>
    obtain ⟨v, H2, os, bare, un, hok2, rvv, z⟩ := q
    cases (show v = .bl true from z)
    cases (show u = Value.bool true from rvv)
    refine ⟨rfl, OldK.of_keep fun b o e => ?_, os, bare⟩
    by_cases hb : b = a
    · subst hb
      rw [oa] at e
      cases e
      exact (hok2 b _ (un.frzs b _ _ hAt)).1
    · exact un.keep b o e (off b hb) (fun m => nomatch m) List.not_mem_nil
theorem walk_law {l : PySem.W.OpenLaw} {n k : Nat} {q : Program} {loose : List Str} {XP : (Str → Option Value) → Heap → Prop} {YP : World → Heap → Prop} {d : DefRec} {ps : List Str} {F : List D → AH → Res D}
    (hn : l.most = some n) (hzz : n ≤ sizeLine) (hdf : d.params.defaults = []) (room : Room k callerA) (h1 : ps.length = 1)
    (law : ∀ (w : World) (mg : Str → Option Value) (h : Heap), YP w h → h.Ns mainGlobals mg → ∃ K : PySem.W.Frag, K.In h ∧ noLst K = true ∧ ∀ b : Heap, K.In b → b.Ns mainGlobals mg → Ok1 l.prog w K mg b d.name k ps F)
    (true_ : ∀ ns : List Int, ∃ a', F [.lst (ns.map D.int)] [] = .ok (.bl true) a') :
    PySem.W.WalkO q loose XP YP l.row.toRowW d [] (fun f vs => PySem.call f vs) := by
  refine Att.attach_call hn hdf fun w s0 s1 mg mb fa o pm cd doc a vs ns G Y ho hd hcd hmg hobj hints hln hg => ?_
  obtain ⟨K, kx, nk, lw⟩ := law w mg _ Y G.T.g
  exact call_script nk kx G.T.g G.T.b G.T.builtins G.T.nolimit hg hobj hints (Nat.le_trans hln hzz) room hmg h1 lw (true_ ns)
end DL
namespace DL
open PySem PySem.Spec PyProof.Rows L2
def iTupRg3 (fs : List FE) : FE := fun env ah => (iArgs fs env ah).bind fun ds ah1 => match ds with
  | [.int i, .int j, .int c] => if (rg3B i j c = true ∧ Builtin.Range.rangeSize i j c = (rg3N i j c : Nat)) ∧ rg3N i j c ≤ 2 ^ 24 then .ok (.tup (rangeC i c (rg3N i j c))) ah1 else .bad
  | _ => .bad
def tTupRg3 (ta : TA) : TE := fun σ H Q => ta σ H fun vs H1 => ∃ (i j c : Int) (n : Nat), vs = [.int i, .int j, .int c] ∧ (RgC i j c n ∧ n ≤ 2 ^ 24) ∧ ∀ q, H1 q = none → Q (.ref q) (upd H1 q (.tup ((List.range n).map fun (k : Nat) => V.int (i + (k : Int) * c))))
section
variable {X : Cx} {W : XW} {a b c : Expr} {ta : TA} {fs : List FE} {p p2 pos pos2 : Pos}
theorem vals_rgC {i c : Int} {n : Nat} {acc : Array Value} (h : ItemsOf (fun k v => ∃ t, v = .int (i + k * c) t) acc n) : Vals ((List.range n).map fun (k : Nat) => V.int (i + (k : Int) * c)) acc.toList := by
  have e : acc.toList.length = n := by rw [Array.length_toList]; exact h.1
  rw [← e]
  refine vals_of_get acc.toList _ fun j u hj => ?_
  obtain ⟨t, rfl⟩ := h.2 j u (by rw [← hj, Array.getElem?_toList])
  exact ⟨t, rfl⟩
theorem pe_tupRg3 (hc : X.calm = true) (hgt : Gl X "tuple") (hmt : X.mg "tuple" = none) (hg : Gl X "range") (hm : X.mg "range" = none) (ha : PA X [a, b, c] ta)
    (hs : starEach [a, b, c] X.env = (false, eval a X.env) :: starEach [b, c] X.env := by rfl) (hpl : (backTo pos (starEach [b, c] X.env)).any (·.1) = false := by rfl)
    (na : starEach [.Call (.Name "range" p) [a, b, c] [] pos] X.env = (false, eval (.Call (.Name "range" p) [a, b, c] [] pos) X.env) :: starEach [] X.env := by rfl) :
    PE X (.Call (.Name "tuple" p2) [.Call (.Name "range" p) [a, b, c] [] pos] [] pos2) (tTupRg3 ta) := by
  refine ⟨fun pins s σ H Q I h => ?_⟩
  have rg : wpAny (model X.prog X.w) X.A (eval (.Call (.Name "range" p) [a, b, c] [] pos) X.env) (fun x s' => ∃ r i j k t u v n H', x = .ref r ∧ IsRange s'.heap r i j k t u v ∧ Inv X pins σ H' s' ∧ (RgC i j k n ∧ n ≤ 2 ^ 24) ∧ ∀ q, H' q = none → Q (.ref q) (upd H' q (.tup ((List.range n).map fun (l : Nat) => V.int (i + (l : Int) * k))))) X.xe s := by
    refine Call_ (ld_blt I hg hm boot_range (PyProof.Rows.callWith_type1 (thn (ha.run pos pins s σ H _ I h) fun us s1 ⟨vs, H1, I1, r1, q1⟩ => ?_) hs hpl))
    obtain ⟨i, j, k, n, e, ok, q⟩ := q1
    subst e
    cases r1 with
    | cons r rr =>
      cases rr with
      | cons r' rr =>
        cases rr with
        | cons r'' rr =>
          cases rr
          obtain ⟨t, rfl⟩ := r
          obtain ⟨t', rfl⟩ := r'
          obtain ⟨t'', rfl⟩ := r''
          refine call_range_3 ok.1.1 ?_ (.inl (PyProof.noPylong_small ok.1.2.1))
          exact ⟨_, i, j, k, _, _, _, n, H1, rfl, IsRange.new .., I1.kept fun b u e => Heap.get?_push_of_some _ e, ok, q⟩
  refine Call_ (ld_blt I hgt hmt boot_tuple (PyProof.Rows.callWith_type1 (args_cons (thn rg fun x s1 ⟨r, i, j, k, t, u, v, n, H1, ex, hr, I1, ok, q⟩ => args_nil ?_) na) na))
  subst ex
  obtain ⟨⟨c0, c1, c2, c3⟩, b5⟩ := ok
  refine call_tuple_range (n := n) (I1.ok.hd hc) hr c2 c3 b5 fun h' tk acc hk hi => ?_
  have I2 : Inv X pins σ H1 { s1 with heap := h', toks := tk } := I1.kept hk
  refine ⟨.ref h'.objs.size, upd H1 h'.objs.size (.tup _), I2.laid (t' := tk) (fun c o e => Heap.get?_push_of_some _ e) (Nat.le_refl _) (show ObjOk X.prog X.w _ _ _ (.tup _) from ⟨?_, acc.toList, vals_rgC hi, ?_⟩), rfl, q _ (I2.hok.fresh (Nat.le_refl _))⟩
  · rw [List.length_map, List.length_range, sizeLine_eq]; omega
  · rw [Array.toArray_toList]; exact IsTup.new _ _
theorem rangeC_rel {G : KW} {η : List Addr} {H : Hp} (i c : Int) (n : Nat) : RelAll G η H (rangeC i c n) ((List.range n).map fun (k : Nat) => V.int (i + (k : Int) * c)) := by
  have e1 : rangeC i c n = ((List.range n).map fun (k : Nat) => i + (k : Int) * c).map D.int := by unfold rangeC; rw [List.map_map]; rfl
  have e2 : ((List.range n).map fun (k : Nat) => V.int (i + (k : Int) * c)) = ((List.range n).map fun (k : Nat) => i + (k : Int) * c).map V.int := by rw [List.map_map]; rfl
  rw [e1, e2]
  exact RelAll.ints _
theorem j_tupRg3 (hc : X.calm = true) (hgt : Gl X "tuple") (hmt : X.mg "tuple" = none) (hg : Gl X "range") (hm : X.mg "range" = none) (ha : PA X [a, b, c] (AX' X W fs))
    (hs : starEach [a, b, c] X.env = (false, eval a X.env) :: starEach [b, c] X.env := by rfl) (hpl : (backTo pos (starEach [b, c] X.env)).any (·.1) = false := by rfl)
    (na : starEach [.Call (.Name "range" p) [a, b, c] [] pos] X.env = (false, eval (.Call (.Name "range" p) [a, b, c] [] pos) X.env) :: starEach [] X.env := by rfl) :
    PE X (.Call (.Name "tuple" p2) [.Call (.Name "range" p) [a, b, c] [] pos] [] pos2) (SX X W (iTupRg3 fs)) :=
  PE.imp (pe_fz (pe_tupRg3 hc hgt hmt hg hm ha hs hpl na)) fun S H Q ⟨env, ah, η, en, pk, h⟩ => ⟨env, ah, η, en, pk, h.bind.imp0 fun ds η1 H1 ah1 m1 p1 q1 => fun vs rs => by
    split at q1
    · rename_i i j c
      split at q1
      · rename_i hc
        cases rs with
        | cons r rs =>
          cases r
          cases rs with
          | cons r rs =>
            cases r
            cases rs with
            | cons r rs =>
              cases r; cases rs
              obtain ⟨⟨z1, z2⟩, z3⟩ := hc
              unfold rg3B at z1
              simp only [Bool.and_eq_true, decide_eq_true_eq] at z1
              exact ⟨i, j, c, _, rfl, ⟨⟨z1.1, z1.2.1, z1.2.2, z2⟩, z3⟩, fun q hq => post_tup p1 (rangeC_rel _ _ _) q1 hq⟩
      · exact q1.elim
    · exact q1.elim⟩
end
def compL2 (g : D → AE → Option AE) (t : FT) (fi1 : FI) (g1 : D → AE → Option AE) (t1 : FT) (f : FE) (vs1 : List Nat) (env : AE) : List D → List D → AH → Res (List D)
  | [], acc, ah => .ok acc ah
  | d :: ds, acc, ah => match g d env with
    | none => .bad
    | some env1 => (t env1 ah).nox.bind fun b ah1 => if b = true then (fi1 env1 ah1).nox.bind fun ds1 ah2 => (compL g1 t1 f (wipeA env1 vs1) ds1 acc ah2).bind fun acc1 ah3 => compL2 g t fi1 g1 t1 f vs1 env ds acc1 ah3 else compL2 g t fi1 g1 t1 f vs1 env ds acc ah1
def iLc2 (fi : FI) (g : D → AE → Option AE) (t : FT) (fi1 : FI) (g1 : D → AE → Option AE) (t1 : FT) (f : FE) (vs vs1 : List Nat) : FE := fun env ah => (fi env ah).bind fun ds ah1 => (compL2 g t fi1 g1 t1 f vs1 (wipeA env vs) ds [] ah1).bind fun xs ah2 => .ok (.lst xs) ah2
section
variable {X : Cx} {W : XW} {elt tg iter tg1 iter1 : Expr} {ifs ifs1 : List Expr} {scope : Scope} {own : List (Str × Nat)} {pos : Pos} {fi fi1 : FI} {q qb : Pt} {ft ft1 : FT} {f : FE} {vs1 : List Nat}
theorem bind_bind {α β γ : Type} (r : Res α) (g1 : α → AH → Res β) (g2 : β → AH → Res γ) : (r.bind g1).bind g2 = r.bind fun a h => (g1 a h).bind g2 := by cases r <;> rfl
theorem lc2_loop {β : Type} {G : KW} {vs vs1 : List Nat} {S : L2.St} {H : Hp} {R : VK} {k : List D → AH → Res β} {Q : β → List Addr → Hp → AH → Prop} {env : AE} {ah : AH} {η : List Addr}
    (en : EnvOk G η H env S) (pk : HpOk G η H ah) (hq : ∀ i ∈ q.ix, i ∈ vs) (hq1 : ∀ i ∈ qb.ix, i ∈ vs1) (h : Post G W η H ((fi env ah).bind fun ds ah1 => (compL2 (ptB q) ft fi1 (ptB qb) ft1 f vs1 (wipeA env vs) ds [] ah1).bind k) Q)
    (fin : ∀ (Dd : Addr) (η1 η' : List Addr) (H1 H' : Hp) (acc : List V) (xs : List D) (ah' : AH), Mv η H η1 H1 → H1 Dd = none → H' Dd = some (.lst acc) → Dd ∉ η' → RelAll G η' H' xs acc → Mv η1 H1 η' H' → HpOk G η' H' ah' → Post G W η1 H1 (k xs ah') Q → R (.ref Dd) H') :
    tLc2 (IJ G W fi) (GJ G q.ix (ptB q)) (TJ G noW ft) (IJ G noW fi1) (GJ G qb.ix (ptB qb)) (TJ G noW ft1) (SJ G noW f) vs vs1 S H R := by
  refine ⟨env, ah, η, en, pk, h.bind.imp0 fun ds η1 H1 ah1 m1 p1 q1 => fun J hJ => ?_⟩
  intro Dd hD
  have hD0 := same_new (o := .lst []) hD
  have en0 := (en.mv m1).wipe vs
  refine ⟨fun i m H' => m = ds.length - i ∧ i ≤ ds.length ∧ ∃ acc xs ah η', H' Dd = some (.lst acc) ∧ Dd ∉ η' ∧ RelAll G η' H' xs acc ∧ HpOk G η' H' ah ∧ Mv η1 H1 η' H' ∧ Post G W η1 H1 ((compL2 (ptB q) ft fi1 (ptB qb) ft1 f vs1 (wipeA env vs) (ds.drop i) xs ah).bind k) Q,
    ⟨ds.length, by simp, Nat.zero_le _, [], [], ah1, η1, upd_same, p1.fresh hD, .nil, p1.same hD0, .same hD0, q1⟩, ?_⟩
  rintro i m H2 ⟨rfl, hi, acc, xs, ah2, η2, hD2, nD, r2, p2, m2, q2⟩
  by_cases hlt : i < ds.length
  · have hd : ds[i]? = some ds[i] := by simp [hlt]
    obtain ⟨hgo, hy⟩ := hJ.go i _ hd H2 m2.ext
    refine .inr ⟨hgo, fun H' => i + 1 ≤ ds.length ∧ ∃ acc xs ah η', H' Dd = some (.lst acc) ∧ Dd ∉ η' ∧ RelAll G η' H' xs acc ∧ HpOk G η' H' ah ∧ Mv η1 H1 η' H' ∧ Post G W η1 H1 ((compL2 (ptB q) ft fi1 (ptB qb) ft1 f vs1 (wipeA env vs) (ds.drop (i + 1)) xs ah).bind k) Q,
      fun H' k => ⟨ds.length - (i + 1), by omega, rfl, k⟩, fun x H3 y => ?_⟩
    obtain ⟨sm, rx⟩ := hy x H3 y
    rw [List.drop_eq_getElem_cons hlt] at q2
    simp only [compL2] at q2
    split at q2
    · exact q2.elim
    · rename_i env3 e3
      have m3 : Mv η2 H2 η2 H3 := .same sm
      have m13 := m2.trans m3
      refine ⟨wipeA env vs, η2, ds[i], env3, en0.mv m13, rx.ext m2.pre (Ext.refl _), e3, fun S3 en3 kz => ⟨?_, ?_⟩⟩
      · exact wipe_kz (kz.mono hq)
      · rw [bind_bind] at q2
        have q3 := Post.bindB q2 m13
        refine ⟨env3, ah2, η2, en3, p2.same sm, (Post.nox q3).imp0 fun b η4 H4 ah4 m4 p4 q4 => ?_⟩
        have m14 := m13.trans m4
        have hD4 : H4 Dd = some (.lst acc) := m4.frm _ _ (m3.frm _ _ hD2 nD) nD
        have nD4 : Dd ∉ η4 := fun z => (m4.new _ z).elim nD fun w => by rw [m3.frm _ _ hD2 nD] at w; cases w
        cases b with
        | true =>
          simp only [if_true] at q4 ⊢
          rw [bind_bind] at q4
          have q5 := Post.bindB q4 m14
          refine ⟨env3, ah4, η4, en3.mv m4, p4, (Post.nox q5).imp0 fun ds1 η5 H5 ah5 m5 p5 q6 => fun J1 hJ1 => ?_⟩
          have m15 := m14.trans m5
          have hD5 : H5 Dd = some (.lst acc) := m5.frm _ _ hD4 nD4
          have nD5 : Dd ∉ η5 := fun z => (m5.new _ z).elim nD4 fun w => by rw [hD4] at w; cases w
          have r5 : RelAll G η5 H5 xs acc := (r2.mv m3).mv (m4.trans m5)
          have en5 : EnvOk G η5 H5 (wipeA env3 vs1) (L2.wipe S3 vs1) := ((en3.mv m4).mv m5).wipe vs1
          rw [bind_bind] at q6
          -- what is left behind the inner loop
          generalize hk : (fun (acc1 : List D) (ah3 : AH) => (compL2 (ptB q) ft fi1 (ptB qb) ft1 f vs1 (wipeA env vs) (ds.drop (i + 1)) acc1 ah3).bind k) = k1 at q6
          let I : Nat → Hp → Prop := fun j H' => j ≤ ds1.length ∧ ∃ acc xs ah η', H' Dd = some (.lst acc) ∧ Dd ∉ η' ∧ RelAll G η' H' xs acc ∧ HpOk G η' H' ah ∧ Mv η1 H1 η' H' ∧ η5 <+: η' ∧ Ext H5 H' ∧ Post G W η1 H1 ((compL (ptB qb) ft1 f (wipeA env3 vs1) (ds1.drop j) xs ah).bind k1) Q
          refine ⟨fun j n H' => n = ds1.length - j ∧ I j H', ⟨ds1.length, by simp, Nat.zero_le _, acc, xs, ah5, η5, hD5, nD5, r5, p5, m15, List.prefix_refl _, Ext.refl _, q6⟩, ?_⟩
          rintro j n H6 ⟨rfl, hj, acc1, xs1, ah6, η6, hD6, nD6, r6, p6, m16, pre56, ext56, q7⟩
          by_cases hlt1 : j < ds1.length
          · have hd1 : ds1[j]? = some ds1[j] := by simp [hlt1]
            obtain ⟨hgo1, hy1⟩ := hJ1.go j _ hd1 H6 ext56
            refine .inr ⟨hgo1, I (j + 1), fun H' k => ⟨ds1.length - (j + 1), by omega, rfl, k⟩, fun x1 H7 y1 => ?_⟩
            obtain ⟨sm1, rx1⟩ := hy1 x1 H7 y1
            rw [List.drop_eq_getElem_cons hlt1] at q7
            simp only [compL] at q7
            split at q7
            · exact q7.elim
            · rename_i env7 e7
              have m7 : Mv η6 H6 η6 H7 := .same sm1
              have m17 := m16.trans m7
              have en7 : EnvOk G η6 H7 (wipeA env3 vs1) (L2.wipe S3 vs1) := ⟨en5.len, fun i d e => by
                obtain ⟨w, h1, h2⟩ := en5.ok i d e
                exact ⟨w, h1, h2.ext pre56 (ext56.trans m7.ext)⟩⟩
              refine ⟨wipeA env3 vs1, η6, ds1[j], env7, en7, rx1.ext pre56 (Ext.refl _), e7, fun S8 en8 kz8 => ⟨wipe_kz (kz8.mono hq1), ?_⟩⟩
              rw [bind_bind] at q7
              have q8 := Post.bindB q7 m17
              refine ⟨env7, ah6, η6, en8, p6.same sm1, (Post.nox q8).imp0 fun b η9 H9 ah9 m9 p9 q9 => ?_⟩
              have m19 := m17.trans m9
              have hD9 : H9 Dd = some (.lst acc1) := m9.frm _ _ (m7.frm _ _ hD6 nD6) nD6
              have nD9 : Dd ∉ η9 := fun z => (m9.new _ z).elim nD6 fun w => by rw [m7.frm _ _ hD6 nD6] at w; cases w
              cases b with
              | true =>
                simp only [if_true] at q9 ⊢
                rw [bind_bind] at q9
                have q10 := Post.bindB q9 m19
                refine ⟨env7, ah9, η9, en8.mv m9, p9, (Post.nox q10).imp0 fun z η10 H10 ah10 m10 p10 q11 => fun w rw' => ?_⟩
                have hD10 : H10 Dd = some (.lst acc1) := m10.frm _ _ hD9 nD9
                have nD10 : Dd ∉ η10 := fun z => (m10.new _ z).elim nD9 fun w => by rw [hD9] at w; cases w
                have r10 : RelAll G η10 H10 xs1 acc1 := (r6.mv m7).mv (m9.trans m10)
                split at q11
                · rename_i hz
                  have E : Ext H10 (upd H10 Dd (.lst (acc1 ++ [w]))) := Ext.upd hD10 (fun _ z => nomatch z) (fun _ _ z => nomatch z)
                  exact ⟨acc1, hD10, by rw [← r6.length]; exact hz, by omega, acc1 ++ [w], xs1 ++ [z], ah10, η10, upd_same, nD10, (r10.snoc rw').ext (List.prefix_refl _) E, p10.side nD10 hD10 (fun _ z => nomatch z) (fun _ _ z => nomatch z), (m19.trans m10).side hD hD10, pre56.trans ((m7.trans m9).trans m10).pre, (ext56.trans ((m7.trans m9).trans m10).ext).trans E, q11⟩
                · exact q11.elim
              | false =>
                rw [if_neg Bool.false_ne_true] at q9
                dsimp only
                rw [if_neg Bool.false_ne_true]
                exact ⟨by omega, acc1, xs1, ah9, η9, hD9, nD9, r6.mv (m7.trans m9), p9, m19, pre56.trans (m7.trans m9).pre, ext56.trans (m7.trans m9).ext, q9⟩
          · have hj2 : ds1.length ≤ j := by omega
            rw [List.drop_of_length_le hj2] at q7
            refine .inl ⟨hJ1.stop j hj2 H6 ext56, by omega, acc1, xs1, ah6, η6, hD6, nD6, r6, p6, m16, ?_⟩
            rw [← hk] at q7
            exact q7
        | false =>
          rw [if_neg Bool.false_ne_true] at q4
          dsimp only
          rw [if_neg Bool.false_ne_true]
          exact ⟨by omega, acc, xs, ah4, η4, hD4, nD4, r2.mv (m3.trans m4), p4, m14, q4⟩
  · have hi2 : ds.length ≤ i := by omega
    rw [List.drop_of_length_le hi2] at q2
    exact .inl ⟨hJ.stop i hi2 H2 m2.ext, fin Dd η1 η2 H1 H2 acc xs ah2 m1 hD hD2 nD r2 m2 p2 q2⟩
theorem lc2_fz {G : KW} {vs vs1 : List Nat} {S : L2.St} {H : Hp} {Q : VK} (hq : ∀ i ∈ q.ix, i ∈ vs) (hq1 : ∀ i ∈ qb.ix, i ∈ vs1) (h : SJ G W (iLc2 fi (ptB q) ft fi1 (ptB qb) ft1 f vs vs1) S H Q) : tLc2 (IJ G W fi) (GJ G q.ix (ptB q)) (TJ G noW ft) (IJ G noW fi1) (GJ G qb.ix (ptB qb)) (TJ G noW ft1) (SJ G noW f) vs vs1 S H (QF Q) := by
  obtain ⟨env, ah, η, en, pk, h⟩ := h
  refine lc2_loop en pk hq hq1 h fun Dd η1 η' H1 H' acc xs ah' m hD hD' nD r mv p k => ?_
  refine .inr ⟨Dd, .lst acc, rfl, hD', trivial, fun od => ?_⟩
  have E : Ext H' (upd H' Dd (.frz od (.lst acc))) := Ext.upd hD' (fun _ z => nomatch z) (fun _ _ z => nomatch z)
  exact k η' _ (mv.side hD hD') (p.side nD hD' (fun _ z => nomatch z) (fun _ _ z => nomatch z)) _ (.lst ⟨od, upd_same⟩ (r.ext (List.prefix_refl _) E))
theorem j_lc2 (hc : X.calm = true) (hN : X.N.Nodup) (hi : PI X tg iter (IX X W fi)) (ok : BlkOk X.N X.env.scope scope own) (hq : ∀ i ∈ q.ix, i ∈ own.map (·.2)) (hv : ∀ i ∈ qb.ix, i ∈ own.map (·.2))
    (hg : ∀ (s : Shared) (H : Hp) (C : Addr) (cl : List (Str × Addr)) (fp : List Addr), PG (X.blk s H scope (compEnvC scope cl C X.env) fp) tg (GP X q)) (ht : ∀ (s : Shared) (H : Hp) (C : Addr) (cl : List (Str × Addr)) (fp : List Addr), PTs (X.blk s H scope (compEnvC scope cl C X.env) fp) ifs (TX X noW ft))
    (hi1 : ∀ (s : Shared) (H : Hp) (C : Addr) (cl : List (Str × Addr)) (fp : List Addr), PI (X.blk s H scope (compEnvC scope cl C X.env) fp) tg1 iter1 (IX X noW fi1))
    (hg1 : ∀ (s : Shared) (H : Hp) (C : Addr) (cl : List (Str × Addr)) (fp : List Addr), PG (X.blk s H scope (compEnvC scope cl C X.env) fp) tg1 (GP X qb)) (ht1 : ∀ (s : Shared) (H : Hp) (C : Addr) (cl : List (Str × Addr)) (fp : List Addr), PTs (X.blk s H scope (compEnvC scope cl C X.env) fp) ifs1 (TX X noW ft1))
    (he : ∀ (s : Shared) (H : Hp) (C : Addr) (cl : List (Str × Addr)) (fp : List Addr), PE (X.blk s H scope (compEnvC scope cl C X.env) fp) elt (SX X noW f)) (hs : ∀ x, foldedSetIterable iter X.env x = pure x := by intro _; rfl) (hs1 : ∀ env x, foldedSetIterable iter1 env x = pure x := by intro _ _; rfl) :
    PE X (.ListComp elt [⟨tg, iter, ifs, 0⟩, ⟨tg1, iter1, ifs1, 0⟩] scope pos) (SX X W (iLc2 fi (ptB q) ft fi1 (ptB qb) ft1 f (own.map (·.2)) qb.ix)) := PE.imp (pe_fz (pe_lc2 hc hN hi ok hv hg ht hi1 hg1 ht1 he hs hs1)) fun S H Q h => lc2_fz hq (fun _ h => h) h
end
end DL
namespace DL
open PySem PySem.Spec PyProof.Rows L2
def iNewT : FE := fun _ ah => .ok (.ref ah.length) (ah ++ [.dt [] []])
def iNewK : FE := fun _ ah => .ok (.ref ah.length) (ah ++ [.dk [] []])
section
variable {X : Cx} {W : XW} {pos : Pos}
theorem j_newT : PE X (.Dict [] [] pos) (SX X W iNewT) := PE.imp pe_dnewT fun S H Q ⟨env, ah, η, en, pk, h⟩ a ha => by
  have m : Mv η H (η ++ [a]) (upd H a (.dT [])) := .made ha
  refine h (η ++ [a]) _ m (pk.new ha ⟨[], upd_same, rfl, .nil⟩) _ (.ref ?_)
  rw [← pk.len, List.getElem?_append_right (Nat.le_refl _)]
  simp
theorem j_newK : PE X (.Dict [] [] pos) (SX X W iNewK) := PE.imp pe_dnewK fun S H Q ⟨env, ah, η, en, pk, h⟩ a ha => by
  have m : Mv η H (η ++ [a]) (upd H a (.dK [])) := .made ha
  refine h (η ++ [a]) _ m (pk.new ha ⟨[], upd_same, rfl, .nil⟩) _ (.ref ?_)
  rw [← pk.len, List.getElem?_append_right (Nat.le_refl _)]
  simp
end
theorem ptV_len {κ : Type} [DecidableEq κ] : ∀ (ks : List κ) (ds : List D) (q : κ) (e : D), ks.length = ds.length → (ptV ks ds q e).length = ds.length
  | [], [], _, _, _ => rfl
  | [], _ :: _, _, _, h => by simp at h
  | _ :: _, [], _, _, h => by simp at h
  | k :: ks, d :: ds, q, e, h => by
    unfold ptV
    rw [List.length_cons, List.length_cons, ptV_len ks ds q e (by simpa using h)]
theorem lk_ptV {κ : Type} [DecidableEq κ] : ∀ (ks : List κ) (ds : List D) (q q' : κ) (e : D), ks.length = ds.length → hasD ks q = true → lkD ks (ptV ks ds q e) q' = if q' = q then some e else lkD ks ds q'
  | [], _, _, _, _, _, h => by simp [hasD] at h
  | _ :: _, [], _, _, _, h, _ => by simp at h
  | k :: ks, d :: ds, q, q', e, h, hh => by
    have hl : ks.length = ds.length := by simpa using h
    unfold ptV lkD
    by_cases c : k = q'
    · rw [if_pos c, if_pos c]
      by_cases c2 : k = q
      · rw [if_pos c2, if_pos (c.symm.trans c2)]
      · rw [if_neg c2, if_neg fun z => c2 (c.trans z)]
    · rw [if_neg c, if_neg c]
      by_cases c2 : hasD ks q = true
      · exact lk_ptV ks ds q q' e hl c2
      · have kq : k = q := by
          unfold hasD at hh c2
          rw [List.any_cons, Bool.or_eq_true] at hh
          rcases hh with z | z
          · exact of_decide_eq_true z
          · exact absurd z c2
        have n : ∀ (ks : List κ) (ds : List D), ks.length = ds.length → ¬ hasD ks q = true → ptV ks ds q e = ds := fun ks => by
          induction ks with
          | nil => intro ds hl _; cases ds with
            | nil => rfl
            | cons _ _ => simp at hl
          | cons k ks ih => intro ds hl hn; cases ds with
            | nil => simp at hl
            | cons d ds =>
              unfold hasD at hn
              rw [List.any_cons, Bool.or_eq_true, not_or] at hn
              unfold ptV
              rw [if_neg fun z => hn.1 (decide_eq_true z), ih ds (by simpa using hl) hn.2]
        rw [n ks ds hl c2, if_neg fun z => c (kq.trans z.symm)]
theorem lk_snoc {κ : Type} [DecidableEq κ] : ∀ (ks : List κ) (ds : List D) (q q' : κ) (e : D), ks.length = ds.length → ¬ hasD ks q = true → lkD (ks ++ [q]) (ds ++ [e]) q' = if q' = q then some e else lkD ks ds q'
  | [], [], q, q', e, _, _ => by
    show (if q = q' then some e else none) = if q' = q then some e else none
    by_cases c : q = q'
    · rw [if_pos c, if_pos c.symm]
    · rw [if_neg c, if_neg fun z => c z.symm]
  | [], _ :: _, _, _, _, h, _ => by simp at h
  | _ :: _, [], _, _, _, h, _ => by simp at h
  | k :: ks, d :: ds, q, q', e, h, hn => by
    unfold hasD at hn
    rw [List.any_cons, Bool.or_eq_true, not_or] at hn
    rw [List.cons_append, List.cons_append]
    unfold lkD
    rw [lk_snoc ks ds q q' e (by simpa using h) hn.2]
    by_cases c : k = q'
    · rw [if_pos c, if_pos c, if_neg fun z => hn.1 (decide_eq_true (c.trans z))]
    · rw [if_neg c, if_neg c]
theorem lk_put {κ : Type} [DecidableEq κ] {ks : List κ} {ds : List D} (q q' : κ) (e : D) (h : ks.length = ds.length) : lkD (ptD ks ds q e).1 (ptD ks ds q e).2 q' = if q' = q then some e else lkD ks ds q' := by
  unfold ptD
  by_cases c : hasD ks q = true
  · rw [if_pos c]; exact lk_ptV ks ds q q' e h c
  · rw [if_neg c]; exact lk_snoc ks ds q q' e h c
theorem put_len {κ : Type} [DecidableEq κ] {ks : List κ} {ds : List D} (q : κ) (e : D) (h : ks.length = ds.length) : (ptD ks ds q e).1.length = (ptD ks ds q e).2.length ∧ (ptD ks ds q e).1.length ≤ ks.length + 1 := by
  unfold ptD
  by_cases c : hasD ks q = true
  · rw [if_pos c]
    exact ⟨by rw [ptV_len ks ds q e h]; exact h, Nat.le_succ _⟩
  · rw [if_neg c]
    exact ⟨by simp [h], by simp⟩
theorem put_dt {n : Nat} {ah : AH} {ks : List (List Key)} {ds : List D} {zs : List D} {q : List Key} {e : D} (h : ah[n]? = some (.dt ks ds)) (hk : keysL zs = some q) (hl : ks.length < sizeLine) : putD (.ref n) (.tup zs) e ah = some (ah.set n (.dt (ptD ks ds q e).1 (ptD ks ds q e).2)) := by
  unfold putD
  simp only [h, hk]
  rw [if_pos hl]
theorem get_dt {ah : AH} {ks : List (List Key)} {ds : List D} {zs : List D} {q : List Key} {e : D} (hk : keysL zs = some q) (hl : lkD ks ds q = some e) : oIx (.dt ks ds) (.tup zs) ah = .ok e ah := by
  unfold oIx dgD dkD dtD
  simp only [hk, hl]
end DL
namespace DL
open PySem PySem.Spec PyProof.Rows L2
def isDD (ah : AH) (d : D) : Bool := (dkD ah d).isSome || (dtD ah d).isSome
def iGet1 (fo f : FE) : FE := fun env ah => (fo env ah).bind fun d ah1 => if isDD ah1 d = true then (f env ah1).bind fun k ah2 => match dgD ah2 d k with
  | some o => .ok (o.getD .non) ah2
  | none => .bad else .bad
def iGet2 (fo f fx : FE) : FE := fun env ah => (fo env ah).bind fun d ah1 => if isDD ah1 d = true then (f env ah1).bind fun k ah2 => (fx env ah2).bind fun x ah3 => match dgD ah3 d k with
  | some o => .ok (o.getD x) ah3
  | none => .bad else .bad
section
variable {G : KW} {W : XW} {η : List Addr} {H : Hp} {ah : AH} {d : D} {v : V}
theorem isD_of (p : HpOk G η H ah) (r : Rel G η H d v) (e : isDD ah d = true) : ∃ a, v = .ref a ∧ IsD H a := by
  unfold isDD at e
  rw [Bool.or_eq_true] at e
  rcases e with e | e
  · obtain ⟨z, hz⟩ := Option.isSome_iff_exists.mp e
    obtain ⟨a, kvs, rfl, h1, _⟩ := dk_rel p r hz
    exact ⟨a, rfl, .inl ⟨kvs, h1⟩⟩
  · obtain ⟨z, hz⟩ := Option.isSome_iff_exists.mp e
    obtain ⟨a, kvs, rfl, h1, _⟩ := dt_rel p r hz
    exact ⟨a, rfl, .inr ⟨kvs, h1⟩⟩
variable {X : Cx} {o e f : Expr} {fo fe fx : FE} {apos cpos : Pos}
theorem j_get1 (hu : X.A.units + 1 < cLine) (ho : PE X o (SX X W fo)) (he : PE X e (SX X W fe)) (hb : attributeBase o "get" X.env (eval o X.env) = eval o X.env := by rfl)
    (hf : ((backTo cpos (starEach [e] X.env)).all (fun x => !x.1) && (backToKw cpos (keywordEach [] X.env)).all (fun x => x.1.isSome) && decide (([e] : List Expr).length + ([] : List Keyword).length + (if ([] : List Keyword).isEmpty then 0 else 1) < 30)) = true := by rfl)
    (hl : (apos.endLine == cpos.line) = true := by rfl) (ht : backTo cpos (starEach [e] X.env) = [(false, eval e X.env)] := by rfl) :
    PE X (.Call (.Attribute o "get" apos) [e] [] cpos) (SX X W (iGet1 fo fe)) :=
  PE.imp (pe_fz (pe_dget1 hu ho he ⟨hb, hf, hl, ht⟩)) fun S H Q ⟨env, ah, η, en, p, h⟩ => ⟨env, ah, η, en, p, h.bind.imp0 fun x η1 H1 ah1 m1 p1 q1 v rv => by
    split at q1
    · rename_i hd
      obtain ⟨a, ev, isd⟩ := isD_of p1 rv hd
      refine ⟨a, ev, isd, env, ah1, η1, en.mv m1, p1, q1.bind.imp0 fun y η2 H2 ah2 m2 p2 q2 u ru => ?_⟩
      split at q2
      · rename_i w hg
        obtain ⟨a', z, ea, g, h1, h2⟩ := dg_rel p2 (rv.mv m2) ru hg
        rw [ev] at ea
        cases ea
        refine ⟨z, g, ?_⟩
        cases w with
        | none => rw [h2 rfl]; exact post_val p2 .non q2
        | some t =>
          obtain ⟨t', e1, r1⟩ := h1 t rfl
          rw [e1]
          exact post_val p2 r1 q2
      · exact q2.elim
    · exact q1.elim⟩
theorem j_get2 (hu : X.A.units + 1 < cLine) (ho : PE X o (SX X W fo)) (he : PE X e (SX X W fe)) (hx : PE X f (SX X W fx)) (hb : attributeBase o "get" X.env (eval o X.env) = eval o X.env := by rfl)
    (hf : ((backTo cpos (starEach [e, f] X.env)).all (fun x => !x.1) && (backToKw cpos (keywordEach [] X.env)).all (fun x => x.1.isSome) && decide (([e, f] : List Expr).length + ([] : List Keyword).length + (if ([] : List Keyword).isEmpty then 0 else 1) < 30)) = true := by rfl)
    (hl : (apos.endLine == cpos.line) = true := by rfl) (ht : backTo cpos (starEach [e, f] X.env) = [(false, eval e X.env), (false, eval f X.env)] := by rfl) :
    PE X (.Call (.Attribute o "get" apos) [e, f] [] cpos) (SX X W (iGet2 fo fe fx)) :=
  PE.imp (pe_fz (pe_dget2 hu ho he hx ⟨hb, hf, hl, ht⟩)) fun S H Q ⟨env, ah, η, en, p, h⟩ => ⟨env, ah, η, en, p, h.bind.imp0 fun x η1 H1 ah1 m1 p1 q1 v rv => by
    split at q1
    · rename_i hd
      obtain ⟨a, ev, isd⟩ := isD_of p1 rv hd
      refine ⟨a, ev, isd, env, ah1, η1, en.mv m1, p1, q1.bind.imp0 fun y η2 H2 ah2 m2 p2 q2 u ru => ⟨env, ah2, η2, (en.mv m1).mv m2, p2, q2.bind.imp0 fun s η3 H3 ah3 m3 p3 q3 t rt => ?_⟩⟩
      split at q3
      · rename_i w hg
        obtain ⟨a', z, ea, g, h1, h2⟩ := dg_rel p3 ((rv.mv m2).mv m3) (ru.mv m3) hg
        rw [ev] at ea
        cases ea
        refine ⟨z, g, ?_⟩
        cases w with
        | none => rw [h2 rfl]; exact post_val p3 rt q3
        | some t =>
          obtain ⟨t', e1, r1⟩ := h1 t rfl
          rw [e1]
          exact post_val p3 r1 q3
      · exact q3.elim
    · exact q1.elim⟩
def rvOk (a b : Int) : Bool := decide (-(2 ^ 62) ≤ a ∧ a < 2 ^ 62 ∧ -(2 ^ 62) ≤ b ∧ b < 2 ^ 62)
def iRevRg (r : FRg) : FI := fun env ah => (r env ah).bind fun x ah1 => if rvOk x.1 x.2 = true then .ok (rangeC (x.1 + (((x.2 - x.1).toNat : Nat) : Int) - 1) (-1) (x.2 - x.1).toNat) ah1 else .bad
theorem i_revRg {tg : Expr} {r : FRg} {p pos : Pos} (hg : Gl X "reversed") (hm : X.mg "reversed" = none) (he : PRg X e (RX X W r)) (hs : starEach [e] X.env = (false, eval e X.env) :: starEach [] X.env := by rfl) :
    PI X tg (.Call (.Name "reversed" p) [e] [] pos) (IX X W (iRevRg r)) :=
  PI.imp (pi_revR hg hm he hs) fun S H R ⟨env, ah, η, en, pk, h⟩ => ⟨env, ah, η, en, pk, h.bind.imp0 fun x η1 H1 ah1 m1 p1 q1 => by
    split at q1
    · rename_i hc
      unfold rvOk at hc
      obtain ⟨c1, c2, c3, c4⟩ := of_decide_eq_true hc
      exact ⟨c1, c2, c3, c4, q1.at p1 _ it_rangeC⟩
    · exact q1.elim⟩
end
end DL
namespace DL
open PySem PySem.Spec PyProof.Rows L2
def firstAt (q : PyData) : List PyData → Option Nat
  | [] => none
  | p :: ps => if PyData.eqv p q = true then some 0 else (firstAt q ps).map (· + 1)
theorem firstAt_ok {q : PyData} : ∀ {ps : List PyData} {j : Nat}, firstAt q ps = some j → (∃ z, ps[j]? = some z ∧ PyData.eqv z q = true) ∧ ∀ (m : Nat) (z' : PyData), m < j → ps[m]? = some z' → PyData.eqv z' q = false
  | [], _, h => nomatch h
  | p :: ps, j, h => by
    unfold firstAt at h
    by_cases c : PyData.eqv p q = true
    · rw [if_pos c] at h
      cases h
      exact ⟨⟨p, rfl, c⟩, fun m _ hm => absurd hm (Nat.not_lt_zero _)⟩
    · rw [if_neg c] at h
      obtain ⟨i, hi, rfl⟩ := Option.map_eq_some_iff.mp h
      obtain ⟨⟨z, h1, h2⟩, h3⟩ := firstAt_ok hi
      refine ⟨⟨z, h1, h2⟩, fun m z' hm hz => ?_⟩
      cases m with
      | zero =>
        cases hz
        exact Bool.eq_false_iff.mpr c
      | succ m => exact h3 m z' (by omega) hz
def oIndex (x y : D) (ah : AH) : Res D := match toPy x, toPy y with
  | some (.list ps), some q => if SeqAt.shaped (.list ps) = true ∧ SeqAt.shaped q = true then (match firstAt q ps with
    | some j => .ok (.int (j : Nat)) ah
    | none => .bad) else .bad
  | _, _ => .bad
def isLs (x : D) : Bool := match x with
  | .lst _ => true
  | _ => false
def iIndex (fo f : FE) : FE := fun env ah => (fo env ah).bind fun x ah1 => if isLs x = true then (f env ah1).bind fun y ah2 => oIndex x y ah2 else .bad
section
variable {X : Cx} {W : XW}
theorem index_ok {G : KW} {η : List Addr} {H : Hp} {ah : AH} {a : Addr} {x y : D} {u : V} {Q : VK} (p : HpOk G η H ah) (rx : Rel G η H x (.ref a)) (ry : Rel G η H y u) (h : Post G W η H (oIndex x y ah) (QV G Q)) : rIndexD G.K (.ref a) [u] H (QF Q) := by
  unfold oIndex at h
  split at h
  · rename_i ps q e1 e2
    split at h
    · rename_i hs
      split at h
      · rename_i j hj
        obtain ⟨⟨z, h1, h2⟩, h3⟩ := firstAt_ok hj
        exact ⟨a, u, q, ps, j, z, rfl, rfl, rel_dp _ rx e1, rel_dp _ ry e2, hs.1, hs.2, h1, h2, h3, post_val p (.int _) h⟩
      · exact h.elim
    · exact h.elim
  · exact h.elim
theorem j_index {o e : Expr} {fo f : FE} {apos cpos : Pos} (hu : X.A.units + 65 < cLine) (ho : PE X o (SX X W fo)) (he : PE X e (SX X W f))
    (hbase : attributeBase o "index" X.env (eval o X.env) = eval o X.env := by rfl)
    (hfew : ((backTo cpos (starEach [e] X.env)).all (fun x => !x.1) && (backToKw cpos (keywordEach [] X.env)).all (fun x => x.1.isSome)
      && decide ([e].length + ([] : List Keyword).length + (if ([] : List Keyword).isEmpty then 0 else 1) < 30)) = true := by rfl)
    (hline : (apos.endLine == cpos.line) = true := by rfl) (hs : starEach [e] X.env = (false, eval e X.env) :: starEach [] X.env := by rfl) (hplain : (backTo cpos (starEach [] X.env)).any (·.1) = false := by rfl) :
    PE X (.Call (.Attribute o "index" apos) [e] [] cpos) (SX X W (iIndex fo f)) :=
  PE.imp (pe_fz (pe_bm PySem.F.plainAttrs_list PySem.F.slot_list_index PySem.F.type_list_index (mt_indexD hu) ho (a_cons he a_nil hs) hbase hfew hline hs hplain)) fun S H Q ⟨env, ah, η, en, pk, h⟩ => by
    refine ⟨env, ah, η, en, pk, h.bind.imp0 fun x η1 H1 ah1 m1 p1 q1 => fun v rvv => ?_⟩
    split at q1
    · rename_i hx
      cases x with
      | lst xs =>
        obtain ⟨a, us, rfl, r1, _, q3⟩ := seq_rel (b := false) (ds := xs) p1 rvv rfl
        refine ⟨.inl ⟨rfl, us, .inl (q3 rfl)⟩, env, ah1, η1, en.mv m1, p1, ?_⟩
        unfold iArgs iArgs
        have q2 := q1.bind.imp0 (Q' := fun y η2 H2 ah2 => Post (gX X) W η2 H2 ((Res.ok [] ah2).bind fun ds ah3 => Res.ok (y :: ds) ah3) fun ds η' H' _ => ∀ vs, RelAll (gX X) η' H' ds vs → rIndexD X.K (.ref a) vs H' (QF Q)) fun y η2 H2 ah2 m2 p2 q2 => ?_
        · revert q2
          generalize f env ah1 = r
          intro q2
          cases r with
          | ok d ah' => exact fun η' H' m p => (q2 η' H' m p).at p
          | exc x e' ah' => exact q2
          | bad => exact q2
        · rw [Res.bind_ok]
          intro η3 H3 m3 p3 us2 rs
          cases rs with
          | cons r rr =>
            cases rr
            exact index_ok p3 ((rvv.mv m2).mv m3) r (q2.mono m3)
      | _ => cases hx
    · exact q1.elim
end
end DL
namespace DL
open PySem PySem.Spec PyProof.Rows L2
theorem RelAll.cat {G : KW} {η : List Addr} {H : Hp} : ∀ {ds es : List D} {vs us : List V}, RelAll G η H ds vs → RelAll G η H es us → RelAll G η H (ds ++ es) (vs ++ us)
  | _, _, _, _, .nil, r => r
  | _, _, _, _, .cons h r, q => .cons h (RelAll.cat r q)
def oExt (x y : D) (ah : AH) : Res D := match x, y with
  | .ref n, .ref m => match ah[n]?, ah[m]? with
    | some (.lst ds), some (.lst es) => if ds.length + es.length ≤ sizeLine then .ok .non (ah.set n (.lst (ds ++ es))) else .bad
    | _, _ => .bad
  | _, _ => .bad
def iExt (fo f : FE) : FE := fun env ah => (fo env ah).bind fun x ah1 => if isLst ah1 x = true then (f env ah1).bind fun y ah2 => oExt x y ah2 else .bad
section
variable {X : Cx} {W : XW}
theorem ext_ok {G : KW} {η : List Addr} {H : Hp} {ah : AH} {x y : D} {v u : V} {Q : VK} (p : HpOk G η H ah) (rx : Rel G η H x v) (ry : Rel G η H y u) (h : Post G W η H (oExt x y ah) (QV G Q)) : rExtend v [u] H Q := by
  unfold oExt at h
  split at h
  · rename_i n k
    cases ry with
    | ref hk =>
      cases rx with
      | ref hn =>
        rename_i c a
        obtain ⟨o, ho, ok⟩ := p.at hn
        obtain ⟨o2, ho2, ok2⟩ := p.at hk
        rw [ho, ho2] at h
        cases o with
        | lst ds =>
          cases o2 with
          | lst es =>
            obtain ⟨vs, h1, r1⟩ := ok
            obtain ⟨us, h2, r2⟩ := ok2
            simp only at h
            split at h
            · rename_i hz
              have m : Mv η H η (upd H a (.lst (vs ++ us))) := .upd (List.mem_of_getElem? hn) h1 (fun _ z => nomatch z) (fun _ _ z => nomatch z)
              exact ⟨a, _, vs, us, rfl, rfl, h1, h2, by rw [← r1.length, ← r2.length]; exact hz, h η _ m (p.put hn h1 (fun _ z => nomatch z) (fun _ _ z => nomatch z) ⟨_, upd_same, (RelAll.cat r1 r2).mv m⟩) _ .non⟩
            · exact h.elim
          | _ => exact h.elim
        | _ => exact h.elim
  · exact h.elim
theorem j_ext {o e : Expr} {fo f : FE} {apos cpos : Pos} (ho : PE X o (SX X W fo)) (he : PE X e (SX X W f))
    (hbase : attributeBase o "extend" X.env (eval o X.env) = eval o X.env := by rfl)
    (hfew : ((backTo cpos (starEach [e] X.env)).all (fun x => !x.1) && (backToKw cpos (keywordEach [] X.env)).all (fun x => x.1.isSome)
      && decide ([e].length + ([] : List Keyword).length + (if ([] : List Keyword).isEmpty then 0 else 1) < 30)) = true := by rfl)
    (hline : (apos.endLine == cpos.line) = true := by rfl) (hs : starEach [e] X.env = (false, eval e X.env) :: starEach [] X.env := by rfl) (hplain : (backTo cpos (starEach [] X.env)).any (·.1) = false := by rfl) :
    PE X (.Call (.Attribute o "extend" apos) [e] [] cpos) (SX X W (iExt fo f)) :=
  PE.imp (pe_bm PySem.F.plainAttrs_list PySem.F.slot_list_extend PySem.F.type_list_extend mt_extend ho (a_cons he a_nil hs) hbase hfew hline hs hplain) fun S H Q ⟨env, ah, η, en, pk, h⟩ => by
    refine ⟨env, ah, η, en, pk, h.bind.imp0 fun x η1 H1 ah1 m1 p1 q1 => fun v rvv => ?_⟩
    split at q1
    · rename_i hx
      obtain ⟨n, a, ds, vs, rfl, rfl, h1, h2, h3, h4⟩ := lst_at p1 rvv hx
      refine ⟨.inl ⟨rfl, vs, .inl (.inl h3)⟩, env, ah1, η1, en.mv m1, p1, ?_⟩
      unfold iArgs iArgs
      have q2 := q1.bind.imp0 (Q' := fun y η2 H2 ah2 => Post (gX X) W η2 H2 ((Res.ok [] ah2).bind fun ds ah3 => Res.ok (y :: ds) ah3) fun ds η' H' _ => ∀ vs, RelAll (gX X) η' H' ds vs → rExtend (.ref a) vs H' Q) fun y η2 H2 ah2 m2 p2 q2 => ?_
      · revert q2
        generalize f env ah1 = r
        intro q2
        cases r with
        | ok d ah' => exact fun η' H' m p => (q2 η' H' m p).at p
        | exc x e' ah' => exact q2
        | bad => exact q2
      · rw [Res.bind_ok]
        intro η3 H3 m3 p3 us rs
        cases rs with
        | cons r rr =>
          cases rr
          exact ext_ok p3 ((rvv.mv m2).mv m3) r (q2.mono m3)
    · exact q1.elim
theorem j_def0 {k : Nat} {f : Addr} {fd : FuncData} {ps : List Str} {F : List D → AH → Res D} {x : Str} {p pos : Pos} (hf : FnG X.prog X.w X.K X.mg X.base CX0 k f fd ps (spN (gX X) 0 F)) (hr : Room k X.A) (hn : NoRepr X.A) (hg : Gl X x) (hm : X.mg x = some (.ref f)) (hk : PySem.W.keepIn X.K (.ref f) = true)
    (hb : Binds X.K fd ps []) (hdb : (x == ("__debug__" : Str)) = false := by decide) : PE X (.Call (.Name x p) [] [] pos) (SX X W (iDef F [])) := PE.imp (pe_callG0 hf hr hn hg hm hk hb .nil pass0 hdb) fun S H Q ⟨env, ah, η, en, pk, h⟩ => by
  have h' : Post (gX X) W η H ((iArgs [] env ah).bind fun ds ah1 => (F ds ah1).nox) (QV (gX X) Q) := h
  rw [show iArgs [] env ah = .ok [] ah from rfl, Res.bind_ok] at h'
  exact ⟨[], ah, η, rfl, .nil, pk, Post.nox h'⟩
theorem Ok1.jd0 {x : Str} {k : Nat} {ps : List Str} {F : List D → AH → Res D} {p pos : Pos} (h : Ok1 X.prog X.w X.K X.mg X.base x k ps F) (hr : Room k X.A) (hn : NoRepr X.A) (hg : Gl X x) (hl : ps.length = 0)
    (hdb : (x == ("__debug__" : Str)) = false := by decide) : PE X (.Call (.Name x p) [] [] pos) (SX X W (iDef F [])) := by
  obtain ⟨f, fd, hm, hk, hb, hf⟩ := h
  rw [hl] at hf
  exact j_def0 hf hr hn hg hm hk hb hdb
end
end DL
namespace DL
open PySem PySem.Spec PyProof.Rows L2
def rMulStr : R2 := fun x y H Q => ∃ z k, x = .str z ∧ y = .int k ∧ MulOk z k ∧ Q (.str (Txt.mul z k)) H
def rMulS (K : PySem.W.Frag) : R2 := fun x y H Q => rMulStr x y H Q ∨ rMulA K x y H Q
section
variable {X : Cx} {W : XW}
theorem op_mulStr : OpR X (binaryOp .Mult) rMulStr := by
  intro pins s σ H x y v u Q I rx ry h
  obtain ⟨z, k, rfl, rfl, hz, q⟩ := h
  obtain ⟨t, rfl⟩ := rx
  obtain ⟨t', rfl⟩ := ry
  exact SB.mul hz fun t' tk => ⟨.str (Txt.mul z k), H, I.tok _, ⟨_, rfl⟩, q⟩
theorem op_mulS : OpR X (binaryOp .Mult) (rMulS X.K) := op_mulStr.or op_mulA
end
theorem mul_fits {z : Str} {k : Int} (h1 : -1000 ≤ k) (h2 : k ≤ 1000) (h3 : z.length ≤ 1000) : MulOk z k := by
  refine ⟨?_, fun c _ => ?_, fun c _ => ?_⟩
  · rw [decide_eq_false (by omega), decide_eq_false (by omega)]; rfl
  · have hm : (z.length : Int) * k ≤ 1000 * 1000 := Int.mul_le_mul (by omega) h2 (by omega) (by omega)
    have := Int.le_ediv_of_mul_le (a := (z.length : Int)) (b := 2 ^ 63 - 1) (c := k) (by omega) (by omega)
    omega
  · have hm : z.length * k.toNat ≤ 1000 * 1000 := Nat.mul_le_mul h3 (by omega)
    unfold Builtin.Str.tooLong
    rw [sizeLine_eq]
    exact decide_eq_false (by omega)
/-- x * y, texts too -/
def oMulS (x y : D) (ah : AH) : Res D := match x, y with
  | .str z, .int k => if -1000 ≤ k ∧ k ≤ 1000 ∧ z.length ≤ 1000 then .ok (.str (Txt.mul z k)) ah else .bad
  | x, y => oMul x y ah
section
variable {G : KW} {W : XW}
theorem ok_mulS : OpOk G W (rMulS G.K) oMulS := by
  intro η H ah x y v u Q p rx ry h
  unfold oMulS at h
  split at h
  · cases rx; cases ry
    split at h
    · rename_i c
      exact .inl ⟨_, _, rfl, rfl, mul_fits c.1 c.2.1 c.2.2, post_val p (.str _) h⟩
    · exact h.elim
  · exact .inr (ok_mul η H ah x _ v u Q p rx ry h)
end
theorem mulS {z : Str} {k : Nat} {ah : AH} (h1 : k ≤ 1000) (h2 : z.length ≤ 1000) : oMulS (.str z) (dI k) ah = .ok (.str (Txt.mul z (k : Int))) ah := by
  show (if -1000 ≤ (k : Int) ∧ (k : Int) ≤ 1000 ∧ z.length ≤ 1000 then Res.ok (D.str (Txt.mul z (k : Int))) ah else .bad) = _
  rw [if_pos ⟨by omega, by omega, h2⟩]
theorem strN {n : Nat} {ah : AH} (h : n < 1000000) : oStr [dI n] ah = .ok (.str (toString ((n : Nat) : Int))) ah ∧ (toString ((n : Nat) : Int) : Str).length ≤ 13 := by
  have s := shw_int (i := ((n : Nat) : Int)) (by omega)
  have s1 : decide (((n : Nat) : Int).natAbs.log2 < 1920) = true := s.sh
  have s2 : decide ((PyData.shown (.int ((n : Nat) : Int))).length ≤ 13) = true := s.lf
  refine ⟨?_, of_decide_eq_true s2⟩
  show (if ((n : Nat) : Int).natAbs.log2 < 1920 then Res.ok (D.str (toString ((n : Nat) : Int))) ah else .bad) = _
  rw [if_pos (of_decide_eq_true s1)]
theorem addS {a b : Str} {ah : AH} (h : a.length + b.length ≤ 1048576) : oAdd (.str a) (.str b) ah = .ok (.str (a ++ b)) ah := by
  show (if a.length + b.length ≤ sizeLine then Res.ok (D.str (a ++ b)) ah else .bad) = _
  rw [if_pos (small h)]
theorem slS {z : Str} {lo hi : Option Int} {ah : AH} (h : z.length ≤ 1048576) : oSl (.str z) lo hi ah = .ok (.str (cutS z lo hi)) ah := by
  show (if z.length ≤ sizeLine then Res.ok (D.str (cutS z lo hi)) ah else .bad) = _
  rw [if_pos (small h)]
theorem cut_len {z : Str} {lo hi : Option Int} : (cutS z lo hi).length ≤ z.length := by
  unfold cutS PySem.Str.length
  simp only [List.size_toArray, List.length_take, List.length_drop]
  have : z.cps.toList.length = z.cps.size := rfl
  omega
theorem app_nil (a : Str) : a ++ (⟨#[]⟩ : Str) = a := by
  cases a
  show Str.mk (_ ++ #[]) = _
  rw [Array.append_empty]
theorem ixS {z : Str} {i : Nat} {c : Nat} {ah : AH} (hz : z.length ≤ 1048576) (h : z.cps.toList[i]? = some c) : oIx (.str z) (dI i) ah = .ok (.str ⟨#[c]⟩) ah := by
  have e : atI z.cps.toList (i : Int) = some c := atI_nat h
  unfold oIx dI
  simp only [seqD]
  rw [if_pos (small hz), e]
end DL
namespace DL
open PySem PySem.Spec PyProof.Rows L2
mutual
/-- plain data: no constant's tuple in it -/
def dat : D → Option PyData
  | .non => some .none
  | .bl b => some (.bool b)
  | .int i => some (.int i)
  | .str x => some (.str x)
  | .tup ds => match datL ds with
    | some ps => some (.tuple ps)
    | none => none
  | .lst ds => match datL ds with
    | some ps => some (.list ps)
    | none => none
  | .ct _ => none
  | .dk _ _ => none
  | .dt _ _ => none
  | .cd _ _ => none
  | .ref _ => none
  | .fn _ => none
  | .ty _ => none
def datL : List D → Option (List PyData)
  | [] => some []
  | d :: ds => match dat d, datL ds with
    | some p, some ps => some (p :: ps)
    | _, _ => none
end
mutual
def ofPy : PyData → D
  | .none => .non
  | .bool b => .bl b
  | .int i => .int i
  | .str x => .str x
  | .list xs => .lst (ofPyL xs)
  | .tuple xs => .tup (ofPyL xs)
  | .dict _ => .non
def ofPyL : List PyData → List D
  | [] => []
  | x :: xs => ofPy x :: ofPyL xs
end
mutual
theorem dat_py : ∀ (d : D) {q : PyData}, dat d = some q → toPy d = some q ∧ ofPy q = d
  | .non, _, e => by simp only [dat] at e; cases e; exact ⟨by simp only [toPy], rfl⟩
  | .bl _, _, e => by simp only [dat] at e; cases e; exact ⟨by simp only [toPy], rfl⟩
  | .int _, _, e => by simp only [dat] at e; cases e; exact ⟨by simp only [toPy], rfl⟩
  | .str _, _, e => by simp only [dat] at e; cases e; exact ⟨by simp only [toPy], rfl⟩
  | .tup ds, _, e => by
    simp only [dat] at e
    split at e
    · rename_i ps h
      cases e
      obtain ⟨h1, h2⟩ := dat_pyL ds h
      exact ⟨by simp only [toPy, h1], by simp only [ofPy, h2]⟩
    · cases e
  | .lst ds, _, e => by
    simp only [dat] at e
    split at e
    · rename_i ps h
      cases e
      obtain ⟨h1, h2⟩ := dat_pyL ds h
      exact ⟨by simp only [toPy, h1], by simp only [ofPy, h2]⟩
    · cases e
  | .ct _, _, e => by simp only [dat] at e; cases e
  | .dk _ _, _, e => by simp only [dat] at e; cases e
  | .dt _ _, _, e => by simp only [dat] at e; cases e
  | .cd _ _, _, e => by simp only [dat] at e; cases e
  | .ref _, _, e => by simp only [dat] at e; cases e
  | .fn _, _, e => by simp only [dat] at e; cases e
  | .ty _, _, e => by simp only [dat] at e; cases e
theorem dat_pyL : ∀ (ds : List D) {qs : List PyData}, datL ds = some qs → toPyL ds = some qs ∧ ofPyL qs = ds
  | [], _, e => by simp only [datL] at e; cases e; exact ⟨by simp only [toPyL], rfl⟩
  | d :: ds, _, e => by
    simp only [datL] at e
    split at e
    · rename_i p ps h1 h2
      cases e
      obtain ⟨a1, a2⟩ := dat_py d h1
      obtain ⟨b1, b2⟩ := dat_pyL ds h2
      exact ⟨by simp only [toPyL, a1, b1], by simp only [ofPyL, a2, b2]⟩
    · cases e
end
theorem datL_get : ∀ {ds : List D} {qs : List PyData} {i : Nat} {d : D}, datL ds = some qs → ds[i]? = some d → ∃ q, qs[i]? = some q ∧ dat d = some q
  | [], _, _, _, _, h => by simp at h
  | d0 :: ds, _, i, d, e, h => by
    simp only [datL] at e
    split at e
    · rename_i p ps h1 h2
      cases e
      cases i with
      | zero => cases h; exact ⟨p, rfl, h1⟩
      | succ i => exact datL_get (i := i) h2 (by simpa using h)
    · cases e
theorem datL_map {α : Type} {e : α → D} {p : α → PyData} (h : ∀ x, dat (e x) = some (p x)) : ∀ xs : List α, datL (xs.map e) = some (xs.map p)
  | [] => rfl
  | x :: xs => by simp only [List.map_cons, datL, h, datL_map h xs]
theorem dp_len {K : PySem.W.Frag} {H : Hp} : ∀ {xs : List V} {qs : List PyData}, DpAll K H xs qs → xs.length = qs.length
  | _, _, .nil => rfl
  | _, _, .cons _ r => by rw [List.length_cons, List.length_cons, dp_len r]
section
variable {X : Cx}
def rBest (K : PySem.W.Frag) (g : PyData → List PyData → PyData) : List V → Hp → VK → Prop := fun vs H Q => ∃ (a : Addr) (xs : List V) (q : PyData) (qs : List PyData), vs = [.ref a] ∧ (SqL K H a xs ∨ SqT K H a xs) ∧ DpAll K H xs (q :: qs) ∧ PySem.W.AlikeAll (q :: qs) ∧ PyData.depthAll (q :: qs) ≤ 40 ∧ ∀ (i : Nat) (x : V), xs[i]? = some x → (q :: qs)[i]? = some (g q qs) → Q x H
theorem best_fin {pnz : List (Addr × Obj)} {σ : L2.St} {H : Hp} {s : Shared} {xs : List V} {its : List Value} {qs : List PyData} {as : List Addr} {Q : VK} {m : PyData} (I : Inv X pnz σ H s) (rv : Vals xs its) (hr : ReadsAll s.heap its qs as) (k : ∀ (i : Nat) (x : V), xs[i]? = some x → qs[i]? = some m → Q x H)
    {i : Nat} {v : Value} {h' : Heap} {tk : Nat} {bs : List Addr} (hv : its.toArray[i]? = some v) (r : Reads h' v m bs) (hk : ∀ b o, s.heap.get? b = some o → h'.get? b = some o) : EP X pnz σ Q v { s with heap := h', toks := tk } := by
  have hv' : its[i]? = some v := by simpa using hv
  obtain ⟨bs', r1, r2, r3, r4⟩ := PySem.W.readsAll_at hr i v hv'
  obtain ⟨e1, e2⟩ := Reads.unique (Reads.keeps hk r1) _ _ r
  have l : i < xs.length := by
    have h1 := (List.getElem?_eq_some_iff.mp hv').1
    rw [rv.length]
    exact h1
  obtain ⟨u, h1, h2⟩ := rv.get (List.getElem?_eq_getElem l)
  rw [hv'] at h1
  cases h1
  refine ⟨xs[i], H, I.kept hk, h2, k i _ (List.getElem?_eq_getElem l) ?_⟩
  rw [List.getElem?_eq_getElem r2]
  rw [← e1, List.getD_eq_getElem?_getD, List.getElem?_eq_getElem r2]
  rfl
theorem cr_minP (hu : X.A.units + 64 < cLine) (hc : X.calm = true) : CallR X (.builtin "min") (rBest X.K PySem.W.minD) := by
  intro pnz s σ H vs us Q I r h
  obtain ⟨a, xs, q, qs, rfl, hs, hd, ha, dp, k⟩ := h
  rw [Vals.ref1 r]
  rcases hs with hs | hs
  · obtain ⟨its, rv, ⟨o, n, ho, hcl, hn, hdt⟩, hz⟩ := I.list hs
    obtain ⟨as, hr⟩ := Dp.readsAll I _ xs its hd rv
    exact PySem.W.min_list_data (vs := its.toArray) (I.ok.hd hc) ⟨o, ho, hcl, n, hdt⟩ (by simpa using hr) ha (by omega) fun i v h' tk bs hv rd hk => best_fin I rv hr k hv rd hk
  · obtain ⟨its, rv, ht, hz⟩ := I.tuple hs
    obtain ⟨as, hr⟩ := Dp.readsAll I _ xs its hd rv
    exact PySem.W.min_tuple_data (vs := its.toArray) (I.ok.hd hc) ht (by simpa using hr) ha (by omega) fun i v h' tk bs hv rd hk => best_fin I rv hr k hv rd hk
theorem cr_maxP (hu : X.A.units + 64 < cLine) (hc : X.calm = true) : CallR X (.builtin "max") (rBest X.K PySem.W.maxD) := by
  intro pnz s σ H vs us Q I r h
  obtain ⟨a, xs, q, qs, rfl, hs, hd, ha, dp, k⟩ := h
  rw [Vals.ref1 r]
  rcases hs with hs | hs
  · obtain ⟨its, rv, ⟨o, n, ho, hcl, hn, hdt⟩, hz⟩ := I.list hs
    obtain ⟨as, hr⟩ := Dp.readsAll I _ xs its hd rv
    exact PySem.W.max_list_data (vs := its.toArray) (I.ok.hd hc) ⟨o, ho, hcl, n, hdt⟩ (by simpa using hr) ha (by omega) fun i v h' tk bs hv rd hk => best_fin I rv hr k hv rd hk
  · obtain ⟨its, rv, ht, hz⟩ := I.tuple hs
    obtain ⟨as, hr⟩ := Dp.readsAll I _ xs its hd rv
    exact PySem.W.max_tuple_data (vs := its.toArray) (I.ok.hd hc) ht (by simpa using hr) ha (by omega) fun i v h' tk bs hv rd hk => best_fin I rv hr k hv rd hk
def rBestD (K : PySem.W.Frag) (g : PyData → List PyData → PyData) (dv : V) : List V → List V → Hp → VK → Prop := fun vs zs H Q => ∃ (a : Addr) (xs : List V) (ps : List PyData), vs = [.ref a] ∧ zs = [dv] ∧ (SqL K H a xs ∨ SqT K H a xs) ∧ DpAll K H xs ps ∧ PySem.W.AlikeAll ps ∧ PyData.depthAll ps ≤ 40 ∧ (ps = [] → Q dv H) ∧ ∀ q qs, ps = q :: qs → ∀ (i : Nat) (x : V), xs[i]? = some x → ps[i]? = some (g q qs) → Q x H
theorem cr_maxPD (hu : X.A.units + 64 < cLine) (hc : X.calm = true) {dv : V} : CallRK X (.builtin "max") [Str.ofString "default"] (rBestD X.K PySem.W.maxD dv) := by
  intro pnz s σ H vs zs us ws Q I r rz h
  obtain ⟨a, xs, ps, rfl, rfl, hs, hd, ha, dp, k0, k⟩ := h
  rw [Vals.ref1 r]
  obtain ⟨w1, rfl, e1⟩ := vals1 rz
  rcases hs with hs | hs
  · obtain ⟨its, rv, ⟨o, n, ho, hcl, hn, hdt⟩, hz⟩ := I.list hs
    obtain ⟨as, hr⟩ := Dp.readsAll I _ xs its hd rv
    exact PySem.W.max_list_default (vs := its.toArray) (I.ok.hd hc) ⟨o, ho, hcl, n, hdt⟩ (by simpa using hr) ha (by omega) (fun z h' tk hk => ⟨dv, H, I.kept hk, e1, k0 z⟩) fun y ys i v h' tk bs ez hv rd hk => best_fin I rv hr (k y ys ez) hv rd hk
  · obtain ⟨its, rv, ht, hz⟩ := I.tuple hs
    obtain ⟨as, hr⟩ := Dp.readsAll I _ xs its hd rv
    exact PySem.W.max_tuple_default (vs := its.toArray) (I.ok.hd hc) ht (by simpa using hr) ha (by omega) (fun z h' tk hk => ⟨dv, H, I.kept hk, e1, k0 z⟩) fun y ys i v h' tk bs ez hv rd hk => best_fin I rv hr (k y ys ez) hv rd hk
theorem cr_minPD (hu : X.A.units + 64 < cLine) (hc : X.calm = true) {dv : V} : CallRK X (.builtin "min") [Str.ofString "default"] (rBestD X.K PySem.W.minD dv) := by
  intro pnz s σ H vs zs us ws Q I r rz h
  obtain ⟨a, xs, ps, rfl, rfl, hs, hd, ha, dp, k0, k⟩ := h
  rw [Vals.ref1 r]
  obtain ⟨w1, rfl, e1⟩ := vals1 rz
  rcases hs with hs | hs
  · obtain ⟨its, rv, ⟨o, n, ho, hcl, hn, hdt⟩, hz⟩ := I.list hs
    obtain ⟨as, hr⟩ := Dp.readsAll I _ xs its hd rv
    exact PySem.W.min_list_default (vs := its.toArray) (I.ok.hd hc) ⟨o, ho, hcl, n, hdt⟩ (by simpa using hr) ha (by omega) (fun z h' tk hk => ⟨dv, H, I.kept hk, e1, k0 z⟩) fun y ys i v h' tk bs ez hv rd hk => best_fin I rv hr (k y ys ez) hv rd hk
  · obtain ⟨its, rv, ht, hz⟩ := I.tuple hs
    obtain ⟨as, hr⟩ := Dp.readsAll I _ xs its hd rv
    exact PySem.W.min_tuple_default (vs := its.toArray) (I.ok.hd hc) ht (by simpa using hr) ha (by omega) (fun z h' tk hk => ⟨dv, H, I.kept hk, e1, k0 z⟩) fun y ys i v h' tk bs ez hv rd hk => best_fin I rv hr (k y ys ez) hv rd hk
def rSortP (K : PySem.W.Frag) : List V → Hp → VK → Prop := fun vs H Q => ∃ (a : Addr) (xs : List V) (qs : List PyData), vs = [.ref a] ∧ SqL K H a xs ∧ DpAll K H xs qs ∧ PySem.W.AllAlike qs ∧ PySem.W.Sortable qs ∧ (∀ q ∈ qs, q.depth ≤ 40) ∧ ∀ p, H p = none → Q (.ref p) (upd H p (.lst (((xs.zip qs).mergeSort (PySem.W.dataLe false fun b : V × PyData => b.2)).map (·.1))))
theorem each_of {h : Heap} : ∀ {xs : List V} {its : List Value} {qs : List PyData} {as : List Addr}, Vals xs its → ReadsAll h its qs as →
    PySem.W.EachIs (fun v (b : V × PyData) => RelV b.1 v) its (xs.zip qs) ∧ PySem.W.EachIs (fun v (b : V × PyData) => ∃ as, Reads h v b.2 as) its (xs.zip qs)
  | _, _, _, _, .nil, .nil => ⟨.nil, .nil⟩
  | _, _, _, _, .cons h1 r1, .cons h2 r2 => by
    obtain ⟨a, b⟩ := each_of r1 r2
    exact ⟨.cons h1 a, .cons ⟨_, h2⟩ b⟩
theorem vals_each : ∀ {out : List Value} {bs : List (V × PyData)}, PySem.W.EachIs (fun v (b : V × PyData) => RelV b.1 v) out bs → Vals (bs.map (·.1)) out
  | _, _, .nil => .nil
  | _, _, .cons h r => .cons h (vals_each r)
theorem cr_sortP (hu : X.A.units + 64 < cLine) : CallR X (.builtin "sorted") (rSortP X.K) := by
  intro pnz s σ H vs us Q I r h
  obtain ⟨a, xs, qs, rfl, hs, hd, hal, hk, dp, q⟩ := h
  rw [Vals.ref1 r]
  obtain ⟨its, rv, ⟨o, n, ho, hcl, hn, hdt⟩, hz⟩ := I.list hs
  obtain ⟨as, hr⟩ := Dp.readsAll I _ xs its hd rv
  obtain ⟨e1, e2⟩ := each_of rv hr
  have lq : xs.length = qs.length := dp_len hd
  have sn : (xs.zip qs).map (fun b : V × PyData => b.2) = qs := List.map_snd_zip (by omega)
  have zl : (xs.zip qs).length = xs.length := by rw [List.length_zip]; omega
  refine PySem.W.sorted_data (enc := fun b : V × PyData => b.2) ⟨o, ho, hcl, n, hdt⟩ e1 e2 (by rw [sn]; exact hal) (by rw [sn]; exact hk) (by rw [zl]; exact hz) (fun b hb => ?_) fun out lo eo => ?_
  · have hb' : b.2 ∈ qs := by rw [← sn]; exact List.mem_map_of_mem hb
    have := dp _ hb'
    omega
  · obtain ⟨ep, at2⟩ := PyProof.Rows.sortedAll_at s.heap its out.toArray
    have lm : (((xs.zip qs).mergeSort (PySem.W.dataLe false fun b : V × PyData => b.2)).map (·.1)).length ≤ sizeLine := by
      rw [List.length_map, List.length_mergeSort, zl]
      exact hz
    exact ⟨.ref _, upd H (s.heap.objs.size + 1) (.lst (((xs.zip qs).mergeSort (PySem.W.dataLe false fun b : V × PyData => b.2)).map (·.1))), I.laid (t' := s.toks) (fun _ _ => PyProof.Rows.sortedAll_old) (Nat.le_succ _) ⟨lm, _, ep, vals_each eo, at2⟩, rfl, q _ (I.hok.fresh (Nat.le_succ _))⟩
end
section
variable {G : KW} {W : XW}
theorem dat_rel {η : List Addr} {H : Hp} {xs : List D} {vs : List V} {qs : List PyData} (r : RelAll G η H xs vs) (e : datL xs = some qs) {i : Nat} {x : V} {m : PyData} (hx : vs[i]? = some x) (hm : qs[i]? = some m) : Rel G η H (ofPy m) x := by
  have l : i < xs.length := by
    rw [r.length]
    exact (List.getElem?_eq_some_iff.mp hx).1
  obtain ⟨q, h1, h2⟩ := datL_get e (List.getElem?_eq_getElem l)
  obtain ⟨v, h3, h4⟩ := r.get (List.getElem?_eq_getElem l)
  rw [hx] at h3
  cases h3
  rw [hm] at h1
  cases h1
  rw [(dat_py _ h2).2]
  exact h4
open Classical in
noncomputable def oBest (g : PyData → List PyData → PyData) (ds : List D) (ah : AH) : Res D := match ds with
  | [x] => match seqD ah x with
    | some (_, xs) => match datL xs with
      | some (q :: qs) => if PySem.W.AlikeAll (q :: qs) ∧ PyData.depthAll (q :: qs) ≤ 40 then .ok (ofPy (g q qs)) ah else .bad
      | _ => .bad
    | none => .bad
  | _ => .bad
noncomputable def oMinP : List D → AH → Res D := oBest PySem.W.minD
noncomputable def oMaxP : List D → AH → Res D := oBest PySem.W.maxD
theorem ok_best (g : PyData → List PyData → PyData) : CaOk G W (rBest G.K g) (oBest g) := by
  intro η H ah ds vs Q p r h
  unfold oBest at h
  split at h
  · split at h
    · rename_i b xs e1
      split at h
      · rename_i q qs e2
        split at h
        · rename_i c
          obtain ⟨v, rfl, rx⟩ := relL1 r
          obtain ⟨a, us, rfl, r1, q1, q2⟩ := seq_rel p rx e1
          refine ⟨a, us, q, qs, rfl, ?_, rel_dpL xs r1 (dat_pyL xs e2).1, c.1, c.2, fun i x hx hm => post_val p (dat_rel r1 e2 hx hm) h⟩
          cases b
          · exact .inl (.inl (q2 rfl))
          · exact .inr (q1 rfl)
        · exact h.elim
      · exact h.elim
    · exact h.elim
  · exact h.elim
open Classical in
noncomputable def oBestD (g : PyData → List PyData → PyData) (c : Int) (ds : List D) (ah : AH) : Res D := match ds with
  | [x] => match seqD ah x with
    | some (_, xs) => match datL xs with
      | some [] => .ok (.int c) ah
      | some (q :: qs) => if PySem.W.AlikeAll (q :: qs) ∧ PyData.depthAll (q :: qs) ≤ 40 then .ok (ofPy (g q qs)) ah else .bad
      | _ => .bad
    | none => .bad
  | _ => .bad
noncomputable def oMinPD : Int → List D → AH → Res D := oBestD PySem.W.minD
noncomputable def oMaxPD : Int → List D → AH → Res D := oBestD PySem.W.maxD
theorem ok_bestD (g : PyData → List PyData → PyData) (c : Int) : CaOk G W (fun vs H Q => rBestD G.K g (.int c) vs [.int c] H Q) (oBestD g c) := by
  intro η H ah ds vs Q p r h
  unfold oBestD at h
  split at h
  · split at h
    · rename_i b xs e1
      obtain ⟨v, rfl, rx⟩ := relL1 r
      obtain ⟨a, us, rfl, r1, q1, q2⟩ := seq_rel p rx e1
      have sq : SqL G.K H a us ∨ SqT G.K H a us := by
        cases b
        · exact .inl (.inl (q2 rfl))
        · exact .inr (q1 rfl)
      split at h
      · rename_i e2
        exact ⟨a, us, [], rfl, rfl, sq, rel_dpL xs r1 (dat_pyL xs e2).1, ⟨fun _ z => absurd z List.not_mem_nil, fun _ z => absurd z List.not_mem_nil⟩, Nat.zero_le _, fun _ => post_val p (.int _) h, fun q qs z => absurd z (by simp)⟩
      · rename_i q qs e2
        split at h
        · rename_i c
          exact ⟨a, us, q :: qs, rfl, rfl, sq, rel_dpL xs r1 (dat_pyL xs e2).1, c.1, c.2, fun z => absurd z (by simp), fun q' qs' z i x hx hm => by
            cases z
            exact post_val p (dat_rel r1 e2 hx hm) h⟩
        · exact h.elim
      · exact h.elim
    · exact h.elim
  · exact h.elim
open Classical in
noncomputable def oSortP (ds : List D) (ah : AH) : Res D := match ds with
  | [x] => match seqD ah x with
    | some (false, xs) => match datL xs with
      | some qs => if PySem.W.AllAlike qs ∧ PySem.W.Sortable qs ∧ ∀ q ∈ qs, q.depth ≤ 40 then .ok (.lst ((qs.mergeSort (PySem.W.dataLe false id)).map ofPy)) ah else .bad
      | none => .bad
    | _ => .bad
  | _ => .bad
theorem all_pairs {η : List Addr} {H : Hp} : ∀ {bs : List (V × PyData)}, (∀ b ∈ bs, Rel G η H (ofPy b.2) b.1) → RelAll G η H (bs.map fun b => ofPy b.2) (bs.map (·.1))
  | [], _ => .nil
  | b :: bs, h => .cons (h b List.mem_cons_self) (all_pairs fun x hx => h x (List.mem_cons_of_mem _ hx))
theorem ok_sortP : CaOk G W (rSortP G.K) oSortP := by
  intro η H ah ds vs Q p r h
  unfold oSortP at h
  split at h
  · split at h
    · rename_i xs e1
      split at h
      · rename_i qs e2
        split at h
        · rename_i c
          obtain ⟨v, rfl, rx⟩ := relL1 r
          obtain ⟨a, us, rfl, r1, q1, q2⟩ := seq_rel p rx e1
          have dq := rel_dpL xs r1 (dat_pyL xs e2).1
          have lq := dp_len dq
          refine ⟨a, us, qs, rfl, .inl (q2 rfl), dq, c.1, c.2.1, c.2.2, fun l hl => post_fz p ?_ h hl⟩
          have sn : (us.zip qs).map (fun b : V × PyData => b.2) = qs := List.map_snd_zip (by omega)
          have e3 : (qs.mergeSort (PySem.W.dataLe false id)).map ofPy = ((us.zip qs).mergeSort (PySem.W.dataLe false fun b : V × PyData => b.2)).map fun b => ofPy b.2 := by
            have := List.map_mergeSort (r := PySem.W.dataLe false fun b : V × PyData => b.2) (s := PySem.W.dataLe false (id : PyData → PyData)) (f := fun b : V × PyData => b.2) (l := us.zip qs) fun a _ b _ => rfl
            rw [sn] at this
            rw [← this, List.map_map]
            rfl
          rw [e3]
          refine all_pairs fun b hb => ?_
          have hb' := List.mem_mergeSort.mp hb
          obtain ⟨i, hi, rfl⟩ := List.mem_iff_getElem.mp hb'
          rw [List.length_zip] at hi
          refine dat_rel r1 e2 (i := i) ?_ ?_
          · rw [List.getElem?_eq_getElem (by omega)]; simp
          · rw [List.getElem?_eq_getElem (by omega)]; simp
        · exact h.elim
      · exact h.elim
    · exact h.elim
  · exact h.elim
end
section
variable {X : Cx} {W : XW} {e : Expr} {f : FE} {p pos : Pos}
theorem cr_minP' (hu : X.A.units + 65 < cLine) (hc : X.calm = true) : CallR X (.builtin "min") (rBest X.K PySem.W.minD) := cr_minP (by omega) hc
theorem cr_maxP' (hu : X.A.units + 65 < cLine) (hc : X.calm = true) : CallR X (.builtin "max") (rBest X.K PySem.W.maxD) := cr_maxP (by omega) hc
theorem cr_sortP' (hu : X.A.units + 65 < cLine) : CallR X (.builtin "sorted") (rSortP X.K) := cr_sortP (by omega)
theorem ok_minP : CaOk (gX X) W (rBest (gX X).K PySem.W.minD) oMinP := ok_best _
theorem ok_maxP : CaOk (gX X) W (rBest (gX X).K PySem.W.maxD) oMaxP := ok_best _
theorem j_maxPD {c : Int} {k1 : Nat} {p1 p2 : Pos} (hu : X.A.units + 65 < cLine) (hc : X.calm = true) (hg : Gl X "max") (hm : X.mg "max" = none) (he : PE X e (SX X W f))
    (h1 : backTo pos (starEach [e] X.env) = (false, eval e X.env) :: backTo pos (starEach [] X.env) := by rfl) (h2 : (backTo pos (starEach [e] X.env)).any (·.1) = false := by rfl) (h3 : starEach [e] X.env = (false, eval e X.env) :: starEach [] X.env := by rfl) :
    PE X (.Call (.Name "max" p) [e] [⟨some "default", .Constant (.int c) k1 p1, p2⟩] pos) (SX X W (iCall (oMaxPD c) [f])) := by
  refine PE.imp (pe_fz (pe_callBK (ks := [Str.ofString "default"]) (cr_maxPD (dv := .int c) (by omega) hc) hg hm boot_max (a_cons he a_nil h3) (pk_cons pe_int pk_nil) (by decide) (by decide) h1 h2)) fun S H Q ⟨env, ah, η, en, pk, h⟩ => ?_
  exact ⟨env, ah, η, en, pk, h.bind.imp0 fun ds η1 H1 ah1 m1 p1 q1 => fun vs rs => ok_bestD _ c η1 H1 ah1 ds vs Q p1 rs q1⟩
theorem j_minPD {c : Int} {k1 : Nat} {p1 p2 : Pos} (hu : X.A.units + 65 < cLine) (hc : X.calm = true) (hg : Gl X "min") (hm : X.mg "min" = none) (he : PE X e (SX X W f))
    (h1 : backTo pos (starEach [e] X.env) = (false, eval e X.env) :: backTo pos (starEach [] X.env) := by rfl) (h2 : (backTo pos (starEach [e] X.env)).any (·.1) = false := by rfl) (h3 : starEach [e] X.env = (false, eval e X.env) :: starEach [] X.env := by rfl) :
    PE X (.Call (.Name "min" p) [e] [⟨some "default", .Constant (.int c) k1 p1, p2⟩] pos) (SX X W (iCall (oMinPD c) [f])) := by
  refine PE.imp (pe_fz (pe_callBK (ks := [Str.ofString "default"]) (cr_minPD (dv := .int c) (by omega) hc) hg hm boot_min (a_cons he a_nil h3) (pk_cons pe_int pk_nil) (by decide) (by decide) h1 h2)) fun S H Q ⟨env, ah, η, en, pk, h⟩ => ?_
  exact ⟨env, ah, η, en, pk, h.bind.imp0 fun ds η1 H1 ah1 m1 p1 q1 => fun vs rs => ok_bestD _ c η1 H1 ah1 ds vs Q p1 rs q1⟩
end
section
variable {ah : AH}
theorem best_eq {g : PyData → List PyData → PyData} {x : D} {b : Bool} {xs : List D} {q : PyData} {qs : List PyData} (h1 : seqD ah x = some (b, xs)) (h2 : datL xs = some (q :: qs)) (h3 : PySem.W.AlikeAll (q :: qs)) (h4 : PyData.depthAll (q :: qs) ≤ 40) : oBest g [x] ah = .ok (ofPy (g q qs)) ah := by
  unfold oBest
  simp only [h1, h2]
  rw [if_pos ⟨h3, h4⟩]
theorem bestD_nil {g : PyData → List PyData → PyData} {c : Int} {x : D} {b : Bool} (h1 : seqD ah x = some (b, [])) : oBestD g c [x] ah = .ok (.int c) ah := by
  unfold oBestD
  simp only [h1, datL]
theorem bestD_eq {g : PyData → List PyData → PyData} {c : Int} {x : D} {b : Bool} {xs : List D} {q : PyData} {qs : List PyData} (h1 : seqD ah x = some (b, xs)) (h2 : datL xs = some (q :: qs)) (h3 : PySem.W.AlikeAll (q :: qs)) (h4 : PyData.depthAll (q :: qs) ≤ 40) : oBestD g c [x] ah = .ok (ofPy (g q qs)) ah := by
  unfold oBestD
  simp only [h1, h2]
  rw [if_pos ⟨h3, h4⟩]
theorem sortP_eq {x : D} {xs : List D} {qs : List PyData} (h1 : seqD ah x = some (false, xs)) (h2 : datL xs = some qs) (h3 : PySem.W.AllAlike qs) (h4 : PySem.W.Sortable qs) (h5 : ∀ q ∈ qs, q.depth ≤ 40) : oSortP [x] ah = .ok (.lst ((qs.mergeSort (PySem.W.dataLe false id)).map ofPy)) ah := by
  unfold oSortP
  simp only [h1, h2]
  rw [if_pos ⟨h3, h4, h5⟩]
theorem depthAll_map {α : Type} {p : α → PyData} {k : Nat} (h : ∀ x, (p x).depth ≤ k) : ∀ xs : List α, PyData.depthAll (xs.map p) ≤ k
  | [] => Nat.zero_le _
  | x :: xs => by
    have := h x
    have := depthAll_map h xs
    simp only [List.map_cons, PyData.depthAll]
    omega
/-- max of natural numbers, or a number -/
theorem maxPD_nat {xs : List Nat} : oMaxPD 0 [.lst (xs.map dI)] ah = .ok (dI (maxL xs)) ah := by
  cases xs with
  | nil => exact bestD_nil (x := .lst []) rfl
  | cons x xs =>
    have d : datL ((x :: xs).map dI) = some ((x :: xs).map fun n : Nat => PyData.int (n : Int)) := datL_map (fun n => by simp only [dI, dat]) _
    refine (bestD_eq (x := .lst ((x :: xs).map dI)) (xs := (x :: xs).map dI) rfl d ⟨fun a ha b hb => ?_, fun a ha => ?_⟩ ?_).trans ?_
    · obtain ⟨n, _, rfl⟩ := List.mem_map.mp (show a ∈ (x :: xs).map fun n : Nat => PyData.int (n : Int) from ha)
      obtain ⟨m, _, rfl⟩ := List.mem_map.mp (show b ∈ (x :: xs).map fun n : Nat => PyData.int (n : Int) from hb)
      rfl
    · obtain ⟨n, _, rfl⟩ := List.mem_map.mp (show a ∈ (x :: xs).map fun n : Nat => PyData.int (n : Int) from ha)
      exact fun z => by cases z
    · exact Nat.le_trans (depthAll_map (p := fun n : Nat => PyData.int (n : Int)) (k := 0) (fun n => Nat.le_refl _) (x :: xs)) (by omega)
    · have e : (xs.map fun n : Nat => PyData.int (n : Int)) = (xs.map fun n : Nat => (n : Int)).map PyData.int := by rw [List.map_map]; rfl
      rw [e, PySem.W.maxD_ints]
      have f : ∀ (ys : List Nat) (y : Nat), (ys.map fun n : Nat => (n : Int)).foldl max (y : Int) = ((ys.foldl max y : Nat) : Int) := fun ys => by
        induction ys with
        | nil => intro y; rfl
        | cons z zs ih =>
          intro y
          rw [List.map_cons, List.foldl_cons, List.foldl_cons, ← ih]
          congr 1
          omega
      rw [f]
      rfl
end
end DL
namespace DL
open PySem PySem.Spec PyProof.Rows L2
section
variable {X : Cx}
def rInP (K : PySem.W.Frag) : R2 := fun x y H Q => ∃ (a : Addr) (xs : List V) (d : PyData) (ds : List PyData), y = .ref a ∧ (SqL K H a xs ∨ SqT K H a xs) ∧ DpAll K H xs ds ∧ Dp K H x d ∧ SeqAt.shaped d = true ∧ SeqAt.shaped (.list ds) = true ∧ Q (.bl (ds.any fun z => PyData.eqv z d)) H
theorem op_inP (hu : X.A.units + 65 < cLine) : OpR X (compareOp .In) (rInP X.K) := by
  intro pins s σ H x y v u Q I rx ry h
  obtain ⟨a, xs, d, ds, rfl, hs, hd, hx, sd, se, q⟩ := h
  obtain ⟨as, r1⟩ := Dp.reads I d x v hx rx
  rcases hs with hs | hs
  · obtain ⟨bs, r2⟩ := Dp.reads I (.list ds) (.ref a) u (.lst hs hd) ry
    exact SeqAt.in_list_reads r2 r1 (SeqAt.canLay_of_shaped se) (SeqAt.canLay_of_shaped sd) (room_in_shaped sd hu) ⟨.bl _, H, I, rfl, q⟩
  · obtain ⟨bs, r2⟩ := Dp.reads I (.tuple ds) (.ref a) u (.tup hs hd) ry
    exact SeqAt.in_tuple_reads r2 r1 (SeqAt.canLay_of_shaped se) (SeqAt.canLay_of_shaped sd) (room_in_shaped sd hu) ⟨.bl _, H, I, rfl, q⟩
end
/-- x in y, y a list or a tuple of data -/
def oInP (x y : D) (ah : AH) : Res D := match seqD ah y with
  | some (_, ys) => match toPy x, toPyL ys with
    | some d, some ds => if SeqAt.shaped d = true ∧ SeqAt.shaped (.list ds) = true then .ok (.bl (ds.any fun z => PyData.eqv z d)) ah else .bad
    | _, _ => .bad
  | none => .bad
section
variable {G : KW} {W : XW}
theorem ok_inP : OpOk G W (rInP G.K) oInP := by
  intro η H ah x y v u Q p rx ry h
  unfold oInP at h
  split at h
  · rename_i b ys e1
    split at h
    · rename_i d ds e2 e3
      split at h
      · rename_i c
        obtain ⟨a, us, rfl, r1, q1, q2⟩ := seq_rel p ry e1
        have sq : SqL G.K H a us ∨ SqT G.K H a us := by
          cases b
          · exact .inl (.inl (q2 rfl))
          · exact .inr (q1 rfl)
        exact ⟨a, us, d, ds, rfl, sq, rel_dpL ys r1 e3, rel_dp x rx e2, c.1, c.2, post_val p (.bl _) h⟩
      · exact h.elim
    · exact h.elim
  · exact h.elim
end
end DL
namespace DL
open PySem PySem.Spec PyProof.Rows L2
section
variable {G : KW} {W : XW}
/-- the sum will change -/
def oAddM (x y : D) (ah : AH) : Res D := match seqD ah x, seqD ah y with
  | some (false, xs), some (false, ys) => if xs.length + ys.length ≤ sizeLine then .ok (.ref ah.length) (ah ++ [.lst (xs ++ ys)]) else .bad
  | _, _ => .bad
theorem ok_addM : OpOk G W (rAddA G.K) oAddM := by
  intro η H ah x y v u Q p rx ry h
  unfold oAddM at h
  split at h
  · rename_i xs ys e1 e2
    split at h
    · rename_i hzz
      obtain ⟨a, vs, rfl, r1, _, q1⟩ := seq_rel p rx e1
      obtain ⟨b, us, rfl, r2, _, q2⟩ := seq_rel p ry e2
      exact .inr (.inr (.inr (.inr ⟨a, b, vs, us, rfl, rfl, q1 rfl, q2 rfl, by rw [← r1.length, ← r2.length]; exact hzz, fun q hq => post_mut p (r1.append r2) h hq⟩)))
    · exact h.elim
  · exact h.elim
def mSplit : Str → D → AH → Res D := fun a y ah => match y with
  | .str b => if (b.length == 0) = false ∧ a.length + 2 ≤ sizeLine then .ok (.lst ((Txt.split a b).map D.str)) ah else .bad
  | _ => .bad
theorem ok_mSplit : MtOk G W (fun x xs H Q => ∃ a b, x = .str a ∧ xs = [.str b] ∧ (b.length == 0) = false ∧ a.length + 2 ≤ sizeLine ∧ rNewStrs (Txt.split a b) H Q) mSplit := by
  intro η H ah a d v Q p r q
  unfold mSplit at q
  split at q
  · cases r
    split at q
    · rename_i c
      exact ⟨a, _, rfl, rfl, c.1, c.2, fun l hl => post_fz p (RelAll.strs _) q hl⟩
    · exact q.elim
  · exact q.elim
def mSIx : Str → D → AH → Res D := fun a y ah => match y with
  | .str b => match Builtin.Str.occurrences a b 0 a.length 1 with
    | i :: _ => .ok (.int (i : Nat)) ah
    | [] => .bad
  | _ => .bad
theorem ok_mSIx : MtOk G W (fun x xs H Q => ∃ a b i rest, x = .str a ∧ xs = [.str b] ∧ Builtin.Str.occurrences a b 0 a.length 1 = i :: rest ∧ Q (.int (i : Nat)) H) mSIx := by
  intro η H ah a d v Q p r q
  unfold mSIx at q
  split at q
  · cases r
    split at q
    · rename_i i rest e
      exact ⟨a, _, i, rest, rfl, rfl, e, post_val p (.int _) q⟩
    · exact q.elim
  · exact q.elim
end
section
variable {X : Cx} {W : XW} {o e : Expr} {fo f : FE} {apos pos : Pos}
def iSplit := iM1 mSplit
theorem j_split (ho : PE X o (SX X W fo)) (he : PE X e (SX X W f)) (hs : starEach [e] X.env = [(false, eval e X.env)] := by rfl) (hbase : attributeBase o "split" X.env (eval o X.env) = eval o X.env := by rfl) (hline : (apos.endLine == pos.line) = true := by rfl) :
    PE X (.Call (.Attribute o "split" apos) [e] [] pos) (SX X W (iSplit fo f)) := j_m1 PySem.F.slot_str_split PySem.F.type_str_split mt_split ok_mSplit ho he hs hbase hline
def iSIx := iM1 mSIx
theorem j_sindex (ho : PE X o (SX X W fo)) (he : PE X e (SX X W f)) (hs : starEach [e] X.env = [(false, eval e X.env)] := by rfl) (hbase : attributeBase o "index" X.env (eval o X.env) = eval o X.env := by rfl) (hline : (apos.endLine == pos.line) = true := by rfl) :
    PE X (.Call (.Attribute o "index" apos) [e] [] pos) (SX X W (iSIx fo f)) := j_m1 PySem.F.slot_str_index PySem.F.type_str_index mt_sindex ok_mSIx ho he hs hbase hline
/-- o[i], p[j] = e -/
def sPut2 (fo fi fp fj f : FE) : FS := fun env ah => (f env ah).bind fun e ah1 => match e with
  | .tup [x, y] => (fo env ah1).bind fun o ah2 => (fi env ah2).bind fun i ah3 => match putD o i x ah3 with
    | some ah4 => (fp env ah4).bind fun p ah5 => (fj env ah5).bind fun j ah6 => match putD p j y ah6 with
      | some ah7 => .ok (.nx, env) ah7
      | none => .bad
    | none => .bad
  | _ => .bad
theorem s_put2 {o i p j e : Expr} {fo fi fp fj f : FE} {kk : Nat} {pos pos1 pos2 pos3 : Pos} (hu : X.A.units + 1 < cLine) (hc : X.calm = true) (ho : PE X o (SX X W fo)) (hi : PE X i (SX X W fi)) (hp : PE X p (SX X W fp)) (hj : PE X j (SX X W fj)) (he : PE X e (SX X W f))
    (ha1 : ∀ v, assign (.Subscript o i pos1) X.env v = (do
      let ov ← holding [v] (eval o X.env)
      let iv ← holding [v, ov] (eval i X.env)
      standAt pos1
      holding [v, ov, iv] (setItem ov iv v)
      release [v, ov, iv] []) := by intro _; rfl)
    (ha2 : ∀ v, assign (.Subscript p j pos2) X.env v = (do
      let ov ← holding [v] (eval p X.env)
      let iv ← holding [v, ov] (eval j X.env)
      standAt pos2
      holding [v, ov, iv] (setItem ov iv v)
      release [v, ov, iv] []) := by intro _; rfl)
    (g1 : (assignEach [.Subscript o i pos1, .Subscript p j pos2] X.env).map (·.2) = assign (.Subscript o i pos1) X.env :: (assignEach [.Subscript p j pos2] X.env).map (·.2) := by rfl)
    (g2 : (assignEach [.Subscript p j pos2] X.env).map (·.2) = assign (.Subscript p j pos2) X.env :: (assignEach [] X.env).map (·.2) := by rfl)
    (hn : (assignEach [.Subscript o i pos1, .Subscript p j pos2] X.env).length = 2 := by rfl) (hst : (assignEach [.Subscript o i pos1, .Subscript p j pos2] X.env).findIdx? (·.1) = none := by rfl)
    (hs : swapsWithSole [.Tuple [.Subscript o i pos1, .Subscript p j pos2] kk pos3] e pos.line X.env = pure false := by rfl) (hw : swappedStores [.Tuple [.Subscript o i pos1, .Subscript p j pos2] kk pos3] e X.env = pure none := by rfl)
    (h1 : (assignEach [.Tuple [.Subscript o i pos1, .Subscript p j pos2] kk pos3] X.env).map (·.2) = [assign (.Tuple [.Subscript o i pos1, .Subscript p j pos2] kk pos3) X.env] := by rfl) :
    PS X (.Assign [.Tuple [.Subscript o i pos1, .Subscript p j pos2] kk pos3] e pos) (SSX X W (sPut2 fo fi fp fj f)) :=
  PS.imp (ps_asg he (pg_tup hc (pgs_cons (pg_sub ho hi (set_all hu) ha1) (pgs_cons (pg_sub hp hj (set_all hu) ha2) pgs_nil g2) g1) hn hst) hs hw h1) fun Dn S H ⟨env, ah, η, en, pk, h⟩ => by
    refine ⟨env, ah, η, en, pk, h.bind.imp0 fun d η1 H1 ah1 m1 p1 q1 => fun v rvv => ?_⟩
    split at q1
    · cases rvv with
      | tup ht r =>
        cases r with
        | cons rx r =>
          cases r with
          | cons ry r =>
            cases r
            refine ⟨_, _, rfl, .inl (.inl ht), rfl, _, _, rfl, env, ah1, η1, en.mv m1, p1, q1.bind.imp0 fun x η2 H2 ah2 m2 p2 q2 => fun w rw' => ?_⟩
            refine ⟨env, ah2, η2, (en.mv m1).mv m2, p2, q2.bind.imp0 fun y η3 H3 ah3 m3 p3 q3 => fun u ru => ?_⟩
            split at q3
            · rename_i ah4 e4
              refine put_ok p3 (rw'.mv m3) ru ((rx.mv m2).mv m3) e4 fun H' m4 p4 => ?_
              have q4 : Post (gX X) W η3 H' ((fp env ah4).bind fun p ah5 => (fj env ah5).bind fun j ah6 => match putD p j _ ah6 with
                | some ah7 => .ok (.nx, env) ah7
                | none => .bad) (QS (gX X) Dn) := Post.mono q3 m4
              have en4 := (((en.mv m1).mv m2).mv m3).mv m4
              refine ⟨_, _, rfl, env, ah4, η3, en4, p4, q4.bind.imp0 fun p' η5 H5 ah5 m5 p5 q5 => fun w2 rw2 => ?_⟩
              refine ⟨env, ah5, η5, en4.mv m5, p5, q5.bind.imp0 fun j' η6 H6 ah6 m6 p6 q6 => fun u2 ru2 => ?_⟩
              split at q6
              · rename_i ah7 e7
                exact put_ok p6 (rw2.mv m6) ru2 (((((ry.mv m2).mv m3).mv m4).mv m5).mv m6) e7 fun H7 m7 p7 => ⟨rfl, q6 η6 H7 m7 p7 S (((en4.mv m5).mv m6).mv m7)⟩
              · exact q6.elim
            · exact q3.elim
    · exact q1.elim
end
end DL
namespace DL
open PySem PySem.Spec PyProof.Rows L2 PySem.W
section
variable {prog : Program} {w : World} {A : Around} {E : Value → Shared → Prop} {s : Shared}
theorem min_two_data {a b : Value} {x y : PyData} {as bs : List Addr} {Q : Value → Shared → Prop} (hh : A.handled = none) (ra : Reads s.heap a x as) (rb : Reads s.heap b y bs) (ha : AlikeAll [x, y]) (hu : A.units + 1 + PyData.depthAll [x, y] < cLine)
    (h : ∀ (i : Nat) v h' tk bs, #[a, b][i]? = some v → Reads h' v (minD x [y]) bs → (∀ b o, s.heap.get? b = some o → h'.get? b = some o) → Q v { s with heap := h', toks := tk }) :
    wpAny (model prog w) A (call (.builtin "min") [a, b]) Q E s := by
  have hname : (toString "min" ++ toString ".loop" : String) = "min.loop" := by decide
  refine call_function_tree F.kind_min F.plain_min F.entry_min (F.args_min2 _ _) ?_
  show wpAny _ A.in1 (Builtin.Builtins.bindParams "min" ["key", "default"] 0 ⟨[], []⟩ >>= _) _ _ s
  refine wpAny_bind (wpAny_of_eq (show Builtin.Builtins.bindParams "min" ["key", "default"] 0 ⟨[], []⟩ = pure [none, none] from rfl) ?_)
  show wpAny _ A.in1 (newTuple [a, b] >>= _) _ _ s
  refine wpAny_bind (wpAny_newObj_type ?_)
  have old' : ∀ (c : Addr) o, s.heap.get? c = some o → (s.heap.push { cls := .type "tuple", data := .seq #[a, b] }).get? c = some o := fun c o e => Heap.get?_push_of_some _ e
  have tup : (s.heap.push { cls := .type "tuple", data := .seq #[a, b] }).IsTuple s.heap.objs.size #[a, b] := ⟨_, Heap.get?_push_size _ rfl, rfl, _, rfl⟩
  have hr : ReadsAll (s.heap.push { cls := .type "tuple", data := .seq #[a, b] }) (#[a, b] : Array Value).toList [x, y] (as ++ (bs ++ [])) := .cons (Reads.keeps old' ra) (.cons (Reads.keeps old' rb) .nil)
  refine wpAny_bind (iter_tupleW (A := A.in1) (s := { s with heap := s.heap.push { cls := .type "tuple", data := .seq #[a, b] } }) hh tup fun s₂ e W st hfp hw hk => ?_)
  refine wpAny_bind (wpAny_newObj_type ?_)
  have hSf : s₂.heap.objs.size ∉ _ := fun hm => Nat.lt_irrefl _ (hfp _ hm)
  rw [hname]
  have cmp := cmpIn_lt (prog := prog) (w := w) (A := A.in1) (s := { s with heap := s.heap.push { cls := .type "tuple", data := .seq #[a, b] } }) hr ha (by show A.units + 1 + _ < _; exact hu)
  refine wpAny_pure ⟨plainId_quiet F.plain_min_loop _, codeAny_min_loop_firstH W _ hw _ cmp s₂.heap.objs.size hSf (fresh_in hk) _ (by show 0 < 2; omega) (fun b o e => Heap.get?_push_of_some _ (hk b o e)) (W.frame 0 s₂ _ s₂.toks st (Nat.le_refl _) fun b _ o e => Heap.get?_push_of_some _ e) (Heap.get?_push_size _ rfl) fun v s' hP hm => ?_⟩
  have m := Moved.drop_new (tk := s₂.toks) hm (Nat.le_refl _)
  obtain ⟨h', tk, rfl, hk'⟩ := moved_old e rfl m
  obtain ⟨cs, r, _, _, _⟩ := readsAll_atA hr _ v hP
  have e2 := (argBest_fold dataLt PyData.none x [y] 1 (Nat.le_refl _)).2
  exact h _ v h' tk cs hP (reads_keeps hk' (by unfold minD; rw [show List.foldl (fun a y => if dataLt y a then y else a) x [y] = List.foldl (fun a y => if dataLt y a then y else a) x ([y].take 1) from rfl, ← e2]; exact r)) fun c o e => hk' c o (old' c o e)
end
section
variable {X : Cx}
def rMin2P (K : PySem.W.Frag) : List V → Hp → VK → Prop := fun vs H Q => ∃ (x y : V) (p q : PyData), vs = [x, y] ∧ Dp K H x p ∧ Dp K H y q ∧ AlikeAll [p, q] ∧ PyData.depthAll [p, q] ≤ 40 ∧ ∀ (i : Nat) (z : V), [x, y][i]? = some z → [p, q][i]? = some (minD p [q]) → Q z H
theorem cr_min2P (hu : X.A.units + 65 < cLine) (hc : X.calm = true) : CallR X (.builtin "min") (rMin2P X.K) := by
  intro pnz s σ H vs us Q I r h
  obtain ⟨x, y, p, q, rfl, dx, dy, ha, dp, k⟩ := h
  obtain ⟨u, w', rfl, rx, ry⟩ := vals2 r
  obtain ⟨as, r1⟩ := Dp.reads I p x u dx rx
  obtain ⟨bs, r2⟩ := Dp.reads I q y w' dy ry
  exact min_two_data (I.ok.hd hc) r1 r2 ha (by omega) fun i v h' tk cs hv rd hk => best_fin I (.cons rx (.cons ry .nil)) (.cons r1 (.cons r2 .nil)) k hv rd hk
end
open Classical in
noncomputable def oMin2P (ds : List D) (ah : AH) : Res D := match ds with
  | [x, y] => match dat x, dat y with
    | some p, some q => if AlikeAll [p, q] ∧ PyData.depthAll [p, q] ≤ 40 then .ok (ofPy (minD p [q])) ah else .bad
    | _, _ => .bad
  | _ => .bad
section
variable {X : Cx} {W : XW}
theorem ok_min2P : CaOk (gX X) W (rMin2P (gX X).K) oMin2P := by
  intro η H ah ds vs Q pk r h
  unfold oMin2P at h
  split at h
  · split at h
    · rename_i x y _ _ p q e1 e2
      split at h
      · rename_i c
        cases r with
        | cons rx r =>
          cases r with
          | cons ry r =>
            cases r
            obtain ⟨t1, o1⟩ := dat_py _ e1
            obtain ⟨t2, o2⟩ := dat_py _ e2
            refine ⟨_, _, p, q, rfl, rel_dp _ rx t1, rel_dp _ ry t2, c.1, c.2, fun i z hz hm => post_val pk ?_ h⟩
            match i, hz, hm with
            | 0, hz, hm =>
              cases hz
              rw [← Option.some.inj hm, o1]
              exact rx
            | 1, hz, hm =>
              cases hz
              rw [← Option.some.inj hm, o2]
              exact ry
            | i + 2, hz, _ => simp at hz
      · exact h.elim
    · exact h.elim
  · exact h.elim
end
theorem min2P_eq {x y : D} {p q : PyData} {ah : AH} (h1 : dat x = some p) (h2 : dat y = some q) (h3 : AlikeAll [p, q]) (h4 : PyData.depthAll [p, q] ≤ 40) : oMin2P [x, y] ah = .ok (ofPy (minD p [q])) ah := by
  unfold oMin2P
  simp only [h1, h2]
  rw [if_pos ⟨h3, h4⟩]
end DL
namespace DL
open PySem PySem.Spec PyProof.Rows L2
def keyOf : Key → D
  | .inl i => .int i
  | .inr x => .str x
def iItemsI (f : FE) : FI := fun env ah => (f env ah).bind fun d ah1 => match d with
  | .dk ks xs => .ok (zipD (ks.map keyOf) xs) ah1
  | _ => .bad
def iValuesI (f : FE) : FI := fun env ah => (f env ah).bind fun d ah1 => match d with
  | .dk _ xs => .ok xs ah1
  | _ => .bad
def iKeysI (f : FE) : FI := fun env ah => (f env ah).bind fun d ah1 => match d with
  | .dk ks _ => .ok (ks.map keyOf) ah1
  | _ => .bad
section
variable {G : KW} {η : List Addr} {H : Hp}
theorem rel_key (k : Key) : Rel G η H (keyOf k) (kV k) := by
  cases k with
  | inl i => exact .int i
  | inr x => exact .str x
theorem it_items {a : Addr} {o : Obj} {kvs : List (Key × V)} {ks : List Key} {ds : List D} (h : H a = some (.frz o (.dK kvs))) (hk : kvs.map (·.1) = ks) (r : RelAll G η H ds (kvs.map (·.2))) : ItOk G η H (Iti a o kvs) (zipD (ks.map keyOf) ds) where
  go := fun i d hd H' e => by
    obtain ⟨x, y, hx, hy, rfl⟩ := zipD_get hd
    obtain ⟨v, hv, rv⟩ := r.get hy
    rw [List.getElem?_map] at hx hv
    obtain ⟨k, hk1, rfl⟩ := Option.map_eq_some_iff.mp hx
    obtain ⟨kv, hkv, rfl⟩ := Option.map_eq_some_iff.mp hv
    rw [← hk, List.getElem?_map, hkv] at hk1
    cases hk1
    have pf := List.prefix_refl η
    refine ⟨⟨e.2 _ _ _ h, (List.getElem?_eq_some_iff.mp hkv).1⟩, fun z H'' w => ?_⟩
    obtain ⟨T, k', v', e1, rfl, hT, rfl⟩ := w
    rw [hkv] at e1
    cases e1
    exact pair_new hT (rel_key _) (rv.ext pf e)
  stop := fun i hi H' e => ⟨e.2 _ _ _ h, by
    have := r.length
    rw [zipD_len, List.length_map, ← hk, List.length_map] at hi
    rw [List.length_map] at this
    omega⟩
theorem it_values {a : Addr} {o : Obj} {kvs : List (Key × V)} {ds : List D} (h : H a = some (.frz o (.dK kvs))) (r : RelAll G η H ds (kvs.map (·.2))) : ItOk G η H (Itd a o kvs) ds where
  go := fun i d hd H' e => by
    obtain ⟨v, hv, rv⟩ := r.get hd
    rw [List.getElem?_map] at hv
    obtain ⟨kv, hkv, rfl⟩ := Option.map_eq_some_iff.mp hv
    have pf := List.prefix_refl η
    refine ⟨⟨e.2 _ _ _ h, (List.getElem?_eq_some_iff.mp hkv).1⟩, fun z H'' w => ?_⟩
    obtain ⟨rfl, k, e1⟩ := w
    rw [hkv] at e1
    cases e1
    exact ⟨Same.refl _, rv.ext pf e⟩
  stop := fun i hi H' e => ⟨e.2 _ _ _ h, by
    have := r.length
    rw [List.length_map] at this
    omega⟩
theorem it_keys {a : Addr} {o : Obj} {kvs : List (Key × V)} {ks : List Key} (h : H a = some (.frz o (.dK kvs))) (hk : kvs.map (·.1) = ks) : ItOk G η H (Itk a o kvs) (ks.map keyOf) where
  go := fun i d hd H' e => by
    rw [List.getElem?_map] at hd
    obtain ⟨k, hk1, rfl⟩ := Option.map_eq_some_iff.mp hd
    rw [← hk, List.getElem?_map] at hk1
    obtain ⟨kv, hkv, rfl⟩ := Option.map_eq_some_iff.mp hk1
    refine ⟨⟨e.2 _ _ _ h, (List.getElem?_eq_some_iff.mp hkv).1⟩, fun z H'' w => ?_⟩
    obtain ⟨rfl, k', v', e1, rfl⟩ := w
    rw [hkv] at e1
    cases e1
    exact ⟨Same.refl _, rel_key _⟩
  stop := fun i hi H' e => ⟨e.2 _ _ _ h, by
    rw [List.length_map, ← hk, List.length_map] at hi
    exact hi⟩
end
section
variable {X : Cx} {W : XW} {e tg : Expr} {f : FE} {apos cpos tpos : Pos} {elts : List Expr} {kk : Nat}
theorem i_items (he : PE X e (SX X W f)) (hbase : attributeBase e "items" X.env (eval e X.env) = eval e X.env := by rfl) (hline : (apos.endLine == cpos.line) = true := by rfl) :
    PI X (.Tuple elts kk tpos) (.Call (.Attribute e "items" apos) [] [] cpos) (IX X W (iItemsI f)) :=
  PI.imp (pi_items (pe_fz he) hbase hline) fun S H R ⟨env, ah, η, en, pk, h⟩ =>
  ⟨env, ah, η, en, pk, h.bind.imp0 fun d η1 H1 ah1 m1 p1 q1 => fun v rv => by
    split at q1
    · cases rv with
      | dk h1 hk r => exact .inl ⟨_, _, _, rfl, h1, q1.at p1 _ (it_items h1 hk r)⟩
    · exact q1.elim⟩
theorem i_values (he : PE X e (SX X W f)) (hbase : attributeBase e "values" X.env (eval e X.env) = eval e X.env := by rfl) (hline : (apos.endLine == cpos.line) = true := by rfl) :
    PI X tg (.Call (.Attribute e "values" apos) [] [] cpos) (IX X W (iValuesI f)) :=
  PI.imp (pi_values (pe_fz he) hbase hline) fun S H R ⟨env, ah, η, en, pk, h⟩ =>
  ⟨env, ah, η, en, pk, h.bind.imp0 fun d η1 H1 ah1 m1 p1 q1 => fun v rv => by
    split at q1
    · cases rv with
      | dk h1 hk r => exact .inl ⟨_, _, _, rfl, h1, q1.at p1 _ (it_values h1 r)⟩
    · exact q1.elim⟩
def rAugS : TIp := fun x y H Q => ∃ i j, x = .int i ∧ y = .int j ∧ Q (.int (i - j)) H
def oAugS (x y : D) (ah : AH) : Res D := match x, y with
  | .int i, .int j => .ok (.int (i - j)) ah
  | _, _ => .bad
theorem ip_subA : PIp X .Sub rAugS := fun pnz s σ H x y v u Q Iv r1 r2 q => ip_sub pnz s σ H x y v u Q Iv r1 r2 q
theorem ok_augS {G : KW} : AuOk G W rAugS oAugS := by
  intro η H ah x y v u Q p rx ry h
  unfold oAugS at h
  split at h
  · cases rx; cases ry; exact ⟨_, _, rfl, rfl, h.at p _ (.int _)⟩
  · exact h.elim
end
end DL
namespace DL
open PySem PySem.Spec PyProof.Rows L2
structure Cod (α : Type) [DecidableEq α] where
  e : α → D
  p : α → PyData
  val : α → Prop
  k : Nat
  n : Nat
  py : ∀ x, toPy (e x) = some (p x)
  shw : ∀ x, val x → Shw k n (p x)
  eqv : ∀ x y, PyData.eqv (p x) (p y) = decide (x = y)
  eqd : k ≤ 40 → ∀ x y, val x → val y → eqD (e x) (e y) = some (decide (x = y))
namespace Cod
section
variable {α β γ : Type} [DecidableEq α] [DecidableEq β] [DecidableEq γ] {ah : AH}
theorem rpr (C : Cod α) {x : α} (h : C.val x) (hk : C.k ≤ 40 := by decide) (hn : C.n ≤ 1048576 := by decide) : rprOk (C.p x) = true := (C.shw x h).rpr hk hn
theorem eq (C : Cod α) {x y : α} (h : C.val x) (h2 : C.val y) (hk : C.k ≤ 40 := by decide) : oEq (C.e x) (C.e y) ah = .ok (.bl (decide (x = y))) ah := by
  unfold oEq
  rw [C.eqd hk x y h h2]
theorem ne (C : Cod α) {x y : α} (h : C.val x) (h2 : C.val y) (hk : C.k ≤ 40 := by decide) : oNe (C.e x) (C.e y) ah = .ok (.bl (!decide (x = y))) ah := by
  unfold oNe
  rw [C.eqd hk x y h h2]
theorem eqd_of {C : Cod α} {x y : α} (h : scalD (C.e x) (C.e y) = none) (hk : C.k ≤ 40) (h1 : C.val x) (h2 : C.val y) : eqD (C.e x) (C.e y) = some (decide (x = y)) := by
  unfold eqD
  have s1 := (C.shw x h1).shaped hk
  have s2 := (C.shw y h2).shaped hk
  simp only [h, C.py, s1, s2, and_self, if_true, C.eqv]
def nat : Cod Nat where
  e := dI
  p x := .int (x : Int)
  val x := x < 1000000000000
  k := 0
  n := 0
  py _ := rfl
  shw x h := shw_int (by omega)
  eqv x y := eqv_natI x y
  eqd _ x y _ _ := by
    show some (decide ((x : Int) = (y : Int))) = _
    congr 1
    rw [decide_eq_decide]
    omega
def int : Cod Int where
  e := D.int
  p x := .int x
  val x := x.natAbs < 1000000000000
  k := 0
  n := 0
  py _ := rfl
  shw x h := shw_int h
  eqv x y := eqv_intI x y
  eqd _ x y _ _ := rfl
theorem shwB (b : Bool) : Shw 0 0 (.bool b) := by cases b <;> exact ⟨rfl, by decide +kernel, by decide +kernel, rfl, by decide +kernel, by decide +kernel⟩
def bool : Cod Bool where
  e := D.bl
  p x := .bool x
  val _ := True
  k := 0
  n := 0
  py _ := rfl
  shw x _ := shwB x
  eqv x y := by cases x <;> cases y <;> decide +kernel
  eqd _ x y _ _ := rfl
theorem eqv_pair {a b c d : PyData} : PyData.eqv (.tuple [a, b]) (.tuple [c, d]) = (PyData.eqv a c && PyData.eqv b d) := by
  simp only [PyData.eqv, PyData.eqvAll, Bool.and_true]
/-- a tuple of alike things, at most m -/
def tup (m : Nat) (C : Cod α) : Cod (List α) where
  e xs := .tup (xs.map C.e)
  p xs := .tuple (xs.map C.p)
  val xs := xs.length ≤ m ∧ ∀ x ∈ xs, C.val x
  k := C.k + 1
  n := m * (C.n + 1)
  py xs := by
    unfold toPy
    simp only [py_map C.py xs]
  shw xs h := by
    have := shw_tup (k := C.k) (n := C.n) (xs := xs.map C.p) fun y hy => by
      obtain ⟨x, hx, rfl⟩ := List.mem_map.mp hy
      exact C.shw x (h.2 x hx)
    rw [List.length_map] at this
    exact this.mono (Nat.le_refl _) (Nat.mul_le_mul_right _ h.1)
  eqv xs ys := eqv_tupM C.eqv xs ys
  eqd hk xs ys h1 h2 := by
    have s : ∀ xs : List α, (xs.length ≤ m ∧ ∀ x ∈ xs, C.val x) → SeqAt.shaped (.tuple (xs.map C.p)) = true := fun xs h => (shw_tup (k := C.k) (n := C.n) fun y hy => by
      obtain ⟨x, hx, rfl⟩ := List.mem_map.mp hy
      exact C.shw x (h.2 x hx)).shaped hk
    unfold eqD
    have z : scalD (.tup (xs.map C.e)) (.tup (ys.map C.e)) = none := rfl
    have t : ∀ xs : List α, toPy (.tup (xs.map C.e)) = some (.tuple (xs.map C.p)) := fun xs => by
      unfold toPy
      simp only [py_map C.py xs]
    simp only [z, t, s xs h1, s ys h2, and_self, if_true, eqv_tupM C.eqv xs ys]
theorem eqv_lstM {p : α → PyData} (h : ∀ x y, PyData.eqv (p x) (p y) = decide (x = y)) (xs ys : List α) : PyData.eqv (.list (xs.map p)) (.list (ys.map p)) = decide (xs = ys) := by rw [PyData.eqv]; exact eqv_map h xs ys
def lst (m : Nat) (C : Cod α) : Cod (List α) where
  e xs := .lst (xs.map C.e)
  p xs := .list (xs.map C.p)
  val xs := xs.length ≤ m ∧ ∀ x ∈ xs, C.val x
  k := C.k + 1
  n := m * (C.n + 1)
  py xs := by
    unfold toPy
    simp only [py_map C.py xs]
  shw xs h := by
    have := shw_lst (k := C.k) (n := C.n) (xs := xs.map C.p) fun y hy => by
      obtain ⟨x, hx, rfl⟩ := List.mem_map.mp hy
      exact C.shw x (h.2 x hx)
    rw [List.length_map] at this
    exact this.mono (Nat.le_refl _) (Nat.mul_le_mul_right _ h.1)
  eqv xs ys := eqv_lstM C.eqv xs ys
  eqd hk xs ys h1 h2 := by
    have s : ∀ xs : List α, (xs.length ≤ m ∧ ∀ x ∈ xs, C.val x) → SeqAt.shaped (.list (xs.map C.p)) = true := fun xs h => (shw_lst (k := C.k) (n := C.n) fun y hy => by
      obtain ⟨x, hx, rfl⟩ := List.mem_map.mp hy
      exact C.shw x (h.2 x hx)).shaped hk
    unfold eqD
    have z : scalD (.lst (xs.map C.e)) (.lst (ys.map C.e)) = none := rfl
    have t : ∀ xs : List α, toPy (.lst (xs.map C.e)) = some (.list (xs.map C.p)) := fun xs => by
      unfold toPy
      simp only [py_map C.py xs]
    simp only [z, t, s xs h1, s ys h2, and_self, if_true, eqv_lstM C.eqv xs ys]
/-- a pair -/
def pair (A : Cod α) (B : Cod β) : Cod (α × β) where
  e x := .tup [A.e x.1, B.e x.2]
  p x := .tuple [A.p x.1, B.p x.2]
  val x := A.val x.1 ∧ B.val x.2
  k := max A.k B.k + 1
  n := 2 * (max A.n B.n + 1)
  py x := by simp only [toPy, toPyL, A.py, B.py]
  shw x h := shw_tup (xs := [A.p x.1, B.p x.2]) fun y hy => by
    rcases List.mem_cons.mp hy with rfl | hy
    · exact (A.shw _ h.1).mono (Nat.le_max_left _ _) (Nat.le_max_left _ _)
    · rw [List.mem_singleton.mp hy]
      exact (B.shw _ h.2).mono (Nat.le_max_right _ _) (Nat.le_max_right _ _)
  eqv x y := by
    rw [eqv_pair, A.eqv, B.eqv, ← Bool.decide_and, decide_eq_decide]
    exact ⟨fun h => Prod.ext h.1 h.2, fun h => ⟨congrArg _ h, congrArg _ h⟩⟩
  eqd hk x y h1 h2 := by
    have s : ∀ x : α × β, A.val x.1 ∧ B.val x.2 → SeqAt.shaped (.tuple [A.p x.1, B.p x.2]) = true := fun x h => (shw_tup (k := max A.k B.k) (n := max A.n B.n) (xs := [A.p x.1, B.p x.2]) fun y hy => by
      rcases List.mem_cons.mp hy with rfl | hy
      · exact (A.shw _ h.1).mono (Nat.le_max_left _ _) (Nat.le_max_left _ _)
      · rw [List.mem_singleton.mp hy]
        exact (B.shw _ h.2).mono (Nat.le_max_right _ _) (Nat.le_max_right _ _)).shaped hk
    unfold eqD
    have z : scalD (.tup [A.e x.1, B.e x.2]) (.tup [A.e y.1, B.e y.2]) = none := rfl
    have t : ∀ x : α × β, toPy (.tup [A.e x.1, B.e x.2]) = some (.tuple [A.p x.1, B.p x.2]) := fun x => by simp only [toPy, toPyL, A.py, B.py]
    have v : PyData.eqv (.tuple [A.p x.1, B.p x.2]) (.tuple [A.p y.1, B.p y.2]) = decide (x = y) := by
      rw [eqv_pair, A.eqv, B.eqv, ← Bool.decide_and, decide_eq_decide]
      exact ⟨fun h => Prod.ext h.1 h.2, fun h => ⟨congrArg _ h, congrArg _ h⟩⟩
    simp only [z, t, s x h1, s y h2, and_self, if_true, v]
end
end Cod
end DL
namespace DL
open PySem PySem.Spec PyProof.Rows L2
theorem put_at {a : AH} {r s : Nat} {ds : List D} {v : D} (h : a[r]? = some (.lst ds)) (hs : s < ds.length) : putD (.ref r) (dI s) v a = some (a.set r (.lst (ds.set s v))) := by
  have e : ixN ds.length (s : Int) = some s := by
    unfold ixN
    rw [if_pos (by omega), if_pos (by omega)]
    simp
  unfold putD dI
  simp only [h, e]
theorem at_neg1 {xs : List D} {d : D} (h : xs[xs.length - 1]? = some d) : atI xs (-1) = some d := by
  have hl := (List.getElem?_eq_some_iff.mp h).1
  unfold atI ixN
  rw [if_neg (by decide), if_pos (by omega)]
  have : ((-1 : Int) + (xs.length : Int)).toNat = xs.length - 1 := by omega
  first
    | (simp only [Option.bind_some, this]; exact h)
    | (show xs[((-1 : Int) + (xs.length : Int)).toNat]? = some d; rw [this]; exact h)
theorem flatL_int (xs : List Int) : flatL (xs.map D.int) = some (xs.map V.int) := by
  induction xs with
  | nil => rfl
  | cons x xs ih =>
    rw [List.map_cons, List.map_cons]
    unfold flatL
    rw [ih]
    rfl
theorem inV_int (x : Int) (xs : List Int) : inV (.int x) (xs.map V.int) = decide (x ∈ xs) := by
  induction xs with
  | nil => rfl
  | cons y ys ih =>
    unfold inV at ih ⊢
    rw [List.map_cons, List.any_cons, ih]
    show (decide (y = x) || decide (x ∈ ys)) = decide (x ∈ y :: ys)
    rw [Bool.eq_iff_iff]
    simp only [Bool.or_eq_true, decide_eq_true_eq, List.mem_cons]
    exact ⟨fun h => h.elim (fun z => .inl z.symm) .inr, fun h => h.elim (fun z => .inl z.symm) .inr⟩
theorem notin_lst {x : Nat} {xs : List Int} {ah : AH} : oNotIn (dI x) (.lst (xs.map D.int)) ah = .ok (.bl (!decide ((x : Int) ∈ xs))) ah := by
  have e : oInB ah (dI x) (.lst (xs.map D.int)) = some (decide ((x : Int) ∈ xs)) := by
    unfold oInB dI
    simp only [seqD, flatD, flatL_int, inV_int]
  unfold oNotIn
  rw [e]
theorem notin_tup {x : Nat} {xs : List Int} {ah : AH} : oNotIn (dI x) (.tup (xs.map D.int)) ah = .ok (.bl (!decide ((x : Int) ∈ xs))) ah := by
  have e : oInB ah (dI x) (.tup (xs.map D.int)) = some (decide ((x : Int) ∈ xs)) := by
    unfold oInB dI
    simp only [seqD, flatD, flatL_int, inV_int]
  unfold oNotIn
  rw [e]
theorem notin_ref {x n : Nat} {xs : List Int} {ah : AH} (h : ah[n]? = some (.lst (xs.map D.int))) : oNotIn (dI x) (.ref n) ah = .ok (.bl (!decide ((x : Int) ∈ xs))) ah := by
  have e : oInB ah (dI x) (.ref n) = some (decide ((x : Int) ∈ xs)) := by
    unfold oInB dI
    simp only [seqD, h, flatD, flatL_int, inV_int]
  unfold oNotIn
  rw [e]
/-- what is put -/
theorem nat_mem (x : Nat) (xs : List Nat) : ((x : Int) ∈ xs.map fun n : Nat => (n : Int)) ↔ x ∈ xs := by
  rw [List.mem_map]
  exact ⟨fun ⟨y, h, e⟩ => by have : y = x := by omega
                             rw [← this]; exact h, fun h => ⟨x, h, rfl⟩⟩
theorem forL_cons {g : D → AE → Option AE} {body : FS} {d : D} {ds : List D} {env env1 env2 : AE} {ah a2 : AH} {r : Res (Fl × AE)} (h1 : g d env = some env1) (h2 : body env1 ah = .ok (.nx, env2) a2) (h3 : forL g body ds env2 a2 = r) : forL g body (d :: ds) env ah = r := by
  simp only [forL, h1, h2, Res.bind_ok]
  exact h3
theorem forL_ret {g : D → AE → Option AE} {body : FS} {d z : D} {ds : List D} {env env1 env2 : AE} {ah a2 : AH} (h1 : g d env = some env1) (h2 : body env1 ah = .ok (.rt z, env2) a2) : forL g body (d :: ds) env ah = .ok (.rt z, env2) a2 := by
  simp only [forL, h1, h2, Res.bind_ok]
theorem len_ref {a : AH} {r : Nat} {ds : List D} (h : a[r]? = some (.lst ds)) : oLen [.ref r] a = .ok (dI ds.length) a := by
  have e : seqD a (.ref r) = some (false, ds) := by simp only [seqD, h]
  unfold oLen
  simp only [e]
  rfl
def dN (xs : List Nat) : D := .tup (xs.map dI)
theorem back {α : Type} {e : α → D} {P : α → Prop} : ∀ {ys : List D}, (∀ y ∈ ys, ∃ x, y = e x ∧ P x) → ∃ xs : List α, ys = xs.map e ∧ ∀ x ∈ xs, P x
  | [], _ => ⟨[], rfl, fun _ h => absurd h List.not_mem_nil⟩
  | y :: ys, h => by
    obtain ⟨x, rfl, hx⟩ := h y List.mem_cons_self
    obtain ⟨xs, rfl, hxs⟩ := back (ys := ys) fun z hz => h z (List.mem_cons_of_mem _ hz)
    exact ⟨x :: xs, rfl, fun z hz => by
      rcases List.mem_cons.mp hz with rfl | q
      · exact hx
      · exact hxs z q⟩
theorem shrN {a b : Nat} {ah : AH} (h : b ≤ 1000) : oShr (dI a) (dI b) ah = .ok (dI (a / 2 ^ b)) ah := by
  have e : (a : Int) / 2 ^ (b : Int).toNat = ((a / 2 ^ b : Nat) : Int) := by
    rw [Int.toNat_natCast, Int.natCast_ediv, Int.natCast_pow]
    rfl
  have c : Cnn (a : Int) (b : Int) := by
    first
      | (unfold Cnn; omega)
      | exact ⟨by omega, by omega⟩
      | (simp [Cnn]; omega)
  unfold oShr oI dI
  simp only [c, if_true, e]
/-- a comprehension whose test changes the heap -/
theorem compL_fil {α : Type} {g : D → AE → Option AE} {t : FT} {f : FE} {env : AE} {e : α → D} {P : AH → Prop} : ∀ {xs : List α} {acc : List D} {ah : AH}, P ah → (∀ x ∈ xs, ∀ a, P a → ∃ env1 b a', g (e x) env = some env1 ∧ t env1 a = .ok b a' ∧ (b = true → f env1 a' = .ok (e x) a') ∧ P a') → acc.length + xs.length ≤ sizeLine →
    ∃ (ys : List α) (ah' : AH), compL g t f env (xs.map e) acc ah = .ok (acc ++ ys.map e) ah' ∧ ys.Sublist xs ∧ P ah'
  | [], acc, ah, h0, _, _ => ⟨[], ah, by simp [compL], List.Sublist.refl _, h0⟩
  | x :: xs, acc, ah, h0, h, hz => by
    obtain ⟨env1, b, a', h1, h2, h3, hp⟩ := h x List.mem_cons_self ah h0
    rw [List.length_cons] at hz
    cases b with
    | true =>
      have h4 := h3 rfl
      obtain ⟨ys, ah', k1, k2, k4⟩ := compL_fil (acc := acc ++ [e x]) (xs := xs) hp (fun z hz a => h z (List.mem_cons_of_mem _ hz) a) (by simp; omega)
      refine ⟨x :: ys, ah', ?_, k2.cons_cons x, k4⟩
      simp only [List.map_cons, compL, h1, h2, h4, Res.nox_ok, Res.bind_ok, if_true]
      rw [if_pos (by omega), k1]
      simp
    | false =>
      obtain ⟨ys, ah', k1, k2, k4⟩ := compL_fil (acc := acc) (xs := xs) hp (fun z hz a => h z (List.mem_cons_of_mem _ hz) a) (by omega)
      refine ⟨ys, ah', ?_, k2.cons x, k4⟩
      simp only [List.map_cons, compL, h1, h2, Res.nox_ok, Res.bind_ok]
      rw [if_neg Bool.false_ne_true, k1]
theorem fl2 {α : Type} (c : α → Bool) (L : List α) : (L.filter c).length + (L.filter fun x => !c x).length = L.length := by
  induction L with
  | nil => rfl
  | cons x L ih =>
    rw [List.filter_cons, List.filter_cons]
    cases c x <;> simp <;> omega
theorem sIfR {t : FT} {s s2 r : FS} {env env1 : AE} {ah a1 a2 : AH} {d : D} (h1 : t env ah = .ok true a1) (h2 : s env a1 = .ok (.rt d, env1) a2) : sSeq (sIf t s s2) r env ah = .ok (.rt d, env1) a2 := eSeqR (eSIfT h1 h2)
theorem two_of {x y : D} {a : AH} : oLen [.tup [x, y]] a = .ok (dI 2) a := rfl
theorem eTupRgN {f : FE} {env : AE} {a : AH} {S : Nat} (h : f env a = .ok (dI S) a) (hS : S ≤ 1000) : iTupRg (iRg1 f) env a = .ok (.tup ((List.range S).map dI)) a := by
  have e : iRg1 f env a = .ok (0, (S : Int)) a := by
    unfold iRg1
    rw [h, Res.bind_ok]
    rfl
  unfold iTupRg
  rw [e, Res.bind_ok, if_pos (by unfold rgOk; exact decide_eq_true ⟨by omega, by omega, by omega, by omega, by omega⟩)]
  unfold rgD
  congr 2
  rw [show ((S : Int) - 0).toNat = S by omega]
  exact List.map_congr_left fun i _ => by rw [Int.zero_add]; rfl
theorem ix_last {n : Nat} {a : AH} {xs : List D} {d : D} (h : a[n]? = some (.lst xs)) (hd : xs[xs.length - 1]? = some d) : oIx (.ref n) (.int (-1)) a = .ok d a := by
  have e : atI xs (-1) = some d := at_neg1 hd
  unfold oIx
  have z : dgD a (.ref n) (.int (-1)) = none := by
    unfold dgD dkD dtD
    simp only [h]
  simp only [z, seqD, h, e]
theorem notin_natL {x : Nat} {xs : List Nat} {ah : AH} : oNotIn (dI x) (.lst (xs.map dI)) ah = .ok (.bl (!decide (x ∈ xs))) ah := by
  have h := notin_lst (x := x) (xs := xs.map fun n : Nat => (n : Int)) (ah := ah)
  rw [List.map_map, decide_eq_decide.mpr (nat_mem x xs)] at h
  exact h
/-- None or a number -/
def dO : Option Nat → D
  | none => .non
  | some r => dI r
theorem neS {x y : Str} {ah : AH} : oNe (.str x) (.str y) ah = .ok (.bl (!decide (x = y))) ah := rfl
theorem is_dO {o : Option Nat} {ah : AH} : oIs (dO o) .non ah = .ok (.bl (decide (o = none))) ah := by cases o <;> rfl
theorem isNot_dO {o : Option Nat} {ah : AH} : oIsNot (dO o) .non ah = .ok (.bl (!decide (o = none))) ah := by cases o <;> rfl
theorem eRetR {f : FE} {env : AE} {ah a1 : AH} {d : D} (h1 : f env ah = .ok d a1) : sRet f env ah = .ok (.rt d, env) a1 := eRet h1
theorem forL_nil {g : D → AE → Option AE} {body : FS} {env : AE} {ah : AH} : forL g body [] env ah = .ok (.nx, env) ah := rfl
/-- the numbers from k on, one by one -/
theorem from_cons {k n : Nat} (h : k < n) : ((List.range (n - k)).map fun i => dI (k + i)) = dI k :: (List.range (n - (k + 1))).map fun i => dI (k + 1 + i) := by
  rw [show n - k = n - (k + 1) + 1 by omega, List.range_succ_eq_map, List.map_cons, List.map_map, Nat.add_zero]
  congr 1
  refine List.map_congr_left fun i _ => ?_
  show dI (k + (i + 1)) = _
  rw [show k + (i + 1) = k + 1 + i by omega]
theorem from_nil {k n : Nat} (h : n ≤ k) : ((List.range (n - k)).map fun i => dI (k + i)) = [] := by rw [show n - k = 0 by omega]; rfl
theorem from_zero {n : Nat} : ((List.range (n - 0)).map fun i => dI (0 + i)) = (List.range n).map dI := by
  rw [Nat.sub_zero]
  exact List.map_congr_left fun i _ => by rw [Nat.zero_add]
theorem drop_cons {α : Type} {x : α} {p xs : List α} {k : Nat} (h : p.drop k = x :: xs) : p[k]? = some x ∧ p.drop (k + 1) = xs ∧ k < p.length := by
  have hk : k < p.length := by
    rcases Nat.lt_or_ge k p.length with z | z
    · exact z
    · rw [List.drop_eq_nil_of_le z] at h; cases h
  rw [List.drop_eq_getElem_cons hk] at h
  injection h with h1 h2
  exact ⟨by rw [List.getElem?_eq_getElem hk, h1], h2, hk⟩
theorem drop_nil {α : Type} {p : List α} {k : Nat} (h : p.drop k = []) : p.length ≤ k := by
  rcases Nat.lt_or_ge k p.length with z | z
  · rw [List.drop_eq_getElem_cons z] at h; cases h
  · exact z
theorem compL2_map {α β : Type} {g g1 : D → AE → Option AE} {t t1 : FT} {fi1 : FI} {f : FE} {vs1 : List Nat} {env : AE} {ah : AH} {e : α → D} {e1 : β → D} {ys : α → List β} {o : α → β → D} : ∀ {xs : List α} {acc : List D},
    (∀ x ∈ xs, ∃ env1, g (e x) env = some env1 ∧ t env1 ah = .ok true ah ∧ fi1 env1 ah = .ok ((ys x).map e1) ah ∧ ∀ y ∈ ys x, ∃ env2, g1 (e1 y) (wipeA env1 vs1) = some env2 ∧ t1 env2 ah = .ok true ah ∧ f env2 ah = .ok (o x y) ah) →
    acc.length + (xs.flatMap fun x => (ys x).map (o x)).length ≤ sizeLine → compL2 g t fi1 g1 t1 f vs1 env (xs.map e) acc ah = .ok (acc ++ xs.flatMap fun x => (ys x).map (o x)) ah
  | [], acc, _, _ => by simp [compL2]
  | x :: xs, acc, h, hz => by
    obtain ⟨env1, h1, h2, h3, h4⟩ := h x List.mem_cons_self
    rw [List.flatMap_cons, List.length_append, List.length_map] at hz
    simp only [List.map_cons, compL2, h1, h2, h3, Res.nox_ok, Res.bind_ok, if_true]
    rw [compL_map h4 (by omega), Res.bind_ok, compL2_map (fun y hy => h y (List.mem_cons_of_mem _ hy)) (by rw [List.length_append, List.length_map]; omega), List.flatMap_cons, List.append_assoc]
theorem eLc2 {g g1 : D → AE → Option AE} {t t1 : FT} {fi fi1 : FI} {f : FE} {vs vs1 : List Nat} {env : AE} {ah a1 a2 : AH} {ds xs : List D} (h1 : fi env ah = .ok ds a1) (h2 : compL2 g t fi1 g1 t1 f vs1 (wipeA env vs) ds [] a1 = .ok xs a2) : iLc2 fi g t fi1 g1 t1 f vs vs1 env ah = .ok (.lst xs) a2 := by unfold iLc2; rw [h1, Res.bind_ok, h2, Res.bind_ok]
theorem rgM {env : AE} {ah : AH} {n : Nat} {f : FE} (h : f env ah = .ok (dI n) ah) (hn : n ≤ 1048576) : iLstRgM (iRg1 f) env ah = .ok (.ref ah.length) (ah ++ [.lst ((List.range n).map dI)]) := by
  have e : iRg1 f env ah = .ok (0, (n : Int)) ah := by
    unfold iRg1
    rw [h, Res.bind_ok]
    rfl
  unfold iLstRgM
  rw [e, Res.bind_ok]
  have r : rgOk 0 (n : Int) = true := by unfold rgOk; exact decide_eq_true ⟨by omega, by omega, by omega, by omega, by omega⟩
  have d : rgD 0 (n : Int) = (List.range n).map dI := by
    unfold rgD
    rw [show ((n : Int) - 0).toNat = n by omega]
    exact List.map_congr_left fun i _ => by rw [Int.zero_add]; rfl
  simp only [r, if_true, d]
theorem compL2_fil {α β : Type} {g g1 : D → AE → Option AE} {t t1 : FT} {fi1 : FI} {f : FE} {vs1 : List Nat} {env : AE} {ah : AH} {e : α → D} {e1 : β → D} {ys : α → List β} {c : α → β → Bool} {o : α → β → D} : ∀ {xs : List α} {acc : List D},
    (∀ x ∈ xs, ∃ env1, g (e x) env = some env1 ∧ t env1 ah = .ok true ah ∧ fi1 env1 ah = .ok ((ys x).map e1) ah ∧ ∀ y ∈ ys x, ∃ env2, g1 (e1 y) (wipeA env1 vs1) = some env2 ∧ t1 env2 ah = .ok (c x y) ah ∧ (c x y = true → f env2 ah = .ok (o x y) ah)) → acc.length + (xs.flatMap ys).length ≤ sizeLine →
    compL2 g t fi1 g1 t1 f vs1 env (xs.map e) acc ah = .ok (acc ++ xs.flatMap fun x => ((ys x).filter (c x)).map (o x)) ah
  | [], acc, _, _ => by simp [compL2]
  | x :: xs, acc, h, hz => by
    obtain ⟨env1, h1, h2, h3, h4⟩ := h x List.mem_cons_self
    rw [List.flatMap_cons, List.length_append] at hz
    have fl := List.length_filter_le (c x) (ys x)
    simp only [List.map_cons, compL2, h1, h2, h3, Res.nox_ok, Res.bind_ok, if_true]
    rw [compL_if h4 (by omega), Res.bind_ok, compL2_fil (fun y hy => h y (List.mem_cons_of_mem _ hy)) (by rw [List.length_append, List.length_map]; omega), List.flatMap_cons, List.append_assoc]
theorem down_ref {n : Nat} {xs : List D} {ah : AH} (h : ah[n]? = some (.lst xs)) : oDown (.ref n) ah = .ok (.lst xs.reverse) ah := by
  have e : seqD ah (.ref n) = some (false, xs) := by simp only [seqD, h]
  unfold oDown
  simp only [e]
/-- a natural number of at most 13 digits can be shown -/
theorem rpr_nat13 {n : Nat} (h : n < 10000000000000) : rprOk (.int (n : Int)) = true := by
  have hs : (PyData.int (n : Int)).showable = true := by
    show decide ((n : Int).natAbs.log2 < 1920) = true
    refine decide_eq_true ?_
    rw [Int.natAbs_natCast]
    by_cases c : n = 0
    · rw [c]; decide
    · have : n.log2 < 44 := (Nat.log2_lt c).mpr (by omega)
      omega
  have hl : (PyData.int (n : Int)).leavesShort 13 = true := by
    show decide ((PyData.shown (.int (n : Int))).length ≤ 13) = true
    refine decide_eq_true ?_
    show (PySem.Str.ofString (ToString.toString (n : Int))).length ≤ 13
    rw [PySem.ofString_length]
    have e : toString (Int.ofNat n) = Nat.repr n := rfl
    show (toString (Int.ofNat n)).length ≤ 13
    rw [e]
    exact (Nat.length_repr_le_iff (by decide)).mpr h
  unfold rprOk
  simp only [Bool.and_eq_true, decide_eq_true_eq, Bool.not_eq_true']
  exact ⟨hs, hl, by show 0 ≤ _; omega, by show 0 ≤ _; omega, rfl⟩
/-- x in a list of data, live -/
theorem inP_ref {α : Type} [DecidableEq α] (C : Cod α) {x : α} {xs : List α} {n : Nat} {ah : AH} (h : ah[n]? = some (.lst (xs.map C.e))) (hx : C.val x) (hs : ∀ y ∈ xs, C.val y) (hk : C.k ≤ 39 := by decide) : oInP (C.e x) (.ref n) ah = .ok (.bl (decide (x ∈ xs))) ah := by
  have e : seqD ah (.ref n) = some (false, xs.map C.e) := by simp only [seqD, h]
  have t : toPyL (xs.map C.e) = some (xs.map C.p) := py_map C.py xs
  have s1 : SeqAt.shaped (C.p x) = true := (C.shw x hx).shaped (by omega)
  have s2 : SeqAt.shaped (.list (xs.map C.p)) = true := (shw_lst (k := C.k) (n := C.n) fun y hy => by
    obtain ⟨z, hz, rfl⟩ := List.mem_map.mp hy
    exact C.shw z (hs z hz)).shaped (by omega)
  unfold oInP
  simp only [e, C.py, t, s1, s2, and_self, if_true]
  congr 2
  rw [List.any_map, Bool.eq_iff_iff, List.any_eq_true, decide_eq_true_eq]
  constructor
  · rintro ⟨y, hy, q⟩
    have q : PyData.eqv (C.p y) (C.p x) = true := q
    rw [C.eqv, decide_eq_true_eq] at q
    rw [← q]; exact hy
  · intro q
    exact ⟨x, q, by show PyData.eqv (C.p x) (C.p x) = true; rw [C.eqv, decide_eq_true rfl]⟩
theorem inP_refB {α : Type} [DecidableEq α] (C : Cod α) {x : α} {xs : List α} {n : Nat} {ah : AH} (b : Bool) (hb : b = true ↔ x ∈ xs) (h : ah[n]? = some (.lst (xs.map C.e))) (hx : C.val x) (hs : ∀ y ∈ xs, C.val y) (hk : C.k ≤ 39 := by decide) : oInP (C.e x) (.ref n) ah = .ok (.bl b) ah := by
  rw [inP_ref C h hx hs hk]
  congr 2
  rw [Bool.eq_iff_iff, decide_eq_true_eq]
  exact hb.symm
end DL
namespace DL
open PySem PySem.Spec PyProof.Rows L2
section
variable {X : Cx} {G : KW} {W : XW} {η : List Addr} {H : Hp} {ah : AH}
def rTupC (K : PySem.W.Frag) : List V → Hp → VK → Prop := fun xs H Q => ∃ p ys, xs = [.ref p] ∧ SqL K H p ys ∧ ∀ l o, H l = none → o.dict = none → Q (.ref l) (upd H l (.frz o (.tup ys)))
theorem cr_tupleC : CallR X (.type "tuple") (rTupC X.K) := by
  intro pins s σ H xs us Q I r h
  obtain ⟨p, ys, rfl, hq, q⟩ := h
  obtain ⟨u, rfl, rx⟩ := r.one
  cases rx
  obtain ⟨its, rv, pl, hz⟩ := I.list hq
  have hlen := rv.length
  refine call_tuple_list pl.isList (fun h' kp => ?_) (by simp only [List.size_toArray]; omega)
  have J : Inv X pins σ H { s with heap := h' } := I.kept (t' := s.toks) kp
  have nw : H h'.objs.size = none := J.hok.fresh (Nat.le_refl _)
  exact ⟨.ref h'.objs.size, _, J.laid (o := .frz { cls := .type "tuple", data := .seq its.toArray } (.tup ys)) (t' := s.toks) (fun b o e => Heap.get?_push_of_some _ e) (Nat.le_refl _) ⟨Heap.get?_push_size _ rfl, hz, its, rv, IsTup.new _ _⟩, rfl, q _ _ nw rfl⟩
def oTupleC (ds : List D) (ah : AH) : Res D := match ds with
  | [d] => match seqD ah d with
    | some (false, xs) => .ok (.ct xs) ah
    | _ => .bad
  | _ => .bad
theorem post_ct {ds : List D} {vs : List V} {a : Addr} {o : Obj} {Q : VK} (p : HpOk G η H ah) (r : RelAll G η H ds vs) (h : Post G W η H (.ok (.ct ds) ah) (QV G Q)) (ha : H a = none) (hd : o.dict = none) : QF Q (.ref a) (upd H a (.frz o (.tup vs))) :=
  .inl (post_same p (same_new ha) (.ct (.inr ⟨o, upd_same, hd⟩) (r.mv (.same (same_new ha)))) h)
theorem ok_tupleC : CaOk G W (rTupC G.K) oTupleC := by
  intro η H ah ds vs Q p r h
  unfold oTupleC at h
  split at h
  · rename_i d
    obtain ⟨v, rfl, rx⟩ := relL1 r
    split at h
    · rename_i xs e1
      obtain ⟨a, us, rfl, r1, q1, q2⟩ := seq_rel p rx e1
      exact ⟨a, us, rfl, .inl (q2 rfl), fun l o hl hd => post_ct p r1 h hl hd⟩
    · exact h.elim
  · exact h.elim
def NoD (K : PySem.W.Frag) (H : Hp) (x : V) : Prop := ∃ p, x = .ref p ∧ ((∃ o, K.lookup p = some o ∧ o.cls = .type "tuple" ∧ o.dict = none) ∨ ∃ o xs, H p = some (.frz o (.tup xs)) ∧ o.dict = none)
theorem noD_is {pins : List (Addr × Obj)} {σ : L2.St} {s : Shared} {x : V} {v : Value} (I : Inv X pins σ H s) (r : RelV x v) (h : NoD X.K H x) :
    s.TypeIs v "tuple" ∧ ∀ a, v = .ref a → ∃ ob, s.heap.get? a = some ob ∧ ob.dict = none := by
  obtain ⟨p, rfl, h⟩ := h
  cases r
  have k : ∃ o, s.heap.get? p = some o ∧ o.cls = .type "tuple" ∧ o.dict = none := by
    rcases h with ⟨o, hk, hc, hd⟩ | ⟨o, xs, hk, hd⟩
    · exact ⟨o, I.kIn p o hk, hc, hd⟩
    · obtain ⟨e, _, its, _, ob, e2, hc, _⟩ := I.hok p _ hk
      rw [e] at e2
      cases e2
      exact ⟨o, e, hc, hd⟩
  obtain ⟨o, e, hc, hd⟩ := k
  exact ⟨⟨o, e, hc⟩, fun a ea => by cases ea; exact ⟨o, e, hd⟩⟩
theorem ct_noD {ds : List D} {v : V} (r : Rel G η H (.ct ds) v) : NoD G.K H v := by
  cases r with
  | ct h r =>
    rcases h with ⟨o, its, n, h1, h2, _, _, _, h6⟩ | ⟨o, h, hd⟩
    · exact ⟨_, rfl, .inl ⟨o, h1, h2, h6⟩⟩
    · exact ⟨_, rfl, .inr ⟨o, _, h, hd⟩⟩
def tTM (K : PySem.W.Frag) (r : V → List V → Hp → VK → Prop) (to : TE) (t : TA) : TE := fun σ H Q => to σ H fun x H1 => NoD K H1 x ∧ t σ H1 fun xs H2 => r x xs H2 Q
theorem pe_tm {id : String} {name : Str} {o e : Expr} {es : List Expr} {to : TE} {t : TA} {apos cpos : Pos} {r : V → List V → Hp → VK → Prop} (slot : Slot "tuple" name id) (hty : typeOf (.builtin id) = pure (.type "method_descriptor")) (hm : MtR X id r) (ho : PE X o to) (ha : PA X (e :: es) t)
    (hbase : attributeBase o name X.env (eval o X.env) = eval o X.env)
    (hfew : ((backTo cpos (starEach (e :: es) X.env)).all (fun x => !x.1) && (backToKw cpos (keywordEach [] X.env)).all (fun x => x.1.isSome)
      && decide ((e :: es).length + ([] : List Keyword).length + (if ([] : List Keyword).isEmpty then 0 else 1) < 30)) = true)
    (hline : (apos.endLine == cpos.line) = true) (hs : starEach (e :: es) X.env = (false, eval e X.env) :: starEach es X.env) (hplain : (backTo cpos (starEach es X.env)).any (·.1) = false) :
    PE X (.Call (.Attribute o name apos) (e :: es) [] cpos) (tTM X.K r to t) := ⟨fun pins s σ H Q I h =>
  wpAny_Call_method_late hbase hfew hline rfl (thn (ho.run pins s σ H _ I h) fun v s1 ⟨x, H1, I1, r1, ty, q1⟩ => by
    obtain ⟨h1, h2⟩ := noD_is I1 r1 ty
    have A := ha.run cpos pins s1 σ H1 _ I1 q1
    rw [hs] at A
    refine ⟨"tuple", id, PySem.F.plainAttrs_tuple, slot, hty, h1, h2, ?_⟩
    rw [hs]
    exact Calls.callWith_builtin (by show (false || (backTo cpos (starEach es X.env)).any (·.1)) = false; rw [hplain]; rfl) (Calls.evalArgs_plain (thn A fun us s2 ⟨vs, H2, I2, r2, q2⟩ => hm pins s2 σ H2 x vs v us Q I2 r1 r2 q2)))⟩
def rTCnt (K : PySem.W.Frag) : V → List V → Hp → VK → Prop := fun x xs H Q => ∃ (p : Addr) (ns : List Int) (k : Int), x = .ref p ∧ xs = [.int k] ∧ SqT K H p (ns.map V.int) ∧ Q (.int (ns.count k : Nat)) H
theorem mt_tcount : MtR X "tuple.count" (rTCnt X.K) := by
  intro pins s σ H x xs v us Q I rx rxs h
  obtain ⟨p, ns, k, rfl, rfl, hs, q⟩ := h
  cases rx
  obtain ⟨u, rfl, t, rfl⟩ := rxs.one
  obtain ⟨its, rv, pl, _⟩ := I.tuple hs
  obtain ⟨⟨cls, dd, data, sl⟩, ho, hc, n, hd⟩ := pl
  simp only at hc hd
  subst hc hd
  have hi := ints_of_vals rv
  refine call_meets PySem.F.slot_tuple_count ⟨_, ho, rfl⟩ PySem.F.entry_tuple_count (PySem.F.args_tuple_count_2 _ _) (SeqAt.tuple_countAt p its.toArray n dd sl (.int k t) (eqk k))
    ⟨ho, fun y hy => (eqk_gives hi y (by simpa using hy)).at _ _, .int (ns.count k : Nat), H, I.tok _, ⟨s.toks, ?_⟩, q⟩
  show Value.int ((its.toArray.toList.countP (eqk k) : Nat) : Int) s.toks = Value.int ((ns.count k : Nat) : Int) s.toks
  rw [show its.toArray.toList.countP (eqk k) = ns.count k from eqk_count hi]
def rTIdx (K : PySem.W.Frag) : V → List V → Hp → VK → Prop := fun x xs H Q => ∃ (p : Addr) (ns : List Int) (k : Int), x = .ref p ∧ xs = [.int k] ∧ SqT K H p (ns.map V.int) ∧ k ∈ ns ∧ Q (.int (ns.idxOf k : Nat)) H
theorem mt_tindex : MtR X "tuple.index" (rTIdx X.K) := by
  intro pins s σ H x xs v us Q I rx rxs h
  obtain ⟨p, ns, k, rfl, rfl, hs, hk, q⟩ := h
  cases rx
  obtain ⟨u, rfl, t, rfl⟩ := rxs.one
  obtain ⟨its, rv, pl, _⟩ := I.tuple hs
  exact PySem.SeqAt.tuple_index_ints pl (ints_of_vals rv) hk ⟨.int (ns.idxOf k : Nat), H, I.tok _, ⟨s.toks, rfl⟩, q⟩
def intL : List D → Option (List Int)
  | [] => some []
  | .int i :: r => (intL r).map (i :: ·)
  | _ :: _ => none
theorem intL_map : ∀ ns : List Int, intL (ns.map D.int) = some ns
  | [] => rfl
  | n :: ns => by rw [List.map_cons, intL, intL_map ns]; rfl
theorem intL_rel : ∀ {ds : List D} {vs : List V} {ns : List Int}, RelAll G η H ds vs → intL ds = some ns → vs = ns.map V.int
  | _, _, _, .nil, e => by cases e; rfl
  | d :: ds, _, ns, .cons h r, e => by
    cases d with
    | int i =>
      cases h
      simp only [intL, Option.map_eq_some_iff] at e
      obtain ⟨ms, e1, rfl⟩ := e
      rw [intL_rel r e1]
      rfl
    | _ => cases e
def tCnt (ns : List Int) (k : Int) : Option Int := some ((ns.count k : Nat) : Int)
def tIdx (ns : List Int) (k : Int) : Option Int := if k ∈ ns then some ((ns.idxOf k : Nat) : Int) else none
def oTM (g : List Int → Int → Option Int) (x y : D) (ah : AH) : Res D := match x with
  | .ct ds => match y with
    | .int k => match intL ds with
      | some ns => (match g ns k with
        | some r => .ok (.int r) ah
        | none => .bad)
      | none => .bad
    | _ => .bad
  | _ => .bad
def isCt : D → Bool
  | .ct _ => true
  | _ => false
def iTM (g : List Int → Int → Option Int) (fo f : FE) : FE := fun env ah => (fo env ah).bind fun x ah1 => if isCt x = true then (iArgs [f] env ah1).bind fun ds ah2 => (match ds with
  | [y] => oTM g x y ah2
  | _ => .bad) else .bad
/-- what such a method's rule asks -/
def TmOk (K : PySem.W.Frag) (g : List Int → Int → Option Int) (r : V → List V → Hp → VK → Prop) : Prop := ∀ (p : Addr) (ns : List Int) (k m : Int) (H : Hp) (Q : VK), SqT K H p (ns.map V.int) → g ns k = some m → Q (.int m) H → r (.ref p) [.int k] H Q
theorem tm_cnt {K : PySem.W.Frag} : TmOk K tCnt (rTCnt K) := fun p ns k m H Q h e q => by cases e; exact ⟨p, ns, k, rfl, rfl, h, q⟩
theorem tm_idx {K : PySem.W.Frag} : TmOk K tIdx (rTIdx K) := fun p ns k m H Q h e q => by
  unfold tIdx at e
  split at e
  · cases e; exact ⟨p, ns, k, rfl, rfl, h, by assumption, q⟩
  · cases e
theorem tm_post {g : List Int → Int → Option Int} {r : V → List V → Hp → VK → Prop} (k : TmOk G.K g r) {x y : D} {v u : V} {Q : VK} (p : HpOk G η H ah) (rx : Rel G η H x v) (ry : Rel G η H y u) (h : Post G W η H (oTM g x y ah) (QV G Q)) : r v [u] H (QF Q) := by
  unfold oTM at h
  split at h
  · split at h
    · split at h
      · rename_i ns e
        split at h
        · rename_i m em
          cases ry
          cases rx with
          | ct hc rr =>
            have ev := intL_rel rr e
            subst ev
            exact k _ ns _ m H _ hc.sqt em (post_val p (.int _) h)
        · exact h.elim
      · exact h.elim
    · exact h.elim
  · exact h.elim
theorem j_tm {g : List Int → Int → Option Int} {r : V → List V → Hp → VK → Prop} {id : String} {name : Str} {o e : Expr} {fo f : FE} {apos cpos : Pos} (slot : Slot "tuple" name id) (hty : typeOf (.builtin id) = pure (.type "method_descriptor")) (hm : MtR X id r) (k : TmOk X.K g r)
    (ho : PE X o (SX X W fo)) (he : PE X e (SX X W f))
    (hbase : attributeBase o name X.env (eval o X.env) = eval o X.env := by rfl)
    (hfew : ((backTo cpos (starEach [e] X.env)).all (fun x => !x.1) && (backToKw cpos (keywordEach [] X.env)).all (fun x => x.1.isSome)
      && decide ([e].length + ([] : List Keyword).length + (if ([] : List Keyword).isEmpty then 0 else 1) < 30)) = true := by rfl)
    (hline : (apos.endLine == cpos.line) = true := by rfl) (hs : starEach [e] X.env = (false, eval e X.env) :: starEach [] X.env := by rfl) (hplain : (backTo cpos (starEach [] X.env)).any (·.1) = false := by rfl) :
    PE X (.Call (.Attribute o name apos) [e] [] cpos) (SX X W (iTM g fo f)) :=
  PE.imp (pe_fz (pe_tm slot hty hm ho (a_cons he a_nil hs) hbase hfew hline hs hplain)) fun S H Q ⟨env, ah, η, en, pk, h⟩ => by
    refine ⟨env, ah, η, en, pk, h.bind.imp0 fun x η1 H1 ah1 m1 p1 q1 => fun v rvv => ?_⟩
    split at q1
    · rename_i hx
      cases x with
      | ct ds =>
        refine ⟨ct_noD rvv, env, ah1, η1, en.mv m1, p1, ?_⟩
        refine q1.bind.imp0 fun ds2 η2 H2 ah2 m2 p2 q2 => fun us rs => ?_
        split at q2
        · cases rs with
          | cons r0 rr =>
            cases rr
            exact tm_post k p2 (rvv.mv m2) r0 q2
        · exact q2.elim
      | _ => cases hx
    · exact q1.elim
theorem j_tcount {o e : Expr} {fo f : FE} {apos cpos : Pos} (ho : PE X o (SX X W fo)) (he : PE X e (SX X W f))
    (hbase : attributeBase o "count" X.env (eval o X.env) = eval o X.env := by rfl)
    (hfew : ((backTo cpos (starEach [e] X.env)).all (fun x => !x.1) && (backToKw cpos (keywordEach [] X.env)).all (fun x => x.1.isSome)
      && decide ([e].length + ([] : List Keyword).length + (if ([] : List Keyword).isEmpty then 0 else 1) < 30)) = true := by rfl)
    (hline : (apos.endLine == cpos.line) = true := by rfl) (hs : starEach [e] X.env = (false, eval e X.env) :: starEach [] X.env := by rfl) (hplain : (backTo cpos (starEach [] X.env)).any (·.1) = false := by rfl) :
    PE X (.Call (.Attribute o "count" apos) [e] [] cpos) (SX X W (iTM tCnt fo f)) := j_tm PySem.F.slot_tuple_count PySem.F.type_tuple_count mt_tcount tm_cnt ho he hbase hfew hline hs hplain
theorem j_tindex {o e : Expr} {fo f : FE} {apos cpos : Pos} (ho : PE X o (SX X W fo)) (he : PE X e (SX X W f))
    (hbase : attributeBase o "index" X.env (eval o X.env) = eval o X.env := by rfl)
    (hfew : ((backTo cpos (starEach [e] X.env)).all (fun x => !x.1) && (backToKw cpos (keywordEach [] X.env)).all (fun x => x.1.isSome)
      && decide ([e].length + ([] : List Keyword).length + (if ([] : List Keyword).isEmpty then 0 else 1) < 30)) = true := by rfl)
    (hline : (apos.endLine == cpos.line) = true := by rfl) (hs : starEach [e] X.env = (false, eval e X.env) :: starEach [] X.env := by rfl) (hplain : (backTo cpos (starEach [] X.env)).any (·.1) = false := by rfl) :
    PE X (.Call (.Attribute o "index" apos) [e] [] cpos) (SX X W (iTM tIdx fo f)) := j_tm PySem.F.slot_tuple_index PySem.F.type_tuple_index mt_tindex tm_idx ho he hbase hfew hline hs hplain
theorem eTM {g : List Int → Int → Option Int} {fo f : FE} {env : AE} {ah a1 a2 : AH} {ns : List Int} {k r : Int} (h1 : fo env ah = .ok (.ct (ns.map D.int)) a1) (h2 : f env a1 = .ok (.int k) a2) (h3 : g ns k = some r) : iTM g fo f env ah = .ok (.int r) a2 := by
  unfold iTM
  rw [h1, Res.bind_ok, if_pos (show isCt (.ct (ns.map D.int)) = true from rfl)]
  unfold iArgs iArgs
  rw [h2, Res.bind_ok, Res.bind_ok, Res.bind_ok]
  show oTM g _ _ _ = _
  unfold oTM
  simp only [intL_map, h3]
theorem oTupleC_lst {xs : List D} {ah : AH} : oTupleC [.lst xs] ah = .ok (.ct xs) ah := rfl
theorem oTupleC_ref {n : Nat} {xs : List D} {ah : AH} (h : ah[n]? = some (.lst xs)) : oTupleC [.ref n] ah = .ok (.ct xs) ah := by
  have e : seqD ah (.ref n) = some (false, xs) := by simp only [seqD, h]
  unfold oTupleC
  simp only [e]
end
end DL
namespace DL
open PySem PySem.Spec PyProof.Rows L2
/-- a kind of set: how one stands in the abstract heap, the empty one, what one more member makes of it -/
structure SetKd (w : World) (P : Program) where
  T : Type
  ho : Addr → T → HO
  nil : T
  add : T → V → Option T
  ext : ∀ D t, ∃ φ, ho D t = .ext φ
  new : ∀ (H : Hp) (h : Heap) (D : Addr), h.get? D = some { cls := .type "set", dict := none, data := .set #[] 0 (.fresh 0 0 (!w.params.followText "set-order")) } → ObjOk P w H h D (ho D nil)
def rKAdd {w : World} {P : Program} (Z : SetKd w P) : V → List V → Hp → VK → Prop := fun x xs H Q => ∃ D t y t', x = .ref D ∧ xs = [y] ∧ H D = some (Z.ho D t) ∧ Z.add t y = some t' ∧ Q .non (upd H D (Z.ho D t'))
section
variable {X : Cx}
def tScK (Z : SetKd X.w X.prog) (wi : TI) (g : TG) (tt : TT) (te : TE) (vs : List Nat) : TE := fun σ H Q => wi σ H fun J H1 => ∀ D, H1 D = none → ∃ Wl : Nat → Nat → Hp → Prop, (∃ m, Wl 0 m (upd H1 D (Z.ho D Z.nil))) ∧ ∀ i m H, Wl i m H →
  (J.stop i H ∧ Q (.ref D) H) ∨ (J.go i H ∧ ∃ Nx : Hp → Prop, (∀ H', Nx H' → ∃ m', m' < m ∧ Wl (i + 1) m' H') ∧ ∀ x H', J.yld i H x H' → g x (wipe σ vs) H' fun σ2 H2 => wipe σ2 vs = wipe σ vs ∧ tt σ2 H2 fun b H3 =>
    if b = true then te σ2 H3 fun y H4 => ∃ t t', H4 D = some (Z.ho D t) ∧ Z.add t y = some t' ∧ Nx (upd H4 D (Z.ho D t')) else Nx H3)
variable {elt tg iter : Expr} {ifs : List Expr} {scope : Scope} {own : List (Str × Nat)} {pos : Pos} {wi : TI} {g : TG} {tt : TT} {te : TE}
/-- behind a turn: what was pinned is let go, the block's names are wiped -/
theorem turn_end {B : Cx} {P : Program} {w : World} {K : PySem.W.Frag} {J : It} {fp : List Addr} {it : Addr} {tn : Nat → Heap → Prop} {s7 s' : Shared} {σ0 σ8 : L2.St} {H' : Hp} {vs : List Nat} {i : Nat} (T : Turn P w K tg J fp it tn) (st7 : tn i s7.heap)
    (hw : wipe σ8 vs = wipe σ0 vs) (Iv : Inv B ([] ++ pinsAt fp s7.heap) σ8 H' s') : Inv B [] (wipe σ0 vs) H' s' ∧ tn i s'.heap ∧ ∀ b ∈ fp, H' b = none := by
  have kept : ∀ b ∈ fp, ∀ o, s7.heap.get? b = some o → s'.heap.get? b = some o ∧ H' b = none := fun b hb o e => by
    have z := Iv.pin (b, o) (List.mem_append_right _ (List.mem_append_right _ (mem_pinsAt hb e)))
    exact ⟨z.1, z.2.1⟩
  refine ⟨(Iv.unpinned (pins := [])).weak (by rw [← hw, wipe_length]) (fun j v e => by rw [← hw] at e; exact (wipe_some e).1), T.keep _ _ _ st7 fun b hb o e => (kept b hb o e).1, fun b hb => ?_⟩
  obtain ⟨o, e, _⟩ := T.obj _ _ st7 b hb
  exact (kept b hb o e).2
theorem pe_scK (Z : SetKd X.w X.prog) (hadd : ∀ (s : Shared) (H : Hp) (C : Addr) (cl : List (Str × Addr)) (fp : List Addr), MtR (X.blk s H scope (compEnvC scope cl C X.env) fp) "set.add" (rKAdd Z))
    (hc : X.calm = true) (hN : X.N.Nodup) (hi : PI X tg iter wi) (ok : BlkOk X.N X.env.scope scope own)
    (hg : ∀ (s : Shared) (H : Hp) (C : Addr) (cl : List (Str × Addr)) (fp : List Addr), PG (X.blk s H scope (compEnvC scope cl C X.env) fp) tg g) (ht : ∀ (s : Shared) (H : Hp) (C : Addr) (cl : List (Str × Addr)) (fp : List Addr), PTs (X.blk s H scope (compEnvC scope cl C X.env) fp) ifs tt)
    (he : ∀ (s : Shared) (H : Hp) (C : Addr) (cl : List (Str × Addr)) (fp : List Addr), PE (X.blk s H scope (compEnvC scope cl C X.env) fp) elt te) (hs : ∀ x, foldedSetIterable iter X.env x = pure x := by intro _; rfl) :
    PE X (.SetComp elt [⟨tg, iter, ifs, 0⟩] scope pos) (tScK Z wi g tt te (own.map (·.2))) := ⟨fun pins s σ H Q I h => by
  rw [PpSet.eval_SetComp]
  have clo : closureFor scope X.env = pure (cloFrom X.env.cells scope.names []) := closure_ok fun y hy e => (ok.free y hy e).elim (fun k => I.ok.has _ (.inl k)) fun k => I.ok.has _ (.inr k)
  refine wpAny_comprehension_free rfl hs clo ok.kind (fun y hy e => by rw [ok.uniq y hy, e]) (thn (hi.run pins s σ H _ I h) fun xv s1 hx => thn hx fun itv s2 ⟨it, fp, tn, J, H2, e, I2, T, st2, f2, q⟩ => ?_)
  subst e
  refine PpSet.newSet_ok (newEnv_comp ?_)
  obtain ⟨D, hD⟩ : ∃ D, D = s2.heap.objs.size := ⟨_, rfl⟩
  rw [← hD]
  obtain ⟨Wl, ⟨m0, w0⟩, turn⟩ := q D (I2.hok.fresh (Nat.le_of_eq hD.symm))
  obtain ⟨h3, eh3⟩ : ∃ h3, h3 = s2.heap.push { cls := .type "set", dict := none, data := .set #[] 0 (.fresh 0 0 (!X.w.params.followText "set-order")) } := ⟨_, rfl⟩
  rw [← eh3]
  have up : ∀ b o, s2.heap.get? b = some o → h3.get? b = some o := fun b o e => by rw [eh3]; exact Heap.get?_push_of_some _ e
  have I3 : Inv X pins σ (upd H2 D (Z.ho D Z.nil)) { s2 with heap := h3 } :=
    I2.laid (t' := s2.toks) up (Nat.le_of_eq hD.symm) (Z.new _ _ _ (by rw [eh3, hD]; exact Heap.get?_push_size _ rfl))
  have f3 : ∀ b ∈ fp, FpOk X pins (upd H2 D (Z.ho D Z.nil)) b ∧ b < h3.objs.size := fun b hb => by
    obtain ⟨o, e, _⟩ := T.obj _ _ st2 b hb
    have lt := Heap.lt_size e
    exact ⟨⟨by rw [upd_ne (by rw [hD]; exact Nat.ne_of_lt lt)]; exact (f2 b hb).1, (f2 b hb).2⟩, by show b < h3.objs.size; rw [eh3, Heap.size_push]; exact Nat.lt_succ_of_lt lt⟩
  have I4 := block_start I3 ok hN f3
  have hg4 := fun cl C => hg { s2 with heap := h3 } (upd H2 D (Z.ho D Z.nil)) C cl fp
  have ht4 := fun cl C => ht { s2 with heap := h3 } (upd H2 D (Z.ho D Z.nil)) C cl fp
  have he4 := fun cl C => he { s2 with heap := h3 } (upd H2 D (Z.ho D Z.nil)) C cl fp
  have ha4 := fun cl C => hadd { s2 with heap := h3 } (upd H2 D (Z.ho D Z.nil)) C cl fp
  have n3 : ∀ b ∈ fp, upd H2 D (Z.ho D Z.nil) b = none := fun b hb => (f3 b hb).1.1
  have st4 : tn 0 (pushCells (h3.push { cls := .type "dict", data := .dict #[] }) scope.names) := T.keep _ _ _ st2 fun b _ o e => pushCells_keeps _ _ _ _ (Heap.get?_push_of_some _ (up b o e))
  generalize hce : compEnvC scope (cellsFrom (h3.objs.size + 1) scope.names (cloFrom X.env.cells scope.names [])) h3.objs.size X.env = ce at I4
  have cL : ce.locals = h3.objs.size := by rw [← hce]; rfl
  have gB := hg4 (cellsFrom (h3.objs.size + 1) scope.names (cloFrom X.env.cells scope.names [])) h3.objs.size
  have tB := ht4 (cellsFrom (h3.objs.size + 1) scope.names (cloFrom X.env.cells scope.names [])) h3.objs.size
  have eB := he4 (cellsFrom (h3.objs.size + 1) scope.names (cloFrom X.env.cells scope.names [])) h3.objs.size
  have aB := ha4 (cellsFrom (h3.objs.size + 1) scope.names (cloFrom X.env.cells scope.names [])) h3.objs.size
  rw [hce] at gB tB eB aB
  show codeAny _ _ (.compStart (.SetComp elt [⟨tg, iter, ifs, 0⟩] scope pos) 0 (.ref it) (.ref D) (compEnvC scope (cellsFrom (h3.objs.size + 1) scope.names (cloFrom X.env.cells scope.names [])) h3.objs.size X.env)) (compPost (model X.prog X.w) X.A X.xe none (EP X pins σ Q) (.ref D) h3.objs.size) { s2 with heap := pushCells (h3.push { cls := .type "dict", data := .dict #[] }) scope.names }
  rw [hce]
  generalize hB : X.blk { s2 with heap := h3 } (upd H2 D (Z.ho D Z.nil)) scope ce fp = B at I4 gB tB eB aB
  have facts : B.prog = X.prog ∧ B.w = X.w ∧ B.K = X.K ∧ B.calm = true ∧ B.A = X.A ∧ B.env = ce ∧ B.pn = [] := by rw [← hB]; exact ⟨rfl, rfl, rfl, hc, rfl, rfl, rfl⟩
  -- what the loop keeps
  have loop : codeAny (model X.prog X.w) X.A (.compLoop (.SetComp elt [⟨tg, iter, ifs, 0⟩] scope pos) 0 (.ref it) (.ref D) ce) (compPost (model X.prog X.w) X.A X.xe none (EP X pins σ Q) (.ref D) h3.objs.size) { s2 with heap := pushCells (h3.push { cls := .type "dict", data := .dict #[] }) scope.names } := by
    refine PpSet.compLoopS_any (fun n s' => ∃ i H', Inv B [] (wipe σ (own.map (·.2))) H' s' ∧ tn i s'.heap ∧ (∀ b ∈ fp, H' b = none) ∧ Wl i n H') ?_ m0 ⟨0, _, I4, st4, n3, w0⟩
    rintro n s5 ⟨i, H5, I5, st5, n5, w5⟩
    have ok5 : ∀ {σ' : L2.St} {H' : Hp} {s' : Shared}, Inv B [] σ' H' s' → (∀ b ∈ fp, H' b = none) → ∀ b ∈ fp, FpOk B [] H' b := by
      subst hB
      exact fun I' hn b hb => ⟨hn b hb, (I'.ok.exf b hb).1, I'.ok.exfs b hb, .inl hb, fun x c e => (I'.ok.exf b hb).2 x c e, fun p hp => nomatch hp⟩
    subst hB
    rcases turn i n H5 w5 with ⟨stop, qD⟩ | ⟨go, Nx, hNx, step⟩
    · refine thnF (T.done (X.blk { s2 with heap := h3 } (upd H2 D (Z.ho D Z.nil)) scope ce fp) rfl rfl rfl hc i [] s5 _ H5 (fun _ _ => False) I5 (ok5 I5 n5) st5 stop) fun r s6 ⟨hr, I6⟩ => ?_
      subst hr
      have I7 : Inv X pins σ H5 s6 := I3.call' (ch := fp) I6.os I6.base I6.hok I6.bare fun b hb => ⟨(f3 b hb).1.2.2.2.1, (f3 b hb).1.2.1, (f3 b hb).1.2.2.2.2.1, (f3 b hb).1.2.2.2.2.2⟩
      have free : H5 h3.objs.size = none := by rw [← cL]; exact I6.free
      obtain ⟨m, ns, _⟩ := I6.loc
      have ns2 : s6.heap.Ns h3.objs.size m := by rw [← cL]; exact ns
      obtain ⟨k0, k1, k2, k3, k4, k5⟩ := I3.fpOk (b := h3.objs.size) (Nat.le_refl _) free
      exact ⟨m, ns2, fun h8 sb => ⟨.ref D, H5, I7.turned (t' := s6.toks) (fun b o hb e => (sb.2 b hb).trans e) k0 k1 k3 k4 k5, rfl, qD⟩⟩
    · refine thnF (T.item (X.blk { s2 with heap := h3 } (upd H2 D (Z.ho D Z.nil)) scope ce fp) rfl rfl rfl hc i [] s5 _ H5 (fun _ _ => False) I5 (ok5 I5 n5) st5 go) fun r s6 ⟨u, hr, h6⟩ => ?_
      subst hr
      refine thnF h6 fun _ s7 ⟨x, H7, I7, r7, y7, st7, n7⟩ => ?_
      refine thnF (gB.run _ s7 _ H7 x u _ (I7.pinned (ok5 I7 n7) (T.obj _ _ st7)) r7 (step x H7 y7)) fun _ s8 ⟨σ8, H8, I8, hw8, q8⟩ => ?_
      have close : ∀ {s' : Shared} {H' : Hp}, Inv (X.blk { s2 with heap := h3 } (upd H2 D (Z.ho D Z.nil)) scope ce fp) ([] ++ pinsAt fp s7.heap) σ8 H' s' → Nx H' → ∃ m, m < n ∧ ∃ i H', Inv (X.blk { s2 with heap := h3 } (upd H2 D (Z.ho D Z.nil)) scope ce fp) [] (wipe σ (own.map (·.2))) H' s' ∧ tn i s'.heap ∧ (∀ b ∈ fp, H' b = none) ∧ Wl i m H' := fun {s' H'} J' nx => by
        obtain ⟨m', hm, wl⟩ := hNx H' nx
        obtain ⟨z1, z2, z3⟩ := turn_end T st7 hw8 J'
        exact ⟨m', hm, i + 1, H', z1, z2, z3, wl⟩
      refine thnF (tB.run _ s8 σ8 H8 _ I8 q8) fun b s9 ⟨H9, I9, q9⟩ => ?_
      cases b with
      | false =>
        simp only [Bool.false_eq_true, if_false] at q9 ⊢
        exact close I9 q9
      | true =>
        simp only [if_true] at q9 ⊢
        refine thnF (eB.run _ s9 σ8 H9 _ I9 q9) fun z s10 ⟨yv, H10, I10, r10, t, t', hD10, ad, nx⟩ => ?_
        refine thnF (aB _ s10 σ8 H10 (.ref D) [yv] (.ref D) [z] (fun v H' => H' = upd H10 D (Z.ho D t')) I10 rfl (.cons r10 .nil) ⟨D, t, yv, t', rfl, rfl, hD10, ad, rfl⟩) fun v s11 ⟨v', H11, I11, _, e11⟩ => ?_
        subst e11
        exact close I11 nx
  exact PpSet.codeAny_compStart_set loop (T.self X.A 0 _ _ _ st4 loop)⟩
end
end DL
namespace DL
open PySem PySem.Spec PyProof.Rows L2
/-- without what came before -/
def ddS (acc : List Int) (k : Int) : List Int := if k ∈ acc then acc else acc ++ [k]
def dd (t : List Int) : List Int := t.foldl ddS []
theorem dd_snoc (t : List Int) (k : Int) : dd (t ++ [k]) = ddS (dd t) k := by unfold dd; rw [List.foldl_append]; rfl
theorem snocInd {P : List Int → Prop} (h0 : P []) (h1 : ∀ t k, P t → P (t ++ [k])) (t : List Int) : P t := by
  have r : ∀ l : List Int, P l.reverse := fun l => by
    induction l with
    | nil => exact h0
    | cons k l ih => rw [List.reverse_cons]; exact h1 _ _ ih
  have := r t.reverse
  rwa [List.reverse_reverse] at this
theorem ddS_mem {j k : Int} {acc : List Int} : j ∈ ddS acc k ↔ j ∈ acc ∨ j = k := by
  unfold ddS
  split
  · rename_i h
    exact ⟨.inl, fun z => z.elim id fun e => e ▸ h⟩
  · rw [List.mem_append, List.mem_singleton]
theorem dd_mem {k : Int} (t : List Int) : k ∈ dd t ↔ k ∈ t := by
  refine snocInd (P := fun t => k ∈ dd t ↔ k ∈ t) Iff.rfl (fun t j ih => ?_) t
  rw [dd_snoc, ddS_mem, ih, List.mem_append, List.mem_singleton]
theorem dd_nodup (t : List Int) : (dd t).Nodup := by
  refine snocInd (P := fun t => (dd t).Nodup) List.nodup_nil (fun t j ih => ?_) t
  rw [dd_snoc, ddS]
  split
  · exact ih
  · rename_i h
    exact List.nodup_append.mpr ⟨ih, by simp, fun a ha b hb => by rw [List.mem_singleton.mp hb]; exact fun e => h (e ▸ ha)⟩
theorem dd_len (t : List Int) : (dd t).length ≤ t.length := by
  refine snocInd (P := fun t => (dd t).length ≤ t.length) (Nat.le_refl _) (fun t j ih => ?_) t
  rw [dd_snoc, ddS, List.length_append, List.length_singleton]
  split
  · omega
  · rw [List.length_append, List.length_singleton]; omega
def sortU (t : List Int) : List Int := (dd t).mergeSort fun a b => decide (a ≤ b)
/-- the one list of these numbers that rises -/
theorem sortU_one {ns t : List Int} (h1 : ns.Pairwise (· < ·)) (h2 : ∀ k, k ∈ ns ↔ k ∈ t) : ns = sortU t := by
  refine sorted_one ?_ (h1.imp fun h => Int.le_of_lt h)
  refine (List.perm_ext_iff_of_nodup (h1.imp fun h => Int.ne_of_lt h) (dd_nodup t)).mpr fun k => ?_
  rw [h2, dd_mem]
/-- sets of numbers -/
def kdI (w : World) (P : Program) : SetKd w P where
  T := List Int
  ho D t := SetO w D (fun k => decide (k ∈ t)) (dd t).length
  nil := []
  add t v := match v with
    | .int k => if t.length < 62 then some (t ++ [k]) else none
    | _ => none
  ext D t := ⟨_, rfl⟩
  new H h D e := setO_new (by
    have z : (fun k : Int => decide (k ∈ ([] : List Int))) = fun _ => false := by funext k; simp
    show SetR w h D (fun k => decide (k ∈ ([] : List Int))) 0
    rw [z]
    exact ⟨_, #[], 0, _, e, ⟨rfl, rfl, rfl⟩, rfl, (fun e he => by simp at he), (by simp), (fun k => by simp), (by decide), (by rfl), rfl, List.Pairwise.nil, by
      show _ ∨ (!w.params.followText "set-order") = true
      cases w.params.followText "set-order"
      · exact .inr rfl
      · exact .inl rfl⟩)
theorem kdI_one {w : World} {H : Hp} {D : Addr} {Q : VK} (t : List Int) (k : Int) (hz : t.length < 62) (hD : H D = some (SetO w D (fun k => decide (k ∈ t)) (dd t).length))
    (q : Q .non (upd H D (SetO w D (fun j => decide (j ∈ t ++ [k])) (dd (t ++ [k])).length))) : rSAdd w (.ref D) [.int k] H Q := by
  have dl := dd_len t
  refine ⟨D, k, _, _, rfl, rfl, hD, by show _ + 1 < 4096; omega, ?_⟩
  have e1 : (fun j : Int => decide (j ∈ t) || decide (j = k)) = fun j => decide (j ∈ t ++ [k]) := by
    funext j
    rw [Bool.eq_iff_iff]
    simp
  have e2 : (if decide (k ∈ t) = true then (dd t).length else (dd t).length + 1) = (dd (t ++ [k])).length := by
    rw [dd_snoc, ddS]
    by_cases c : k ∈ t
    · rw [if_pos (decide_eq_true c), if_pos ((dd_mem t).mpr c)]
    · rw [if_neg (by rw [decide_eq_false c]; exact Bool.false_ne_true), if_neg (fun z => c ((dd_mem t).mp z)), List.length_append, List.length_singleton]
  rw [e1, e2]
  exact q
theorem kdI_add {B : Cx} : MtR B "set.add" (rKAdd (kdI B.w B.prog)) := by
  intro pins s σ H x xs v us Q I rx rxs h
  obtain ⟨D, t, y, t', rfl, rfl, hD, ad, q⟩ := h
  simp only [kdI] at ad
  split at ad
  · rename_i k
    split at ad
    · rename_i hz
      cases ad
      exact mt_sadd pins s σ H (.ref D) [.int k] v us Q I rx rxs (kdI_one t k hz hD q)
    · cases ad
  · cases ad
def compS (g : D → AE → Option AE) (t : FT) (f : FE) (env : AE) : List D → List Int → AH → Res (List Int)
  | [], acc, ah => .ok acc ah
  | d :: ds, acc, ah => match g d env with
    | none => .bad
    | some env1 => (t env1 ah).nox.bind fun b ah1 => if b = true then (f env1 ah1).nox.bind fun x ah2 => (match x with
      | .int k => if acc.length < 62 then compS g t f env ds (acc ++ [k]) ah2 else .bad
      | _ => .bad) else compS g t f env ds acc ah1
/-- sorted({f for q in fi if t}) -/
def iSortS (fi : FI) (g : D → AE → Option AE) (t : FT) (f : FE) (vs : List Nat) : FE := fun env ah => (fi env ah).bind fun ds ah1 => (compS g t f (wipeA env vs) ds [] ah1).bind fun acc ah2 => .ok (.lst ((sortU acc).map D.int)) ah2
section
variable {X : Cx} {W : XW} {elt tg iter : Expr} {ifs : List Expr} {scope : Scope} {own : List (Str × Nat)} {pos : Pos} {fi : FI} {q : Pt} {ft : FT} {f : FE}
theorem compS_if {α : Type} {g : D → AE → Option AE} {t : FT} {f : FE} {env : AE} {e : α → D} {c : α → Bool} {o : α → Int} {ah : AH} : ∀ {xs : List α} {acc : List Int}, (∀ x ∈ xs, ∃ env1, g (e x) env = some env1 ∧ t env1 ah = .ok (c x) ah ∧ (c x = true → f env1 ah = .ok (.int (o x)) ah)) →
    acc.length + xs.length ≤ 62 → compS g t f env (xs.map e) acc ah = .ok (acc ++ (xs.filter c).map o) ah
  | [], acc, _, _ => by simp [compS]
  | x :: xs, acc, h, hz => by
    obtain ⟨env1, h1, h2, h3⟩ := h x List.mem_cons_self
    rw [List.length_cons] at hz
    rw [List.map_cons]
    unfold compS
    simp only [h1, h2, Res.nox_ok, Res.bind_ok]
    cases hc : c x with
    | true =>
      rw [if_pos rfl, h3 hc, Res.nox_ok, Res.bind_ok]
      simp only
      rw [if_pos (by omega), compS_if (fun z hz => h z (List.mem_cons_of_mem _ hz)) (by rw [List.length_append, List.length_singleton]; omega), List.filter_cons_of_pos hc, List.map_cons, List.append_assoc]
      rfl
    | false =>
      rw [if_neg Bool.false_ne_true, compS_if (fun z hz => h z (List.mem_cons_of_mem _ hz)) (by omega), List.filter_cons_of_neg (by rw [hc]; exact Bool.false_ne_true)]
theorem eSortS {g : D → AE → Option AE} {vs : List Nat} {env : AE} {ah a1 a2 : AH} {ds : List D} {acc : List Int} (h1 : fi env ah = .ok ds a1) (h2 : compS g ft f (wipeA env vs) ds [] a1 = .ok acc a2) : iSortS fi g ft f vs env ah = .ok (.lst ((sortU acc).map D.int)) a2 := by
  unfold iSortS; rw [h1, Res.bind_ok, h2, Res.bind_ok]
theorem sc_loop {G : KW} {β : Type} {vs : List Nat} {S : L2.St} {H : Hp} {R : VK} {k : List Int → AH → Res β} {Q : β → List Addr → Hp → AH → Prop} {env : AE} {ah : AH} {η : List Addr} {X : Cx} (hX : gX X = G)
    (en : EnvOk G η H env S) (pk : HpOk G η H ah) (hq : ∀ i ∈ q.ix, i ∈ vs) (h : Post G W η H ((fi env ah).bind fun ds ah1 => (compS (ptB q) ft f (wipeA env vs) ds [] ah1).bind k) Q)
    (fin : ∀ (Dd : Addr) (η1 η' : List Addr) (H1 H' : Hp) (acc : List Int) (ah' : AH), Mv η H η1 H1 → H1 Dd = none → H' Dd = some ((kdI X.w X.prog).ho Dd acc) → acc.length ≤ 62 → Dd ∉ η' → Mv η1 H1 η' H' → HpOk G η' H' ah' → Post G W η1 H1 (k acc ah') Q → R (.ref Dd) H') :
    tScK (kdI X.w X.prog) (IJ G W fi) (GJ G q.ix (ptB q)) (TJ G noW ft) (SJ G noW f) vs S H R := by
  refine ⟨env, ah, η, en, pk, h.bind.imp0 fun ds η1 H1 ah1 m1 p1 q1 => fun J hJ => ?_⟩
  intro Dd hD
  have hD0 := same_new (o := (kdI X.w X.prog).ho Dd []) hD
  have en0 := (en.mv m1).wipe vs
  let Inv1 (n : Nat) (H' : Hp) : Prop := ∃ (acc : List Int) (ah : AH) (η' : List Addr), H' Dd = some ((kdI X.w X.prog).ho Dd acc) ∧ acc.length ≤ 62 ∧ Dd ∉ η' ∧ HpOk G η' H' ah ∧ Mv η1 H1 η' H' ∧ Post G W η1 H1 ((compS (ptB q) ft f (wipeA env vs) (ds.drop n) acc ah).bind k) Q
  refine ⟨fun i m H' => m = ds.length - i ∧ i ≤ ds.length ∧ Inv1 i H', ⟨ds.length, by simp, Nat.zero_le _, [], ah1, η1, upd_same, Nat.zero_le _, p1.fresh hD, p1.same hD0, .same hD0, q1⟩, ?_⟩
  rintro i m H2 ⟨rfl, hi, acc, ah2, η2, hD2, l2, nD, p2, m2, q2⟩
  by_cases hlt : i < ds.length
  · have hd : ds[i]? = some ds[i] := by simp [hlt]
    obtain ⟨hgo, hy⟩ := hJ.go i _ hd H2 m2.ext
    refine .inr ⟨hgo, fun H' => i + 1 ≤ ds.length ∧ Inv1 (i + 1) H', fun H' k => ⟨ds.length - (i + 1), by omega, rfl, k⟩, fun x H3 y => ?_⟩
    obtain ⟨sm, rx⟩ := hy x H3 y
    rw [List.drop_eq_getElem_cons hlt] at q2
    simp only [compS] at q2
    split at q2
    · exact q2.elim
    · rename_i env3 e3
      have m3 : Mv η2 H2 η2 H3 := .same sm
      have m13 := m2.trans m3
      refine ⟨wipeA env vs, η2, ds[i], env3, en0.mv m13, rx.ext m2.pre (Ext.refl _), e3, fun S3 en3 kz => ⟨wipe_kz (kz.mono hq), ?_⟩⟩
      have assoc : ∀ {α β γ : Type} (r : Res α) (g1 : α → AH → Res β) (g2 : β → AH → Res γ), (r.bind g1).bind g2 = r.bind fun a h => (g1 a h).bind g2 := fun r _ _ => by cases r <;> rfl
      rw [assoc] at q2
      refine ⟨env3, ah2, η2, en3, p2.same sm, (Post.nox (Post.bindB q2 m13)).imp0 fun b η4 H4 ah4 m4 p4 q4 => ?_⟩
      have m14 := m13.trans m4
      have hD4 := m4.frm _ _ (m3.frm _ _ hD2 nD) nD
      have nD4 : Dd ∉ η4 := fun z => (m4.new _ z).elim nD fun w => by rw [m3.frm _ _ hD2 nD] at w; cases w
      cases b with
      | true =>
        simp only [if_true] at q4 ⊢
        rw [assoc] at q4
        refine ⟨env3, ah4, η4, en3.mv m4, p4, (Post.nox (Post.bindB q4 m14)).imp0 fun z η5 H5 ah5 m5 p5 q6 => fun w rw' => ?_⟩
        have hD5 := m5.frm _ _ hD4 nD4
        have nD5 : Dd ∉ η5 := fun z => (m5.new _ z).elim nD4 fun w => by rw [hD4] at w; cases w
        cases z with
        | int n =>
          cases rw'
          simp only at q6
          split at q6
          · rename_i hz
            refine ⟨acc, acc ++ [n], hD5, by show (if acc.length < 62 then some (acc ++ [n]) else none) = some (acc ++ [n]); rw [if_pos hz], by omega, acc ++ [n], ah5, η5, upd_same, by rw [List.length_append, List.length_singleton]; omega, nD5, p5.side nD5 hD5 (fun _ z => nomatch z) (fun _ _ z => nomatch z), (m14.trans m5).side hD hD5, q6⟩
          · exact q6.elim
        | _ => exact q6.elim
      | false =>
        rw [if_neg Bool.false_ne_true] at q4
        dsimp only
        rw [if_neg Bool.false_ne_true]
        exact ⟨by omega, acc, ah4, η4, hD4, l2, nD4, p4, m14, q4⟩
  · have hi2 : ds.length ≤ i := by omega
    rw [List.drop_of_length_le hi2] at q2
    exact .inl ⟨hJ.stop i hi2 H2 m2.ext, fin Dd η1 η2 H1 H2 acc ah2 m1 hD hD2 l2 nD m2 p2 q2⟩
theorem j_sortS {p0 ppos : Pos} (hc : X.calm = true) (hN : X.N.Nodup) (hgl : Gl X "sorted") (hm : X.mg "sorted" = none) (hi : PI X tg iter (IX X W fi)) (ok : BlkOk X.N X.env.scope scope own) (hq : ∀ i ∈ q.ix, i ∈ own.map (·.2))
    (hg : ∀ (s : Shared) (H : Hp) (C : Addr) (cl : List (Str × Addr)) (fp : List Addr), PG (X.blk s H scope (compEnvC scope cl C X.env) fp) tg (GP X q)) (ht : ∀ (s : Shared) (H : Hp) (C : Addr) (cl : List (Str × Addr)) (fp : List Addr), PTs (X.blk s H scope (compEnvC scope cl C X.env) fp) ifs (TX X noW ft))
    (he : ∀ (s : Shared) (H : Hp) (C : Addr) (cl : List (Str × Addr)) (fp : List Addr), PE (X.blk s H scope (compEnvC scope cl C X.env) fp) elt (SX X noW f)) (hs : ∀ x, foldedSetIterable iter X.env x = pure x := by intro _; rfl)
    (hst : starEach [Expr.SetComp elt [⟨tg, iter, ifs, 0⟩] scope pos] X.env = (false, eval (.SetComp elt [⟨tg, iter, ifs, 0⟩] scope pos) X.env) :: starEach [] X.env := by rfl) (hpl : (backTo ppos (starEach [] X.env)).any (·.1) = false := by rfl) :
    PE X (.Call (.Name "sorted" p0) [.SetComp elt [⟨tg, iter, ifs, 0⟩] scope pos] [] ppos) (SX X W (iSortS fi (ptB q) ft f (own.map (·.2)))) :=
  PE.imp (pe_fz (pe_callB (cr_sortedSet hc) hgl hm PyProof.Rows.Boot.sorted (pa_cons (pe_scK (kdI X.w X.prog) (fun s H C cl fp => kdI_add (B := X.blk s H scope (compEnvC scope cl C X.env) fp)) hc hN hi ok hg ht he hs) pa_nil hst) (by decide) (by decide) hst hpl)) fun S H Q ⟨env, ah, η, en, pk, h⟩ => by
    show tScK (kdI X.w X.prog) (IJ (gX X) W fi) (GJ (gX X) q.ix (ptB q)) (TJ (gX X) noW ft) (SJ (gX X) noW f) (own.map (·.2)) S H (fun x H1 => rSortedSet X.w [x] H1 (QF Q))
    refine sc_loop rfl en pk hq h fun Dd η1 η' H1 H' acc ah' m hD hD' l nD mv p k => ?_
    refine ⟨Dd, _, _, rfl, hD', Nat.lt_of_le_of_lt (dd_len acc) (by omega), fun ns pp s1 s2 _ hpp => ?_⟩
    have e := sortU_one s1 fun k => (s2 k).trans (by rw [decide_eq_true_iff])
    subst e
    exact post_fz p (RelAll.ints _) (k.mono mv) hpp
end
end DL
namespace DL
open PySem PySem.Spec PyProof.Rows L2
def rRg1 : List V → Hp → VK → Prop := fun vs H Q => ∃ j, vs = [V.int j] ∧ ∀ p, H p = none → Q (.ref p) (upd H p (.rng 0 j))
section
variable {X : Cx} {G : KW} {W : XW} {η : List Addr} {H : Hp} {ah : AH} {tg e : Expr} {f : FE}
theorem cr_range1 : CallR X (.type "range") rRg1 := by
  intro pins s σ H vs us Q I r h
  obtain ⟨j, rfl, q⟩ := h
  obtain ⟨u, rfl, t, rfl⟩ := r.one
  exact call_range_1 ⟨.ref s.heap.objs.size, _, I.laid (o := .rng 0 j) (fun b o e => Heap.get?_push_of_some _ e) (Nat.le_refl _) ⟨_, _, _, Heap.get?_push_size _ rfl⟩, rfl, q _ (I.hok.fresh (Nat.le_refl _))⟩
def oRgM (ds : List D) (ah : AH) : Res D := match ds with
  | [.int j] => .ok (.ref ah.length) (ah ++ [.rng 0 j])
  | _ => .bad
theorem ok_rgM : CaOk G W rRg1 oRgM := by
  intro η H ah ds vs Q p r h
  unfold oRgM at h
  split at h
  · rename_i j
    obtain ⟨v, rfl, rx⟩ := relL1 r
    cases rx
    refine ⟨j, rfl, fun a ha => ?_⟩
    have m : Mv η H (η ++ [a]) (upd H a (.rng 0 j)) := .made ha
    refine .inl (h (η ++ [a]) _ m (p.new (o := .rng 0 j) (u := .rng 0 j) ha upd_same) _ (.ref ?_))
    rw [← p.len, List.getElem?_append_right (Nat.le_refl _)]
    simp
  · exact h.elim
def tRgV (te : TE) : TI := fun σ H R => te σ H fun x H1 => ∃ a lo hi, x = .ref a ∧ H1 a = some (.rng lo hi) ∧ (-(2 ^ 62) ≤ lo ∧ lo < 2 ^ 62 ∧ -(2 ^ 62) ≤ hi ∧ hi < 2 ^ 62) ∧ R (Itr lo (hi - lo).toNat) H1
theorem pi_rgV {te : TE} (h : PE X e te) : PI X tg e (tRgV te) := ⟨fun pins s σ H R I q => thn (h.run pins s σ H _ I q) fun v s1 ⟨x, H1, I1, r1, a, lo, hi, ex, ha, ⟨b1, b2, b3, b4⟩, k⟩ => by
  subst ex
  cases r1
  obtain ⟨t, u, v, e⟩ := I1.hok a _ ha
  refine wpAny_pyIter_range (a := lo) (b := hi) (c := 1) e (small_one b1 b2 b3 b4) ?_
  refine ⟨s1.heap.objs.size, [s1.heap.objs.size], _, _, H1, rfl, I1.kept (t' := s1.toks) fun b o e => Heap.get?_push_of_some _ e, turn_range _ lo (hi - lo).toNat, ?_, fun b hb => ?_, k⟩
  · have sz : (((hi - lo).toNat : Nat) : Int) = Builtin.Range.rangeSize lo hi 1 := by rw [rangeSize_one]; split <;> omega
    show IsRangeIter _ _ (lo + ((0 : Nat) : Int) * 1) ((((hi - lo).toNat : Nat) : Int) - ((0 : Nat) : Int)) 1
    rw [sz, show lo + ((0 : Nat) : Int) * 1 = lo by simp, show Builtin.Range.rangeSize lo hi 1 - ((0 : Nat) : Int) = Builtin.Range.rangeSize lo hi 1 by simp]
    exact Heap.get?_push_size _ rfl
  · rw [List.mem_singleton.mp hb]
    exact I1.fpOk (Nat.le_refl _) (I1.hok.fresh (Nat.le_refl _))⟩
def iRgV (f : FE) : FI := fun env ah => (f env ah).bind fun x ah1 => match x with
  | .ref n => (match ah1[n]? with
    | some (.rng lo hi) => if -(2 ^ 62) ≤ lo ∧ lo < 2 ^ 62 ∧ -(2 ^ 62) ≤ hi ∧ hi < 2 ^ 62 then .ok ((List.range (hi - lo).toNat).map fun i => .int (lo + (i : Nat))) ah1 else .bad
    | _ => .bad)
  | _ => .bad
theorem i_rgV (h : PE X e (SX X W f)) : PI X tg e (IX X W (iRgV f)) := PI.imp (pi_rgV h) fun S H R ⟨env, ah, η, en, pk, h⟩ =>
  ⟨env, ah, η, en, pk, h.bind.imp0 fun d η1 H1 ah1 m1 p1 q1 => fun v rv => by
    split at q1
    · split at q1
      · rename_i lo hi e1
        split at q1
        · rename_i hb
          cases rv with
          | ref hn =>
            obtain ⟨o, ho, k⟩ := p1.at hn
            rw [e1] at ho
            cases ho
            exact ⟨_, lo, hi, rfl, k, hb, q1.at p1 _ it_range⟩
        · exact q1.elim
      · exact q1.elim
    · exact q1.elim⟩
theorem eRgV {env : AE} {a1 : AH} {n : Nat} {m : Nat} (h1 : f env ah = .ok (.ref n) a1) (h2 : a1[n]? = some (.rng 0 (m : Int))) (hm : m ≤ 1000000) : iRgV f env ah = .ok ((List.range m).map fun i : Nat => D.int (i : Int)) a1 := by
  unfold iRgV
  rw [h1, Res.bind_ok]
  simp only [h2]
  rw [if_pos ⟨by omega, by omega, by omega, by omega⟩, show ((m : Int) - 0).toNat = m by omega]
  refine congrArg (fun l => Res.ok l a1) (List.map_congr_left fun i _ => ?_)
  rw [Int.zero_add]
theorem eRgM {j : Int} : oRgM [.int j] ah = .ok (.ref ah.length) (ah ++ [.rng 0 j]) := rfl
end
end DL
namespace DL
open PySem PySem.Spec PyProof.Rows L2
section
variable {X : Cx} {W : XW} {a b c d : Expr} {ta tb tc td : TE} {pos : Pos} {op op' op2 : CmpOp} {r r' r2 : R2}
def tChain3 (r r' r2 : R2) (ta tb tc td : TE) : TE := fun σ H Q => ta σ H fun x H1 => tb σ H1 fun y H2 => r x y H2 fun z H3 => ∃ k, z = .bl k ∧
  (if k = true then tc σ H3 fun u H4 => r' y u H4 fun z2 H5 => ∃ k2, z2 = .bl k2 ∧ (if k2 = true then td σ H5 fun w' H6 => r2 u w' H6 Q else Q (.bl false) H5) else Q (.bl false) H3)
theorem pe_chain3 (ho : OpR X (compareOp op) r) (ho' : OpR X (compareOp op') r') (ho2 : OpR X (compareOp op2) r2) (ha : PE X a ta) (hb : PE X b tb) (hc : PE X c tc) (hd : PE X d td)
    (hm : lastMarks [op, op', op2] [b, c, d] = false) : PE X (.Compare a [op, op', op2] [b, c, d] pos) (tChain3 r r' r2 ta tb tc td) := ⟨fun pins s σ H Q I h =>
  Compare_chain (thn (ha.run pins s σ H _ I h) fun v s1 ⟨x, H1, I1, e1, q1⟩ => chain_link (thn (hb.run pins s1 σ H1 _ I1 q1) fun u s2 ⟨y, H2, I2, e2, q2⟩ =>
    thn (ho pins s2 σ H2 x y v u _ I2 e1 e2 q2) fun c1 s3 ⟨z, H3, I3, e3, k, ez, q3⟩ => by
      subst ez
      cases e3
      refine wpAny_truthy_bool ?_
      cases k with
      | false => exact ite_ff ⟨.bl false, H3, I3, rfl, q3⟩
      | true =>
        refine ite_tt (chain_link (thn (hc.run pins s3 σ H3 _ I3 q3) fun u2 s4 ⟨y2, H4, I4, e4, q4⟩ => thn (ho' pins s4 σ H4 y y2 u u2 _ I4 e2 e4 q4) fun c2 s5 ⟨z2, H5, I5, e5, k2, ez2, q5⟩ => ?_))
        subst ez2
        cases e5
        refine wpAny_truthy_bool ?_
        cases k2 with
        | false => exact ite_ff ⟨.bl false, H5, I5, rfl, q5⟩
        | true => exact ite_tt (chain_last (thn (hd.run pins s5 σ H5 _ I5 q5) fun w' s6 ⟨z', H6, I6, e6, q6⟩ => ho2 pins s6 σ H6 y2 z' u2 w' Q I6 e4 e6 q6))))
    hm⟩
theorem pt_chain3 (ho : OpR X (compareOp op) r) (ho' : OpR X (compareOp op') r') (ho2 : OpR X (compareOp op2) r2) (ha : PE X a ta) (hb : PE X b tb) (hc : PE X c tc) (hd : PE X d td)
    (hm : lastMarks [op, op', op2] [b, c, d] = false) : PT X (.Compare a [op, op', op2] [b, c, d] pos) (tTest (tChain3 r r' r2 ta tb tc td)) := ⟨fun pins s σ H Q I h =>
  isTrue_chain (thn (ha.run pins s σ H _ I h) fun v s1 ⟨x, H1, I1, e1, q1⟩ => test_link (thn (hb.run pins s1 σ H1 _ I1 q1) fun u s2 ⟨y, H2, I2, e2, q2⟩ =>
    thn (ho pins s2 σ H2 x y v u _ I2 e1 e2 q2) fun c1 s3 ⟨z, H3, I3, e3, k, ez, q3⟩ => by
      subst ez
      cases e3
      refine wpAny_truthy_bool ?_
      cases k with
      | false =>
        obtain ⟨k', e', q'⟩ := q3
        cases e'
        exact ite_ff ⟨H3, I3, q'⟩
      | true =>
        refine ite_tt (test_link (thn (hc.run pins s3 σ H3 _ I3 q3) fun u2 s4 ⟨y2, H4, I4, e4, q4⟩ => thn (ho' pins s4 σ H4 y y2 u u2 _ I4 e2 e4 q4) fun c2 s5 ⟨z2, H5, I5, e5, k2, ez2, q5⟩ => ?_))
        subst ez2
        cases e5
        refine wpAny_truthy_bool ?_
        cases k2 with
        | false =>
          obtain ⟨k', e', q'⟩ := q5
          cases e'
          exact ite_ff ⟨H5, I5, q'⟩
        | true =>
          refine ite_tt (test_last (thn (hd.run pins s5 σ H5 _ I5 q5) fun w' s6 ⟨z', H6, I6, e6, q6⟩ => thn (ho2 pins s6 σ H6 y2 z' u2 w' _ I6 e4 e6 q6) fun c3 s7 ⟨z3, H7, I7, e7, k3, ez3, q7⟩ => ?_))
          subst ez3
          cases e7
          exact wpAny_truthy_bool ⟨H7, I7, q7⟩))
    hm⟩
/-- a o b o' c o2 d -/
def iChain3 (o o' o2 : D → D → AH → Res D) (fa fb fc fd : FE) : FE := fun env ah => (fa env ah).bind fun x ah1 => (fb env ah1).bind fun y ah2 => (o x y ah2).bind fun z ah3 => match z with
  | .bl true => (fc env ah3).bind fun u ah4 => (o' y u ah4).bind fun z2 ah5 => (match z2 with
    | .bl true => (fd env ah5).bind fun w ah6 => o2 u w ah6
    | .bl false => .ok (.bl false) ah5
    | _ => .bad)
  | .bl false => .ok (.bl false) ah3
  | _ => .bad
variable {fa fb fc fd : FE} {o o' o2 : D → D → AH → Res D}
theorem chain3_ok {G : KW} (k : OpOk G W r o) (k' : OpOk G W r' o') (k2 : OpOk G W r2 o2) {S : L2.St} {H : Hp} {Q : VK} (h : SJ G W (iChain3 o o' o2 fa fb fc fd) S H Q) :
    tChain3 (fun x y H Q => r x y H (QF Q)) (fun x y H Q => r' x y H (QF Q)) (fun x y H Q => r2 x y H (QF Q)) (SJ G W fa) (SJ G W fb) (SJ G W fc) (SJ G W fd) S H Q := by
  obtain ⟨env, ah, η, en, p, h⟩ := h
  refine ⟨env, ah, η, en, p, h.bind.imp0 fun x η1 H1 ah1 m1 p1 q1 v rvv => ⟨env, ah1, η1, en.mv m1, p1, q1.bind.imp0 fun y η2 H2 ah2 m2 p2 q2 u ru => ?_⟩⟩
  refine k η2 H2 ah2 x y v u _ p2 (rvv.mv m2) ru (q2.bind.imp0 fun z η3 H3 ah3 m3 p3 q3 w rw' => ?_)
  split at q3
  · cases rw'
    refine ⟨true, rfl, ?_⟩
    rw [if_pos rfl]
    have en3 := ((en.mv m1).mv m2).mv m3
    refine ⟨env, ah3, η3, en3, p3, q3.bind.imp0 fun d η4 H4 ah4 m4 p4 q4 t rt => k' η4 H4 ah4 y d u t _ p4 ((ru.mv m3).mv m4) rt (q4.bind.imp0 fun z2 η5 H5 ah5 m5 p5 q5 w2 rw2 => ?_)⟩
    split at q5
    · cases rw2
      refine ⟨true, rfl, ?_⟩
      rw [if_pos rfl]
      exact ⟨env, ah5, η5, (en3.mv m4).mv m5, p5, q5.bind.imp0 fun e η6 H6 ah6 m6 p6 q6 t2 rt2 => k2 η6 H6 ah6 d e t t2 Q p6 ((rt.mv m5).mv m6) rt2 q6⟩
    · cases rw2
      refine ⟨false, rfl, ?_⟩
      rw [if_neg Bool.false_ne_true]
      exact q5.at p5 _ (.bl false)
    · exact q5.elim
  · cases rw'
    refine ⟨false, rfl, ?_⟩
    rw [if_neg Bool.false_ne_true]
    exact q3.at p3 _ (.bl false)
  · exact q3.elim
theorem j_chain3 (ho : OpR X (compareOp op) r) (k : OpOk (gX X) W r o) (ho' : OpR X (compareOp op') r') (k' : OpOk (gX X) W r' o') (ho2 : OpR X (compareOp op2) r2) (k2 : OpOk (gX X) W r2 o2) (ha : PE X a (SX X W fa)) (hb : PE X b (SX X W fb)) (hc : PE X c (SX X W fc)) (hd : PE X d (SX X W fd))
    (hm : lastMarks [op, op', op2] [b, c, d] = false := by with_unfolding_all rfl) : PE X (.Compare a [op, op', op2] [b, c, d] pos) (SX X W (iChain3 o o' o2 fa fb fc fd)) :=
  PE.imp (pe_chain3 (opr_fz ho) (opr_fz ho') (opr_fz ho2) ha hb hc hd hm) fun S H Q q => chain3_ok k k' k2 q
theorem t_chain3 (ho : OpR X (compareOp op) r) (k : OpOk (gX X) W r o) (ho' : OpR X (compareOp op') r') (k' : OpOk (gX X) W r' o') (ho2 : OpR X (compareOp op2) r2) (k2 : OpOk (gX X) W r2 o2) (ha : PE X a (SX X W fa)) (hb : PE X b (SX X W fb)) (hc : PE X c (SX X W fc)) (hd : PE X d (SX X W fd))
    (hm : lastMarks [op, op', op2] [b, c, d] = false := by with_unfolding_all rfl) : PT X (.Compare a [op, op', op2] [b, c, d] pos) (TX X W (iTr (iChain3 o o' o2 fa fb fc fd))) :=
  PT.imp (pt_chain3 (opr_fz ho) (opr_fz ho') (opr_fz ho2) ha hb hc hd hm) fun S H Q q => chain3_ok k k' k2 (tr_tB q)
/-- four numbers that rise: the value -/
theorem eChain3 {env : AE} {ah : AH} {x y u w : D} {b1 b2 b3 : Bool} (h1 : fa env ah = .ok x ah) (h2 : fb env ah = .ok y ah) (h3 : o x y ah = .ok (.bl b1) ah) (h4 : b1 = true → fc env ah = .ok u ah ∧ o' y u ah = .ok (.bl b2) ah) (h5 : b1 = true → b2 = true → fd env ah = .ok w ah ∧ o2 u w ah = .ok (.bl b3) ah) :
    iChain3 o o' o2 fa fb fc fd env ah = .ok (.bl (b1 && (b2 && b3))) ah := by
  unfold iChain3
  rw [h1, Res.bind_ok, h2, Res.bind_ok, h3, Res.bind_ok]
  cases b1 with
  | false => rfl
  | true =>
    obtain ⟨g1, g2⟩ := h4 rfl
    simp only
    rw [g1, Res.bind_ok, g2, Res.bind_ok]
    cases b2 with
    | false => rfl
    | true =>
      obtain ⟨g3, g4⟩ := h5 rfl rfl
      simp only
      rw [g3, Res.bind_ok, g4]
      rfl
end
end DL
namespace DL
open PySem PySem.Spec PyProof.Rows L2
theorem dtx_new {P : Program} {w : World} {H : Hp} {h : Heap} {a : Addr} {L : LX} (R : DxOk w h a L) : ObjOk P w H h a (DTx w a L) := by
  refine ⟨R, ?_, fun h1 h2 p k => ?_⟩
  · obtain ⟨_, _, _, _, _, _, o, _, _, e, _⟩ := R
    exact ⟨o, e⟩
  · obtain ⟨z, y, dp, xs, r, P, o, es, ep, e, c⟩ := p
    exact ⟨z, y, dp, xs, r, P, o, es, ep, k o e, c⟩
section
variable {X : Cx} {pins : List (Addr × Obj)} {σ : L2.St} {H : Hp} {s : Shared} {η : List Addr}
theorem tup_is (I : Inv X pins σ H s) {a : Addr} {vs : List V} (h : SqT X.K H a vs) : ∃ its o n, Vals vs its ∧ s.heap.get? a = some o ∧ o.cls = .type "tuple" ∧ o.data = .seq its.toArray n := by
  obtain ⟨its, r, ⟨o, ho, hc, n, hd⟩, _⟩ := I.tuple h
  exact ⟨its, o, n, r, ho, hc, hd⟩
mutual
theorem nk_is (I : Inv X pins σ H s) : ∀ {d : D} {v : V}, Rel (gX X) η H d v → ∀ {k : NestedKey} {u : Value}, nkD d = some k → RelV v u → NestedIs s.heap k u
  | _, _, .non, _, _, e, r => by cases e; cases r; exact .none
  | _, _, .bl b, _, _, e, r => by cases e; cases r; exact .bool rfl
  | _, _, .int i, _, _, e, r => by cases e; obtain ⟨t, rfl⟩ := r; exact .int _ _
  | _, _, .str x, _, _, e, r => by cases e; obtain ⟨t, rfl⟩ := r; exact .text _ _
  | _, _, .tup h rr, _, _, e, r => by
    simp only [nkD] at e
    obtain ⟨ks, hk, rfl⟩ := Option.map_eq_some_iff.mp e
    cases r
    obtain ⟨its, o, n, rv, ho, hc, hd⟩ := tup_is I (.inl (.inl h))
    exact .tup ho hc hd (nks_is I rr hk rv)
  | _, _, .ct h rr, _, _, e, r => by
    simp only [nkD] at e
    obtain ⟨ks, hk, rfl⟩ := Option.map_eq_some_iff.mp e
    cases r
    obtain ⟨its, o, n, rv, ho, hc, hd⟩ := tup_is I h.sqt
    exact .tup ho hc hd (nks_is I rr hk rv)
  | _, _, .lst _ _, _, _, e, _ => by simp only [nkD] at e; cases e
  | _, _, .dk _ _ _, _, _, e, _ => by simp only [nkD] at e; cases e
  | _, _, .dt _ _ _, _, _, e, _ => by simp only [nkD] at e; cases e
  | _, _, .cd _ _ _, _, _, e, _ => by simp only [nkD] at e; cases e
  | _, _, .ref _, _, _, e, _ => by simp only [nkD] at e; cases e
  | _, _, .fn _, _, _, e, _ => by simp only [nkD] at e; cases e
  | _, _, .ty _, _, _, e, _ => by simp only [nkD] at e; cases e
theorem nks_is (I : Inv X pins σ H s) : ∀ {ds : List D} {vs : List V}, RelAll (gX X) η H ds vs → ∀ {ks : List NestedKey} {us : List Value}, nkDs ds = some ks → Vals vs us → NestedAll s.heap ks us
  | _, _, .nil, _, _, e, r => by cases e; cases r; exact .nil
  | _, _, .cons h rr, _, _, e, r => by
    simp only [nkDs] at e
    split at e
    · rename_i k ks e1 e2
      cases e
      cases r with
      | cons r1 r2 => exact .cons (nk_is I h e1 r1) (nks_is I rr e2 r2)
    · cases e
end
end
/-- the value at b is the key k -/
def KeyAt (G : KW) (H : Hp) (b : Addr) (k : NestedKey) : Prop := ∃ η d, Rel G η H d (.ref b) ∧ nkD d = some k
def KeysAt (G : KW) (H : Hp) (L : LX) : Prop := ∀ p ∈ L, KeyAt G H p.2.1 p.1
theorem KeyAt.ext {G : KW} {H H' : Hp} (e : Ext H H') {b : Addr} {k : NestedKey} (h : KeyAt G H b k) : KeyAt G H' b k := by
  obtain ⟨η, d, r, z⟩ := h
  exact ⟨η, d, r.ext (List.prefix_refl _) e, z⟩
theorem KeysAt.ext {G : KW} {H H' : Hp} (e : Ext H H') {L : LX} (h : KeysAt G H L) : KeysAt G H' L := fun p hp => (h p hp).ext e
theorem keys_of {G : KW} {η : List Addr} {H : Hp} : ∀ {L : LX} {ks : List D}, (L.map fun p => some p.1) = ks.map nkD → RelAll G η H ks (L.map fun p => V.ref p.2.1) → KeysAt G H L
  | [], _, _, _ => fun p hp => nomatch hp
  | p :: L, [], e, _ => by cases e
  | p :: L, k :: ks, e, r => by
    simp only [List.map_cons, List.cons.injEq] at e
    cases r with
    | cons r1 rr =>
      intro q hq
      rcases List.mem_cons.mp hq with rfl | hq
      · exact ⟨η, k, r1, e.1.symm⟩
      · exact keys_of e.2 rr q hq
section
variable {X : Cx} {pins : List (Addr × Obj)} {σ : L2.St} {H : Hp} {s : Shared}
theorem keyAt_is {b : Addr} {k : NestedKey} (I : Inv X pins σ H s) (e : KeyAt (gX X) H b k) (h : k.depth ≤ 8) : (nestedKind X.prog X.w).is s.heap k b := by
  obtain ⟨η, d, r, z⟩ := e
  exact ⟨nk_is I r z rfl, h⟩
theorem rx_keys (I : Inv X pins σ H s) : ∀ {L : LX} {xs : List (NestedKey × Addr × Value)}, Paired Rx L xs → KeysAt (gX X) H L → (∀ p ∈ L, p.1.depth ≤ 8) → ∀ x ∈ xs, (nestedKind X.prog X.w).is s.heap x.1 x.2.1
  | _, _, .nil, _, _, _, hx => nomatch hx
  | p :: L, q :: xs, .cons e r, hk, hd, x, hx => by
    rcases List.mem_cons.mp hx with rfl | hx
    · rw [← e.1, ← e.2.1]; exact keyAt_is I (hk p List.mem_cons_self) (hd p List.mem_cons_self)
    · exact rx_keys I r (fun z hz => hk z (List.mem_cons_of_mem _ hz)) (fun z hz => hd z (List.mem_cons_of_mem _ hz)) x hx
theorem dx_of {a : Addr} {L : LX} (I : Inv X pins σ H s) (e : H a = some (DTx X.w a L)) (hk : KeysAt (gX X) H L) :
    L.length ≤ sizeLine ∧ (a == sysModules) = false ∧ (∀ p ∈ L, p.1.depth ≤ 8) ∧ ∃ xs, Paired Rx L xs ∧ s.heap.DictOfH (nestedKind X.prog X.w) a xs := by
  obtain ⟨⟨z, y, dp, xs, r, P', o, es, ep, h1, h2, h3, h4, h5⟩, _⟩ := I.hok a _ e
  exact ⟨z, y, dp, xs, r, o, es, ep, h1, h2, h3, h4, rx_keys I r hk dp, h5⟩
end
def lkL (L : LX) (k : NestedKey) : Option V := (L.find? fun p => decide (p.1 = k)).map (·.2.2)
def rpL (k : NestedKey) (v : V) (p : NestedKey × Addr × V) : NestedKey × Addr × V := if p.1 = k then (p.1, p.2.1, v) else p
def stL (L : LX) (k : NestedKey) (b : Addr) (v : V) : LX := if (lkL L k).isSome = true then L.map (rpL k v) else L ++ [(k, b, v)]
theorem rx_at {k : NestedKey} : ∀ {L : LX} {xs : List (NestedKey × Addr × Value)}, Paired Rx L xs → RelO (lkL L k) ((atKey xs k).map (·.2))
  | _, _, .nil => True.intro
  | p :: L, q :: xs, .cons e r => by
    have ih := rx_at (k := k) r
    unfold lkL atKey at ih ⊢
    rw [List.find?_cons, List.find?_cons, e.1]
    cases decide (q.1 = k) with
    | true => exact e.2.2
    | false => exact ih
theorem rx_rp {k : NestedKey} {v : V} {u : Value} (rv : RelV v u) : ∀ {L : LX} {xs : List (NestedKey × Addr × Value)}, Paired Rx L xs → Paired Rx (L.map (rpL k v)) (xs.map (putAt k u))
  | _, _, .nil => .nil
  | p :: L, q :: xs, .cons e r => by
    rw [List.map_cons, List.map_cons]
    refine .cons ?_ (rx_rp rv r)
    unfold rpL putAt
    by_cases c : q.1 = k
    · rw [if_pos (e.1.trans c), if_pos c]; exact ⟨e.1, e.2.1, rv⟩
    · rw [if_neg (fun z => c (e.1.symm.trans z)), if_neg c]; exact e
theorem rx_st {k : NestedKey} {b : Addr} {v : V} {u : Value} {L : LX} {xs : List (NestedKey × Addr × Value)} (r : Paired Rx L xs) (rv : RelV v u) : Paired Rx (stL L k b v) (storedH xs k b u) := by
  have z := (rx_at (k := k) r).isSome_eq
  rw [Option.isSome_map] at z
  unfold stL storedH
  rw [z]
  split
  · exact rx_rp rv r
  · exact Paired.snoc r ⟨rfl, rfl, rv⟩
theorem st_len {L : LX} {k : NestedKey} {b : Addr} {v : V} : (stL L k b v).length ≤ L.length + 1 := by
  unfold stL
  split
  · rw [List.length_map]; omega
  · rw [List.length_append]; exact Nat.le_refl _
theorem rp_key (k : NestedKey) (v : V) (p : NestedKey × Addr × V) : (rpL k v p).1 = p.1 ∧ (rpL k v p).2.1 = p.2.1 := by
  unfold rpL
  split <;> exact ⟨rfl, rfl⟩
theorem st_all {P : NestedKey → Addr → Prop} {L : LX} {k : NestedKey} {b : Addr} {v : V} (h : ∀ p ∈ L, P p.1 p.2.1) (hb : P k b) : ∀ p ∈ stL L k b v, P p.1 p.2.1 := by
  intro p hp
  unfold stL at hp
  split at hp
  · obtain ⟨q, hq, rfl⟩ := List.mem_map.mp hp
    rw [(rp_key k v q).1, (rp_key k v q).2]
    exact h q hq
  · rcases List.mem_append.mp hp with hp | hp
    · exact h p hp
    · rw [List.mem_singleton.mp hp]; exact hb
section
variable {X : Cx} {pins : List (Addr × Obj)} {σ : L2.St} {H : Hp} {s : Shared} {A : Around} {E : Value → Shared → Prop}
/-- d[k] -/
theorem dx_getItem {a b : Addr} {L : LX} {k : NestedKey} {v : V} {Q : Value → Shared → Prop} (hu : A.units + 9 < cLine) (I : Inv X pins σ H s) (e : H a = some (DTx X.w a L)) (hk : KeysAt (gX X) H L) (eb : KeyAt (gX X) H b k) (kd : k.depth ≤ 8) (l : lkL L k = some v)
    (h : ∀ u s', Inv X pins σ H s' → RelV v u → Q u s') : wpAny (model X.prog X.w) A (getItem (.ref a) (.ref b)) Q E s := by
  obtain ⟨z, hd, _, xs, rel, dd⟩ := dx_of I e hk
  obtain ⟨u, hw, ru⟩ := RelO.some_of (v := v) (o := (atKey xs k).map (·.2)) (by rw [← l]; exact rx_at rel)
  obtain ⟨p, hp, hp2⟩ := Option.map_eq_some_iff.mp hw
  refine wpAny_getItem_heap (show A.units + 1 + 8 < cLine from hu) (keyAt_is I eb kd) dd hp ?_
  rw [hp2]
  exact h u _ (I.tok _) ru
/-- k in d, k not in d -/
def rDxIn (G : KW) (neg : Bool) : R2 := fun x y H Q => ∃ a b L k, x = .ref b ∧ y = .ref a ∧ H a = some (DTx G.w a L) ∧ KeysAt G H L ∧ KeyAt G H b k ∧ k.depth ≤ 8 ∧ Q (.bl (neg ^^ (lkL L k).isSome)) H
theorem op_dxIn (hu : X.A.units + 9 < cLine) : OpR X (compareOp .In) (rDxIn (gX X) false) := by
  intro pins s σ H x y v u Q I rx ry h
  obtain ⟨a, b, L, k, rfl, rfl, e, hk, eb, kd, q⟩ := h
  cases rx
  cases ry
  obtain ⟨z, hd, _, xs, rel, dd⟩ := dx_of I e hk
  refine wpAny_in_heap (show X.A.units + 1 + 8 < cLine from hu) (keyAt_is I eb kd) hd dd ⟨_, H, I.tok _, ?_, q⟩
  have z := (rx_at (k := k) rel).isSome_eq
  rw [Option.isSome_map] at z
  rw [z, Bool.false_xor]
  exact rfl
theorem op_dxNotIn (hu : X.A.units + 9 < cLine) : OpR X (compareOp .NotIn) (rDxIn (gX X) true) := by
  intro pins s σ H x y v u Q I rx ry h
  obtain ⟨a, b, L, k, rfl, rfl, e, hk, eb, kd, q⟩ := h
  cases rx
  cases ry
  obtain ⟨z, hd, _, xs, rel, dd⟩ := dx_of I e hk
  refine wpAny_notIn_heap (show X.A.units + 1 + 8 < cLine from hu) (keyAt_is I eb kd) hd dd ⟨_, H, I.tok _, ?_, q⟩
  have z := (rx_at (k := k) rel).isSome_eq
  rw [Option.isSome_map] at z
  rw [z, Bool.true_xor]
  exact rfl
/-- behind d[k] = v the dict's object is told again -/
theorem dx_put {a b : Addr} {L : LX} {k : NestedKey} {v : V} {u : Value} {h' : Heap} {xs : List (NestedKey × Addr × Value)} (hd : (a == sysModules) = false) (dp : ∀ p ∈ L, p.1.depth ≤ 8) (kd : k.depth ≤ 8) (hl : L.length < sizeLine) (rel : Paired Rx L xs) (rv : RelV v u) (dd : h'.DictOfH (nestedKind X.prog X.w) a (storedH xs k b u)) :
    DxOk X.w h' a (stL L k b v) := by
  obtain ⟨o, es, ep, h1, h2, h3, h4, _, h5⟩ := dd
  exact ⟨Nat.le_trans st_len hl, hd, st_all (P := fun k _ => k.depth ≤ 8) dp kd, _, rx_st rel rv, X.prog, o, es, ep, h1, h2, h3, h4, h5⟩
def rDxPut (G : KW) : V → V → V → Hp → (Hp → Prop) → Prop := fun x y v H Q => ∃ a b L k, x = .ref a ∧ y = .ref b ∧ H a = some (DTx G.w a L) ∧ KeysAt G H L ∧ KeyAt G H b k ∧ k.depth ≤ 8 ∧ L.length < sizeLine ∧ Q (upd H a (DTx G.w a (stL L k b v)))
theorem set_dx (hu : X.A.units + 9 < cLine) : PSet X (rDxPut (gX X)) := by
  intro pins s σ H x y v ov iv u Q I rx ry rv h
  obtain ⟨a, b, L, k, rfl, rfl, e, hk, eb, kd, hl, q⟩ := h
  cases rx
  cases ry
  obtain ⟨z, hd, dp, xs, rel, dd⟩ := dx_of I e hk
  have hz : xs.length ≤ sizeLine := by rw [← Paired.length rel]; exact z
  refine wpAny_setItem_heap (hsz := hz) (show X.A.units + 1 + 8 < cLine from hu) (keyAt_is I eb kd) dd fun h' dd' hs => ?_
  obtain ⟨o, _, _, h1, _⟩ := id dd'
  exact ⟨_, d_write I (by rw [e]; exact True.intro) hs ⟨o, h1⟩ (dtx_new (dx_put hd dp kd hl rel rv dd')), q⟩
/-- {} -/
theorem dx_empty {P : Program} {w : World} {H : Hp} (h : Heap) (hb : sysModules < h.objs.size) : ObjOk P w H (h.push { cls := .type "dict", data := .dict #[] }) h.objs.size (DTx w h.objs.size []) := by
  obtain ⟨_, hd, xs, r, o, es, ep, h1, h2, h3, h4, h5⟩ := (dt_empty (P := P) (w := w) (H := H) h hb : ObjOk _ _ _ _ _ (.dT []))
  have xe : xs = [] := by cases r; rfl
  subst xe
  exact dtx_new ⟨Nat.zero_le _, hd, (fun p hp => nomatch hp), [], .nil, P, o, es, ep, h1, h2, h3, h4, List.nodup_nil⟩
theorem pe_dxNew {pos : Pos} : PE X (.Dict [] [] pos) (fun σ H Q => ∀ p, H p = none → Q (.ref p) (upd H p (DTx X.w p []))) := ⟨fun pins s σ H Q I h =>
  wpAny_Dict_empty ⟨.ref s.heap.objs.size, _, I.laid (a := s.heap.objs.size) (o := DTx X.w s.heap.objs.size []) (t' := s.toks) (fun _ _ q => Heap.get?_push_of_some _ q) (Nat.le_refl _) (dx_empty s.heap I.big), rfl, h _ (I.hok.fresh (Nat.le_refl _))⟩⟩
/-- d[k] as an expression -/
def tDxGet (G : KW) (td ty : TE) : TE := fun σ H Q => td σ H fun x H1 => ty σ H1 fun y H2 => ∃ a b L k v, x = .ref a ∧ y = .ref b ∧ H2 a = some (DTx G.w a L) ∧ KeysAt G H2 L ∧ KeyAt G H2 b k ∧ k.depth ≤ 8 ∧ lkL L k = some v ∧ Q v H2
theorem pe_dxGet {o i : Expr} {pos : Pos} {td ty : TE} (hu : X.A.units + 9 < cLine) (ho : PE X o td) (hi : PE X i ty) (hs : NoSl i) : PE X (.Subscript o i pos) (tDxGet (gX X) td ty) := ⟨fun pins s σ H Q I h => by
  refine subD_of PySem.F.slot_dict_getitem.lookup hs (thn (ho.run pins s σ H _ I h) fun u s1 ⟨x, H1, I1, rx, q1⟩ => thn (hi.run pins s1 σ H1 _ I1 q1) fun iv s2 ⟨y, H2, I2, ry, a, b, L, k, v, ex, ey, e, hk, eb, kd, l, q2⟩ => ?_)
  subst ex ey
  cases rx
  cases ry
  obtain ⟨_, _, _, _, _, dd⟩ := dx_of I2 e hk
  exact ⟨dd.typeIs, dx_getItem hu I2 e hk eb kd l fun w' s3 I3 rw' => ⟨v, H2, I3, rw', q2⟩⟩⟩
/-- list(d) -/
def rLsDx (G : KW) : List V → Hp → VK → Prop := fun vs H Q => ∃ (a : Addr) (L : LX), vs = [.ref a] ∧ H a = some (DTx G.w a L) ∧ KeysAt G H L ∧ ∀ p, H p = none → Q (.ref p) (upd H p (.lst (L.map fun p => V.ref p.2.1)))
theorem refs_rx : ∀ {L : LX} {xs : List (NestedKey × Addr × Value)}, Paired Rx L xs → Vals (L.map fun p => V.ref p.2.1) (xs.map fun x => Value.ref x.2.1)
  | _, _, .nil => .nil
  | p :: L, q :: xs, .cons e r => .cons (show Value.ref q.2.1 = Value.ref p.2.1 by rw [e.2.1]) (refs_rx r)
theorem cr_lsDx (hc : X.calm = true) : CallR X (.type "list") (rLsDx (gX X)) := by
  intro pins s σ H vs us Q I r h
  obtain ⟨a, L, rfl, ha, hk, q⟩ := h
  rw [Vals.ref1 r]
  obtain ⟨z, hd, _, xs, rel, o, es, ep, ho, hx, hdat, hes, _⟩ := dx_of I ha hk
  have hz : es.size ≤ sizeLine := by
    have := congrArg List.length hes
    rw [Array.length_toList, List.length_map, ← Paired.length rel] at this
    omega
  refine PySem.W.kdl_call (PySem.KdlSrc.rawDict (d := a) (es := es) (ep := ep) hd) (I.ok.hd hc) ⟨o, ho, hx, hdat⟩ hz fun h' tk acc' c' hk hD hacc => ?_
  have ea : acc'.toList = xs.map fun x => Value.ref x.2.1 := by
    refine List.ext_getElem? fun i => ?_
    have e1 : (es.toList.map (·.key)) = xs.map fun x => Value.ref x.2.1 := by rw [hes, List.map_map]; rfl
    rw [← e1]
    by_cases hi : i < es.size
    · have h1 : i < acc'.size := by rw [hacc.1]; exact hi
      obtain ⟨hi2, e2⟩ := hacc.2 i acc'[i] (by simp [h1])
      rw [List.getElem?_map]
      simp [h1, hi, e2]
    · rw [List.getElem?_eq_none (by rw [Array.length_toList, hacc.1]; omega), List.getElem?_eq_none (by simp; omega)]
  have hf : H s.heap.objs.size = none := I.hok.fresh (Nat.le_refl _)
  refine ⟨.ref s.heap.objs.size, upd H s.heap.objs.size (.lst (L.map fun p => V.ref p.2.1)), I.laid (t' := tk) hk (Nat.le_refl _) ⟨by rw [List.length_map]; exact z, acc'.toList, c', ?_, ?_⟩, rfl, q _ hf⟩
  · rw [ea]; exact refs_rx rel
  · rw [Array.toArray_toList]; exact hD
end
theorem room9 {n : Nat} (h : n + 65 < cLine) : n + 9 < cLine := by omega
def tupK : D → Option NestedKey
  | .tup ds => (nkDs ds).map .tup
  | .ct ds => (nkDs ds).map .tup
  | _ => none
/-- a tuple as a key -/
def keyN (d : D) : Option NestedKey := match tupK d with
  | some k => if k.depth ≤ 8 then some k else none
  | none => none
def lkN : List D → List D → NestedKey → Option D
  | q :: ks, d :: ds, k => if nkD q = some k then some d else lkN ks ds k
  | _, _, _ => none
def ptN : List D → List D → NestedKey → D → List D
  | q :: ks, e :: ds, k, d => (if nkD q = some k then d else e) :: ptN ks ds k d
  | _, _, _, _ => []
def stN (ks ds : List D) (q : D) (k : NestedKey) (d : D) : List D × List D := if (lkN ks ds k).isSome = true then (ks, ptN ks ds k d) else (ks ++ [q], ds ++ [d])
def dxD (ah : AH) (x : D) : Option (List D × List D) := match x with
  | .ref n => match ah[n]? with
    | some (.dx ks ds) => some (ks, ds)
    | _ => none
  | _ => none
section
variable {X : Cx} {G : KW} {W : XW} {η : List Addr} {H : Hp} {ah : AH}
theorem keyN_at {d : D} {v : V} {k : NestedKey} (r : Rel G η H d v) (e : keyN d = some k) : ∃ b, v = .ref b ∧ KeyAt G H b k ∧ k.depth ≤ 8 ∧ nkD d = some k := by
  unfold keyN at e
  split at e
  · rename_i k' e1
    split at e
    · rename_i hd
      cases e
      unfold tupK at e1
      split at e1
      · rename_i ds
        have z : nkD (.tup ds) = some k := by simp only [nkD]; exact e1
        cases r with
        | tup h rr => exact ⟨_, rfl, ⟨η, _, .tup h rr, z⟩, hd, z⟩
      · rename_i ds
        have z : nkD (.ct ds) = some k := by simp only [nkD]; exact e1
        cases r with
        | ct h rr => exact ⟨_, rfl, ⟨η, _, .ct h rr, z⟩, hd, z⟩
      · cases e1
    · cases e
  · cases e
theorem lkN_rel {k : NestedKey} : ∀ {L : LX} {ks ds : List D}, (L.map fun p => some p.1) = ks.map nkD → RelAll G η H ds (L.map (·.2.2)) → (lkN ks ds k = none ∧ lkL L k = none) ∨ ∃ d v, lkN ks ds k = some d ∧ lkL L k = some v ∧ Rel G η H d v
  | [], [], _, _, r => by cases r; exact .inl ⟨rfl, rfl⟩
  | [], _ :: _, _, e, _ => by cases e
  | _ :: _, [], _, e, _ => by cases e
  | p :: L, q :: ks, _, e, .cons r rr => by
    simp only [List.map_cons, List.cons.injEq] at e
    have ih := lkN_rel (k := k) e.2 rr
    unfold lkL at ih ⊢
    rw [List.find?_cons]
    unfold lkN
    rw [← e.1]
    by_cases c : p.1 = k
    · rw [if_pos (congrArg some c), decide_eq_true c]
      exact .inr ⟨_, _, rfl, rfl, r⟩
    · rw [if_neg fun z => c (Option.some.inj z), decide_eq_false c]
      exact ih
theorem ptN_rel {k : NestedKey} {d : D} {v : V} (rv : Rel G η H d v) : ∀ {L : LX} {ks ds : List D}, (L.map fun p => some p.1) = ks.map nkD → RelAll G η H ds (L.map (·.2.2)) → RelAll G η H (ptN ks ds k d) ((L.map (rpL k v)).map (·.2.2))
  | [], [], _, _, r => by cases r; exact .nil
  | [], _ :: _, _, e, _ => by cases e
  | _ :: _, [], _, e, _ => by cases e
  | p :: L, q :: ks, _, e, .cons r rr => by
    simp only [List.map_cons, List.cons.injEq] at e
    simp only [List.map_cons, ptN]
    refine .cons ?_ (ptN_rel rv e.2 rr)
    rw [← e.1]
    unfold rpL
    by_cases c : p.1 = k
    · rw [if_pos (congrArg some c), if_pos c]; exact rv
    · rw [if_neg fun z => c (Option.some.inj z), if_neg c]; exact r
theorem stN_rel {k : NestedKey} {q d : D} {v : V} {b : Addr} {L : LX} {ks ds : List D} (e : (L.map fun p => some p.1) = ks.map nkD) (r1 : RelAll G η H ks (L.map fun p => V.ref p.2.1)) (r2 : RelAll G η H ds (L.map (·.2.2))) (rq : Rel G η H q (.ref b)) (hq : nkD q = some k) (rv : Rel G η H d v) :
    ((stL L k b v).map fun p => some p.1) = (stN ks ds q k d).1.map nkD ∧ RelAll G η H (stN ks ds q k d).1 ((stL L k b v).map fun p => V.ref p.2.1) ∧ RelAll G η H (stN ks ds q k d).2 ((stL L k b v).map (·.2.2)) := by
  have z : (lkL L k).isSome = (lkN ks ds k).isSome := by
    rcases lkN_rel (k := k) e r2 with ⟨a, b⟩ | ⟨_, _, a, b, _⟩ <;> rw [a, b] <;> rfl
  unfold stN stL
  rw [z]
  split
  · refine ⟨?_, ?_, ptN_rel rv e r2⟩
    · rw [List.map_map, ← e]
      exact List.map_congr_left fun p _ => congrArg some (rp_key k v p).1
    · rw [List.map_map]
      rw [show (L.map ((fun p => V.ref p.2.1) ∘ rpL k v)) = L.map fun p => V.ref p.2.1 from List.map_congr_left fun p _ => congrArg V.ref (rp_key k v p).2]
      exact r1
  · refine ⟨?_, ?_, ?_⟩
    · rw [List.map_append, List.map_append, e]; simp [hq]
    · rw [List.map_append]; exact r1.snoc rq
    · rw [List.map_append]; exact r2.snoc rv
theorem dxD_rel {x : D} {v : V} {ks ds : List D} (p : HpOk G η H ah) (r : Rel G η H x v) (e : dxD ah x = some (ks, ds)) : ∃ n a L, x = .ref n ∧ v = .ref a ∧ η[n]? = some a ∧ ah[n]? = some (.dx ks ds) ∧ H a = some (DTx G.w a L) ∧ (L.map fun p => some p.1) = ks.map nkD ∧ RelAll G η H ks (L.map fun p => V.ref p.2.1) ∧ RelAll G η H ds (L.map (·.2.2)) := by
  unfold dxD at e
  split at e
  · rename_i n
    split at e
    · rename_i ks' ds' e1
      cases e
      cases r with
      | ref hn =>
        obtain ⟨o, ho, k⟩ := p.at hn
        rw [e1] at ho
        cases ho
        obtain ⟨L, h1, h2, h3, h4⟩ := k
        exact ⟨n, _, L, rfl, rfl, hn, e1, h1, h2, h3, h4⟩
    · cases e
  · cases e
/-- k in d, k not in d -/
def oNxIn (neg : Bool) (x y : D) (ah : AH) : Res D := match keyN x, dxD ah y with
  | some k, some (ks, ds) => .ok (.bl (neg ^^ (lkN ks ds k).isSome)) ah
  | _, _ => .bad
theorem ok_nxIn {neg : Bool} : OpOk G W (rDxIn G neg) (oNxIn neg) := by
  intro η H ah x y v u Q p rx ry h
  unfold oNxIn at h
  split at h
  · rename_i k ks ds e1 e2
    obtain ⟨b, rfl, kb, kd, _⟩ := keyN_at rx e1
    obtain ⟨n, a, L, rfl, rfl, _, _, h1, h2, h3, h4⟩ := dxD_rel p ry e2
    refine ⟨a, b, L, k, rfl, rfl, h1, keys_of h2 h3, kb, kd, ?_⟩
    rcases lkN_rel (k := k) h2 h4 with ⟨z1, z2⟩ | ⟨d, v, z1, z2, _⟩
    · rw [z1] at h; rw [z2]; exact post_val p (.bl _) h
    · rw [z1] at h; rw [z2]; exact post_val p (.bl _) h
  · exact h.elim
/-- d[k] -/
def oNxGet (x y : D) (ah : AH) : Res D := match dxD ah x, keyN y with
  | some (ks, ds), some k => (match lkN ks ds k with
    | some d => .ok d ah
    | none => .bad)
  | _, _ => .bad
theorem j_nxGet {o i : Expr} {fo fi : FE} {pos : Pos} (hu : X.A.units + 9 < cLine) (ho : PE X o (SX X W fo)) (hi : PE X i (SX X W fi)) (hs : NoSl i := by intro _ _; rfl) : PE X (.Subscript o i pos) (SX X W (iBin oNxGet fo fi)) :=
  PE.imp (pe_fz (pe_dxGet hu ho hi hs)) fun S H Q ⟨env, ah, η, en, pk, h⟩ => by
    refine ⟨env, ah, η, en, pk, h.bind.imp0 fun x η1 H1 ah1 m1 p1 q1 v rvv => ⟨env, ah1, η1, en.mv m1, p1, q1.bind.imp0 fun y η2 H2 ah2 m2 p2 q2 u ru => ?_⟩⟩
    unfold oNxGet at q2
    split at q2
    · rename_i ks ds k e1 e2
      obtain ⟨n, a, L, rfl, rfl, _, _, h1, h2, h3, h4⟩ := dxD_rel p2 (rvv.mv m2) e1
      obtain ⟨b, rfl, kb, kd, _⟩ := keyN_at ru e2
      rcases lkN_rel (k := k) h2 h4 with ⟨z1, z2⟩ | ⟨d, v, z1, z2, rv⟩
      · rw [z1] at q2; exact q2.elim
      · rw [z1] at q2
        exact ⟨a, b, L, k, v, rfl, rfl, h1, keys_of h2 h3, kb, kd, z2, post_val p2 rv q2⟩
    · exact q2.elim
/-- {} -/
def iNewN : FE := fun _ ah => .ok (.ref ah.length) (ah ++ [.dx [] []])
theorem j_newN {pos : Pos} : PE X (.Dict [] [] pos) (SX X W iNewN) := PE.imp pe_dxNew fun S H Q ⟨env, ah, η, en, pk, h⟩ a ha => by
  have m : Mv η H (η ++ [a]) (upd H a (DTx X.w a [])) := .made ha
  refine h (η ++ [a]) _ m (pk.new ha ⟨[], upd_same, rfl, .nil, .nil⟩) _ (.ref ?_)
  rw [← pk.len, List.getElem?_append_right (Nat.le_refl _)]
  simp
/-- list(d) -/
def oListN (ds : List D) (ah : AH) : Res D := match ds with
  | [d] => match dxD ah d with
    | some (ks, _) => .ok (.lst ks) ah
    | none => .bad
  | _ => .bad
theorem ok_listN : CaOk G W (rLsDx G) oListN := by
  intro η H ah ds vs Q p r h
  unfold oListN at h
  split at h
  · rename_i d
    split at h
    · rename_i ks xs e
      cases r with
      | cons r0 r =>
        cases r
        obtain ⟨n, a, L, rfl, rfl, _, _, h1, h2, h3, h4⟩ := dxD_rel p r0 e
        exact ⟨a, L, rfl, h1, keys_of h2 h3, fun q hq => post_fz p h3 h hq⟩
    · exact h.elim
  · exact h.elim
/-- d[k] = v -/
def putN (x y d : D) (ah : AH) : Option AH := match x with
  | .ref n => match ah[n]? with
    | some (.dx ks ds) => (match keyN y with
      | some k => if ks.length < sizeLine then some (ah.set n (.dx (stN ks ds y k d).1 (stN ks ds y k d).2)) else none
      | none => none)
    | _ => none
  | _ => none
def sPutN (fo fi f : FE) : FS := fun env ah => (f env ah).bind fun e ah1 => (fo env ah1).bind fun x ah2 => (fi env ah2).bind fun y ah3 => match putN x y e ah3 with
  | some ah4 => .ok (.nx, env) ah4
  | none => .bad
theorem dx_nt {w : World} {a : Addr} {L : LX} : ∀ xs, (DTx w a L) ≠ .tup xs := fun _ z => nomatch z
theorem dx_nf {w : World} {a : Addr} {L : LX} : ∀ ob v, (DTx w a L) ≠ .frz ob v := fun _ _ z => nomatch z
theorem s_putN {o i e : Expr} {fo fi f : FE} {pos pos' : Pos} (hu : X.A.units + 9 < cLine) (ho : PE X o (SX X W fo)) (hi : PE X i (SX X W fi)) (he : PE X e (SX X W f))
    (ha : ∀ v, assign (.Subscript o i pos') X.env v = (do
      let ov ← holding [v] (eval o X.env)
      let iv ← holding [v, ov] (eval i X.env)
      standAt pos'
      holding [v, ov, iv] (setItem ov iv v)
      release [v, ov, iv] []) := by intro _; rfl)
    (hs : swapsWithSole [.Subscript o i pos'] e pos.line X.env = pure false := by rfl) (hw : swappedStores [.Subscript o i pos'] e X.env = pure none := by rfl) (h1 : (assignEach [.Subscript o i pos'] X.env).map (·.2) = [assign (.Subscript o i pos') X.env] := by rfl) :
    PS X (.Assign [.Subscript o i pos'] e pos) (SSX X W (sPutN fo fi f)) := PS.imp (ps_asg he (pg_sub ho hi (set_dx hu) ha) hs hw h1) fun Dn S H ⟨env, ah, η, en, pk, h⟩ =>
  ⟨env, ah, η, en, pk, h.bind.imp0 fun d η1 H1 ah1 m1 p1 q1 => fun v rvv =>
    ⟨env, ah1, η1, en.mv m1, p1, q1.bind.imp0 fun x η2 H2 ah2 m2 p2 q2 => fun w rw' =>
      ⟨env, ah2, η2, (en.mv m1).mv m2, p2, q2.bind.imp0 fun y η3 H3 ah3 m3 p3 q3 => fun u ru => by
        split at q3
        · rename_i ah4 e4
          unfold putN at e4
          split at e4
          · rename_i n
            split at e4
            · rename_i ks ds e1
              split at e4
              · rename_i k ek
                split at e4
                · rename_i hc
                  cases e4
                  obtain ⟨n', a, L, en', rfl, hn, e1', h1, h2, h3, h4⟩ := dxD_rel p3 (rw'.mv m3) (show dxD ah3 (.ref n) = some (ks, ds) by unfold dxD; simp only [e1])
                  cases en'
                  obtain ⟨b, rfl, kb, kd, kk⟩ := keyN_at ru ek
                  have hl : L.length < sizeLine := by have := congrArg List.length h2; rw [List.length_map, List.length_map] at this; rw [this]; exact hc
                  have m4 : Mv η3 H3 η3 (upd H3 a (DTx X.w a (stL L k b v))) := .upd (List.mem_of_getElem? hn) h1 dx_nt dx_nf
                  have rv := ((rvv.mv m2).mv m3).mv m4
                  obtain ⟨z1, z2, z3⟩ := stN_rel h2 (h3.mv m4) (h4.mv m4) (ru.mv m4) kk rv
                  exact ⟨a, b, L, k, rfl, rfl, h1, keys_of h2 h3, kb, kd, hl, q3 η3 _ m4 (p3.put hn h1 dx_nt dx_nf ⟨stL L k b v, upd_same, z1, z2, z3⟩) S ((((en.mv m1).mv m2).mv m3).mv m4)⟩
                · cases e4
              · cases e4
            · cases e4
          · cases e4
        · exact q3.elim⟩⟩⟩
end
end DL
namespace DL
open PySem PySem.Spec PyProof.Rows L2
def compD (g : D → AE → Option AE) (t : FT) (fk fv : FE) (env : AE) : List D → List Key × List D → AH → Res (List Key × List D)
  | [], acc, ah => .ok acc ah
  | d :: ds, acc, ah => match g d env with
    | none => .bad
    | some env1 => (t env1 ah).nox.bind fun b ah1 => if b = true then (fk env1 ah1).nox.bind fun k ah2 => (fv env1 ah2).nox.bind fun x ah3 => (match keyD k with
      | some q => if acc.1.length < sizeLine then compD g t fk fv env ds (ptD acc.1 acc.2 q x) ah3 else .bad
      | none => .bad) else compD g t fk fv env ds acc ah1
def iDc (fi : FI) (g : D → AE → Option AE) (t : FT) (fk fv : FE) (vs : List Nat) : FE := fun env ah => (fi env ah).bind fun ds ah1 => (compD g t fk fv (wipeA env vs) ds ([], []) ah1).bind fun a ah2 => .ok (.dk a.1 a.2) ah2
section
variable {X : Cx} {W : XW} {kx vx tg iter : Expr} {ifs : List Expr} {scope : Scope} {own : List (Str × Nat)} {pos : Pos} {fi : FI} {q : Pt} {ft : FT} {fk fv : FE}
theorem dc_loop {β : Type} {G : KW} {vs : List Nat} {S : L2.St} {H : Hp} {R : VK} {k : List Key × List D → AH → Res β} {Q : β → List Addr → Hp → AH → Prop} {env : AE} {ah : AH} {η : List Addr}
    (en : EnvOk G η H env S) (pk : HpOk G η H ah) (hq : ∀ i ∈ q.ix, i ∈ vs) (h : Post G W η H ((fi env ah).bind fun ds ah1 => (compD (ptB q) ft fk fv (wipeA env vs) ds ([], []) ah1).bind k) Q)
    (fin : ∀ (Dd : Addr) (η1 η' : List Addr) (H1 H' : Hp) (acc : List (Key × V)) (a : List Key × List D) (ah' : AH), Mv η H η1 H1 → H1 Dd = none → H' Dd = some (.dK acc) → Dd ∉ η' → acc.map (·.1) = a.1 → RelAll G η' H' a.2 (acc.map (·.2)) → Mv η1 H1 η' H' → HpOk G η' H' ah' → Post G W η1 H1 (k a ah') Q → R (.ref Dd) H') :
    tDc (IJ G W fi) (GJ G q.ix (ptB q)) (TJ G noW ft) (SJ G noW fk) (SJ G noW fv) vs S H R := by
  refine ⟨env, ah, η, en, pk, h.bind.imp0 fun ds η1 H1 ah1 m1 p1 q1 => fun J hJ => ?_⟩
  intro Dd hD
  have hD0 := same_new (o := .dK []) hD
  have en0 := (en.mv m1).wipe vs
  refine ⟨fun i m H' => m = ds.length - i ∧ i ≤ ds.length ∧ ∃ acc a ah η', H' Dd = some (.dK acc) ∧ Dd ∉ η' ∧ acc.map (·.1) = a.1 ∧ RelAll G η' H' a.2 (acc.map (·.2)) ∧ HpOk G η' H' ah ∧ Mv η1 H1 η' H' ∧ Post G W η1 H1 ((compD (ptB q) ft fk fv (wipeA env vs) (ds.drop i) a ah).bind k) Q,
    ⟨ds.length, by simp, Nat.zero_le _, [], ([], []), ah1, η1, upd_same, p1.fresh hD, rfl, .nil, p1.same hD0, .same hD0, q1⟩, ?_⟩
  rintro i m H2 ⟨rfl, hi, acc, a, ah2, η2, hD2, nD, ka, r2, p2, m2, q2⟩
  by_cases hlt : i < ds.length
  · have hd : ds[i]? = some ds[i] := by simp [hlt]
    obtain ⟨hgo, hy⟩ := hJ.go i _ hd H2 m2.ext
    refine .inr ⟨hgo, fun H' => i + 1 ≤ ds.length ∧ ∃ acc a ah η', H' Dd = some (.dK acc) ∧ Dd ∉ η' ∧ acc.map (·.1) = a.1 ∧ RelAll G η' H' a.2 (acc.map (·.2)) ∧ HpOk G η' H' ah ∧ Mv η1 H1 η' H' ∧ Post G W η1 H1 ((compD (ptB q) ft fk fv (wipeA env vs) (ds.drop (i + 1)) a ah).bind k) Q,
      fun H' k => ⟨ds.length - (i + 1), by omega, rfl, k⟩, fun x H3 y => ?_⟩
    obtain ⟨sm, rx⟩ := hy x H3 y
    rw [List.drop_eq_getElem_cons hlt] at q2
    simp only [compD] at q2
    split at q2
    · exact q2.elim
    · rename_i env3 e3
      have m3 : Mv η2 H2 η2 H3 := .same sm
      have m13 := m2.trans m3
      refine ⟨wipeA env vs, η2, ds[i], env3, en0.mv m13, rx.ext m2.pre (Ext.refl _), e3, fun S3 en3 kz => ⟨?_, ?_⟩⟩
      · exact wipe_kz (kz.mono hq)
      · have assoc : ∀ {α β γ : Type} (r : Res α) (g1 : α → AH → Res β) (g2 : β → AH → Res γ), (r.bind g1).bind g2 = r.bind fun a h => (g1 a h).bind g2 := fun r _ _ => by cases r <;> rfl
        rw [assoc] at q2
        have q3 := Post.bindB q2 m13
        refine ⟨env3, ah2, η2, en3, p2.same sm, (Post.nox q3).imp0 fun b η4 H4 ah4 m4 p4 q4 => ?_⟩
        have m14 := m13.trans m4
        have hD4 : H4 Dd = some (.dK acc) := m4.frm _ _ (m3.frm _ _ hD2 nD) nD
        have nD4 : Dd ∉ η4 := fun z => (m4.new _ z).elim nD fun w => by rw [m3.frm _ _ hD2 nD] at w; cases w
        cases b with
        | true =>
          simp only [if_true] at q4 ⊢
          rw [assoc] at q4
          have q5 := Post.bindB q4 m14
          refine ⟨env3, ah4, η4, en3.mv m4, p4, (Post.nox q5).imp0 fun z η5 H5 ah5 m5 p5 q6 => fun w rw' => ?_⟩
          have hD5 : H5 Dd = some (.dK acc) := m5.frm _ _ hD4 nD4
          have nD5 : Dd ∉ η5 := fun z => (m5.new _ z).elim nD4 fun w => by rw [hD4] at w; cases w
          have m15 := m14.trans m5
          rw [assoc] at q6
          have q7 := Post.bindB q6 m15
          refine ⟨env3, ah5, η5, (en3.mv m4).mv m5, p5, (Post.nox q7).imp0 fun z2 η6 H6 ah6 m6 p6 q8 => fun w2 rw2 => ?_⟩
          have hD6 : H6 Dd = some (.dK acc) := m6.frm _ _ hD5 nD5
          have nD6 : Dd ∉ η6 := fun z => (m6.new _ z).elim nD5 fun w => by rw [hD5] at w; cases w
          have r6 : RelAll G η6 H6 a.2 (acc.map (·.2)) := (r2.mv m3).mv (m4.trans (m5.trans m6))
          have lz : acc.length = a.1.length := by rw [← ka, List.length_map]
          split at q8
          · rename_i qk ek
            split at q8
            · rename_i hz
              have E : Ext H6 (upd H6 Dd (.dK (putK acc qk w2))) := Ext.upd hD6 (fun _ z => nomatch z) (fun _ _ z => nomatch z)
              obtain ⟨z3, z4⟩ := pt_rel (q := qk) rw2 ka r6
              exact ⟨acc, qk, keyD_rel rw' ek, hD6, by omega, by omega, putK acc qk w2, ptD a.1 a.2 qk z2, ah6, η6, upd_same, nD6, z3, z4.ext (List.prefix_refl _) E, p6.side nD6 hD6 (fun _ z => nomatch z) (fun _ _ z => nomatch z), (m15.trans m6).side hD hD6, q8⟩
            · exact q8.elim
          · exact q8.elim
        | false =>
          rw [if_neg Bool.false_ne_true] at q4
          dsimp only
          rw [if_neg Bool.false_ne_true]
          exact ⟨by omega, acc, a, ah4, η4, hD4, nD4, ka, r2.mv (m3.trans m4), p4, m14, q4⟩
  · have hi2 : ds.length ≤ i := by omega
    rw [List.drop_of_length_le hi2] at q2
    exact .inl ⟨hJ.stop i hi2 H2 m2.ext, fin Dd η1 η2 H1 H2 acc a ah2 m1 hD hD2 nD ka r2 m2 p2 q2⟩
theorem dc_fz {G : KW} {vs : List Nat} {S : L2.St} {H : Hp} {Q : VK} (hq : ∀ i ∈ q.ix, i ∈ vs) (h : SJ G W (iDc fi (ptB q) ft fk fv vs) S H Q) : tDc (IJ G W fi) (GJ G q.ix (ptB q)) (TJ G noW ft) (SJ G noW fk) (SJ G noW fv) vs S H (QF Q) := by
  obtain ⟨env, ah, η, en, pk, h⟩ := h
  refine dc_loop en pk hq h fun Dd η1 η' H1 H' acc a ah' m hD hD' nD ka r mv p k => ?_
  refine .inr ⟨Dd, .dK acc, rfl, hD', trivial, fun od => ?_⟩
  have E : Ext H' (upd H' Dd (.frz od (.dK acc))) := Ext.upd hD' (fun _ z => nomatch z) (fun _ _ z => nomatch z)
  exact k η' _ (mv.side hD hD') (p.side nD hD' (fun _ z => nomatch z) (fun _ _ z => nomatch z)) _ (.dk (o := od) upd_same ka (r.ext (List.prefix_refl _) E))
theorem j_dc (hc : X.calm = true) (hN : X.N.Nodup) (hi : PI X tg iter (IX X W fi)) (ok : BlkOk X.N X.env.scope scope own) (hq : ∀ i ∈ q.ix, i ∈ own.map (·.2))
    (hg : ∀ (s : Shared) (H : Hp) (C : Addr) (cl : List (Str × Addr)) (fp : List Addr), PG (X.blk s H scope (compEnvC scope cl C X.env) fp) tg (GP X q)) (ht : ∀ (s : Shared) (H : Hp) (C : Addr) (cl : List (Str × Addr)) (fp : List Addr), PTs (X.blk s H scope (compEnvC scope cl C X.env) fp) ifs (TX X noW ft))
    (hk : ∀ (s : Shared) (H : Hp) (C : Addr) (cl : List (Str × Addr)) (fp : List Addr), PE (X.blk s H scope (compEnvC scope cl C X.env) fp) kx (SX X noW fk))
    (he : ∀ (s : Shared) (H : Hp) (C : Addr) (cl : List (Str × Addr)) (fp : List Addr), PE (X.blk s H scope (compEnvC scope cl C X.env) fp) vx (SX X noW fv)) (hs : ∀ x, foldedSetIterable iter X.env x = pure x := by intro _; rfl) :
    PE X (.DictComp kx vx [⟨tg, iter, ifs, 0⟩] scope pos) (SX X W (iDc fi (ptB q) ft fk fv (own.map (·.2)))) := PE.imp (pe_fz (pe_dc hc hN hi ok hg ht hk he hs)) fun S H Q h => dc_fz hq h
end
end DL
namespace DL
open PySem PySem.Spec PyProof.Rows L2
section
variable {X : Cx}
theorem dx_dictSet {pins : List (Addr × Obj)} {σ : L2.St} {H : Hp} {s : Shared} {E : Value → Shared → Prop} {a b : Addr} {L : LX} {k : NestedKey} {v : V} {r : Value} {Q : Unit → Shared → Prop} (hu : X.A.units + 9 < cLine) (I : Inv X pins σ H s) (e : H a = some (DTx X.w a L)) (hk : KeysAt (gX X) H L) (eb : KeyAt (gX X) H b k) (kd : k.depth ≤ 8) (hl : L.length < sizeLine)
    (rv : RelV v r) (h : ∀ s', Inv X pins σ (upd H a (DTx X.w a (stL L k b v))) s' → Q () s') : wpAny (model X.prog X.w) X.A (dictSet a (.ref b) r) Q E s := by
  obtain ⟨z, hd, dp, xs, rel, dd⟩ := dx_of I e hk
  have hz : xs.length ≤ sizeLine := by rw [← Paired.length rel]; exact z
  refine wpAny_dictSet_heap (hsz := hz) (show X.A.units + 8 < cLine by omega) (keyAt_is I eb kd) dd fun h' dd' hs => h _ ?_
  obtain ⟨o, _, _, h1, _⟩ := id dd'
  exact d_write I (by rw [e]; exact True.intro) hs ⟨o, h1⟩ (dtx_new (dx_put hd dp kd hl rel rv dd'))
def tDcN (G : KW) (wi : TI) (g : TG) (tt : TT) (tk tv : TE) (vs : List Nat) : TE := fun σ H Q => wi σ H fun J H1 => ∀ D, H1 D = none → ∃ Wl : Nat → Nat → Hp → Prop, (∃ m, Wl 0 m (upd H1 D (DTx G.w D []))) ∧ ∀ i m H, Wl i m H →
  (J.stop i H ∧ Q (.ref D) H) ∨ (J.go i H ∧ ∃ Nx : Hp → Prop, (∀ H', Nx H' → ∃ m', m' < m ∧ Wl (i + 1) m' H') ∧ ∀ x H', J.yld i H x H' → g x (wipe σ vs) H' fun σ2 H2 => wipe σ2 vs = wipe σ vs ∧ tt σ2 H2 fun b H3 =>
    if b = true then tk σ2 H3 fun y H4 => tv σ2 H4 fun z H5 => ∃ L k c, y = .ref c ∧ H5 D = some (DTx G.w D L) ∧ KeysAt G H5 L ∧ KeyAt G H5 c k ∧ k.depth ≤ 8 ∧ L.length < sizeLine ∧ Nx (upd H5 D (DTx G.w D (stL L k c z))) else Nx H3)
variable {kx vx tg iter : Expr} {ifs : List Expr} {scope : Scope} {own : List (Str × Nat)} {pos : Pos} {wi : TI} {g : TG} {tt : TT} {tk tv : TE}
theorem dcN_core {pins : List (Addr × Obj)} {s : Shared} {σ : L2.St} {H : Hp} {Q : VK} {pos' : Pos} {use : Option (Value → Sem Unit)} {Qf : Value → Shared → Prop} (I : Inv X pins σ H s) (hu : X.A.units + 9 < cLine) (hc : X.calm = true) (hN : X.N.Nodup) (hi : PI X tg iter wi) (ok : BlkOk X.N X.env.scope scope own)
    (hg : ∀ (s : Shared) (H : Hp) (C : Addr) (cl : List (Str × Addr)) (fp : List Addr), PG (X.blk s H scope (compEnvC scope cl C X.env) fp) tg g) (ht : ∀ (s : Shared) (H : Hp) (C : Addr) (cl : List (Str × Addr)) (fp : List Addr), PTs (X.blk s H scope (compEnvC scope cl C X.env) fp) ifs tt)
    (hk : ∀ (s : Shared) (H : Hp) (C : Addr) (cl : List (Str × Addr)) (fp : List Addr), PE (X.blk s H scope (compEnvC scope cl C X.env) fp) kx tk)
    (he : ∀ (s : Shared) (H : Hp) (C : Addr) (cl : List (Str × Addr)) (fp : List Addr), PE (X.blk s H scope (compEnvC scope cl C X.env) fp) vx tv) (hs : ∀ x, foldedSetIterable iter X.env x = pure x) (h : tDcN (gX X) wi g tt tk tv (own.map (·.2)) σ H Q)
    (hRR : ∀ D C s' m H', Inv X pins σ H' s' → Q (.ref D) H' → s'.heap.Ns C m → FpOk X pins H' C → compPost (model X.prog X.w) X.A X.xe use Qf (.ref D) C (.ok .next) s') :
    wpAny (model X.prog X.w) X.A (comprehension (.DictComp kx vx [⟨tg, iter, ifs, 0⟩] scope pos) scope X.env pos' newDict false (eval iter X.env) use) Qf X.xe s := by
  have clo : closureFor scope X.env = pure (cloFrom X.env.cells scope.names []) := closure_ok fun y hy e => (ok.free y hy e).elim (fun k => I.ok.has _ (.inl k)) fun k => I.ok.has _ (.inr k)
  refine wpAny_comprehension_free (use := use) rfl hs clo ok.kind (fun y hy e => by rw [ok.uniq y hy, e]) (thn (hi.run pins s σ H _ I h) fun xv s1 hx => thn hx fun itv s2 ⟨it, fp, tn, J, H2, e, I2, T, st2, f2, q⟩ => ?_)
  subst e
  refine wpAny_newObj_type (newEnv_comp ?_)
  obtain ⟨D, hD⟩ : ∃ D, D = s2.heap.objs.size := ⟨_, rfl⟩
  rw [← hD]
  obtain ⟨Wl, ⟨m0, w0⟩, turn⟩ := q D (I2.hok.fresh (Nat.le_of_eq hD.symm))
  obtain ⟨h3, eh3⟩ : ∃ h3, h3 = s2.heap.push { cls := .type "dict", data := .dict #[] } := ⟨_, rfl⟩
  have up : ∀ b o, s2.heap.get? b = some o → h3.get? b = some o := fun b o e => by rw [eh3]; exact Heap.get?_push_of_some _ e
  have I3 : Inv X pins σ (upd H2 D (DTx X.w D [])) { s2 with heap := h3 } :=
    I2.laid (t' := s2.toks) up (Nat.le_of_eq hD.symm) (by rw [eh3, hD]; exact dx_empty s2.heap I2.big)
  have f3 : ∀ b ∈ fp, FpOk X pins (upd H2 D (DTx X.w D [])) b ∧ b < h3.objs.size := fun b hb => by
    obtain ⟨o, e, _⟩ := T.obj _ _ st2 b hb
    have lt := Heap.lt_size e
    exact ⟨⟨by rw [upd_ne (by rw [hD]; exact Nat.ne_of_lt lt)]; exact (f2 b hb).1, (f2 b hb).2⟩, by show b < h3.objs.size; rw [eh3, Heap.size_push]; exact Nat.lt_succ_of_lt lt⟩
  have I4 := block_start I3 ok hN f3
  have hg4 := fun cl C => hg { s2 with heap := h3 } (upd H2 D (DTx X.w D [])) C cl fp
  have ht4 := fun cl C => ht { s2 with heap := h3 } (upd H2 D (DTx X.w D [])) C cl fp
  have hk4 := fun cl C => hk { s2 with heap := h3 } (upd H2 D (DTx X.w D [])) C cl fp
  have he4 := fun cl C => he { s2 with heap := h3 } (upd H2 D (DTx X.w D [])) C cl fp
  have n3 : ∀ b ∈ fp, upd H2 D (DTx X.w D []) b = none := fun b hb => (f3 b hb).1.1
  have st4 : tn 0 (pushCells (h3.push { cls := .type "dict", data := .dict #[] }) scope.names) := T.keep _ _ _ st2 fun b _ o e => pushCells_keeps _ _ _ _ (Heap.get?_push_of_some _ (up b o e))
  generalize hce : compEnvC scope (cellsFrom (h3.objs.size + 1) scope.names (cloFrom X.env.cells scope.names [])) h3.objs.size X.env = ce at I4
  have cL : ce.locals = h3.objs.size := by rw [← hce]; rfl
  have gB := hg4 (cellsFrom (h3.objs.size + 1) scope.names (cloFrom X.env.cells scope.names [])) h3.objs.size
  have tB := ht4 (cellsFrom (h3.objs.size + 1) scope.names (cloFrom X.env.cells scope.names [])) h3.objs.size
  have kB := hk4 (cellsFrom (h3.objs.size + 1) scope.names (cloFrom X.env.cells scope.names [])) h3.objs.size
  have eB := he4 (cellsFrom (h3.objs.size + 1) scope.names (cloFrom X.env.cells scope.names [])) h3.objs.size
  rw [hce] at gB tB kB eB
  show codeAny _ _ (.compStart (.DictComp kx vx [⟨tg, iter, ifs, 0⟩] scope pos) 0 (.ref it) (.ref D) (compEnvC scope (cellsFrom ((s2.heap.push { cls := .type "dict", data := .dict #[] }).objs.size + 1) scope.names (cloFrom X.env.cells scope.names [])) (s2.heap.push { cls := .type "dict", data := .dict #[] }).objs.size X.env)) (compPost (model X.prog X.w) X.A X.xe use Qf (.ref D) (s2.heap.push { cls := .type "dict", data := .dict #[] }).objs.size) { s2 with heap := pushCells ((s2.heap.push { cls := .type "dict", data := .dict #[] }).push { cls := .type "dict", data := .dict #[] }) scope.names }
  rw [← eh3, hce]
  generalize hB : X.blk { s2 with heap := h3 } (upd H2 D (DTx X.w D [])) scope ce fp = B at I4 gB tB kB eB
  have loop : codeAny (model X.prog X.w) X.A (.compLoop (.DictComp kx vx [⟨tg, iter, ifs, 0⟩] scope pos) 0 (.ref it) (.ref D) ce) (compPost (model X.prog X.w) X.A X.xe use Qf (.ref D) h3.objs.size) { s2 with heap := pushCells (h3.push { cls := .type "dict", data := .dict #[] }) scope.names } := by
    refine compLoop_anyD (fun n s' => ∃ i H', Inv B [] (wipe σ (own.map (·.2))) H' s' ∧ tn i s'.heap ∧ (∀ b ∈ fp, H' b = none) ∧ Wl i n H') ?_ m0 ⟨0, _, I4, st4, n3, w0⟩
    rintro n s5 ⟨i, H5, I5, st5, n5, w5⟩
    have ok5 : ∀ {σ' : L2.St} {H' : Hp} {s' : Shared}, Inv B [] σ' H' s' → (∀ b ∈ fp, H' b = none) → ∀ b ∈ fp, FpOk B [] H' b := by
      subst hB
      exact fun I' hn b hb => ⟨hn b hb, (I'.ok.exf b hb).1, I'.ok.exfs b hb, .inl hb, fun x c e => (I'.ok.exf b hb).2 x c e, fun p hp => nomatch hp⟩
    subst hB
    rcases turn i n H5 w5 with ⟨stop, qD⟩ | ⟨go, Nx, hNx, step⟩
    · refine thnF (T.done (X.blk { s2 with heap := h3 } (upd H2 D (DTx X.w D [])) scope ce fp) rfl rfl rfl hc i [] s5 _ H5 (fun _ _ => False) I5 (ok5 I5 n5) st5 stop) fun r s6 ⟨hr, I6⟩ => ?_
      subst hr
      have I7 : Inv X pins σ H5 s6 := I3.call' (ch := fp) I6.os I6.base I6.hok I6.bare fun b hb => ⟨(f3 b hb).1.2.2.2.1, (f3 b hb).1.2.1, (f3 b hb).1.2.2.2.2.1, (f3 b hb).1.2.2.2.2.2⟩
      have free : H5 h3.objs.size = none := by rw [← cL]; exact I6.free
      obtain ⟨m, ns, _⟩ := I6.loc
      have ns2 : s6.heap.Ns h3.objs.size m := by rw [← cL]; exact ns
      exact hRR D h3.objs.size s6 m H5 I7 qD ns2 (I3.fpOk (b := h3.objs.size) (Nat.le_refl _) free)
    · refine thnF (T.item (X.blk { s2 with heap := h3 } (upd H2 D (DTx X.w D [])) scope ce fp) rfl rfl rfl hc i [] s5 _ H5 (fun _ _ => False) I5 (ok5 I5 n5) st5 go) fun r s6 ⟨u, hr, h6⟩ => ?_
      subst hr
      refine thnF h6 fun _ s7 ⟨x, H7, I7, r7, y7, st7, n7⟩ => ?_
      refine thnF (gB.run _ s7 _ H7 x u _ (I7.pinned (ok5 I7 n7) (T.obj _ _ st7)) r7 (step x H7 y7)) fun _ s8 ⟨σ8, H8, I8, hw8, q8⟩ => ?_
      have close : ∀ {s' : Shared} {H' : Hp}, Inv (X.blk { s2 with heap := h3 } (upd H2 D (DTx X.w D [])) scope ce fp) ([] ++ pinsAt fp s7.heap) σ8 H' s' → Nx H' → ∃ m, m < n ∧ ∃ i H', Inv (X.blk { s2 with heap := h3 } (upd H2 D (DTx X.w D [])) scope ce fp) [] (wipe σ (own.map (·.2))) H' s' ∧ tn i s'.heap ∧ (∀ b ∈ fp, H' b = none) ∧ Wl i m H' := fun {s' H'} J' nx => by
        obtain ⟨m', hm, wl⟩ := hNx H' nx
        obtain ⟨z1, z2, z3⟩ := turn_end T st7 hw8 J'
        exact ⟨m', hm, i + 1, H', z1, z2, z3, wl⟩
      refine thnF (tB.run _ s8 σ8 H8 _ I8 q8) fun b s9 ⟨H9, I9, q9⟩ => ?_
      cases b with
      | false =>
        simp only [Bool.false_eq_true, if_false] at q9 ⊢
        exact close I9 q9
      | true =>
        simp only [if_true] at q9 ⊢
        refine thnF (kB.run _ s9 σ8 H9 _ I9 q9) fun z s10 ⟨yk, H10, I10, r10, q10⟩ => ?_
        refine thnF (eB.run _ s10 σ8 H10 _ I10 q10) fun z2 s11 ⟨yv, H11, I11, r11, L, k, c, ek, hD11, hK, hk11, kd, hl, nx⟩ => ?_
        subst ek
        cases r10
        exact dx_dictSet (X := X.blk { s2 with heap := h3 } (upd H2 D (DTx X.w D [])) scope ce fp) hu I11 hD11 hK hk11 kd hl r11 fun s12 I12 => close I12 nx
  exact codeAny_compStart_dict loop (T.self X.A 0 _ _ _ st4 loop)
theorem pe_dcN (hu : X.A.units + 9 < cLine) (hc : X.calm = true) (hN : X.N.Nodup) (hi : PI X tg iter wi) (ok : BlkOk X.N X.env.scope scope own)
    (hg : ∀ (s : Shared) (H : Hp) (C : Addr) (cl : List (Str × Addr)) (fp : List Addr), PG (X.blk s H scope (compEnvC scope cl C X.env) fp) tg g) (ht : ∀ (s : Shared) (H : Hp) (C : Addr) (cl : List (Str × Addr)) (fp : List Addr), PTs (X.blk s H scope (compEnvC scope cl C X.env) fp) ifs tt)
    (hk : ∀ (s : Shared) (H : Hp) (C : Addr) (cl : List (Str × Addr)) (fp : List Addr), PE (X.blk s H scope (compEnvC scope cl C X.env) fp) kx tk)
    (he : ∀ (s : Shared) (H : Hp) (C : Addr) (cl : List (Str × Addr)) (fp : List Addr), PE (X.blk s H scope (compEnvC scope cl C X.env) fp) vx tv) (hs : ∀ x, foldedSetIterable iter X.env x = pure x := by intro _; rfl) :
    PE X (.DictComp kx vx [⟨tg, iter, ifs, 0⟩] scope pos) (tDcN (gX X) wi g tt tk tv (own.map (·.2))) := ⟨fun pins s σ H Q I h => by
  rw [arm_eval_DictComp]
  refine dcN_core I hu hc hN hi ok hg ht hk he hs h fun D C s' m H' I' q hn f => ⟨m, hn, fun h'' sb => ?_⟩
  obtain ⟨f0, f1, f2, f3, f4, f5⟩ := f
  exact ⟨.ref D, H', I'.turned (t' := s'.toks) (fun b o hb e => (sb.2 b hb).trans e) f0 f1 f3 f4 f5, rfl, q⟩⟩
theorem sw_dict {gs : List Comprehension} {py : Pos} {y : Str} {l : Nat} {env : Env} (hk : env.scope.kind = .function) (hy : env.scope.names.lookup y = some .local) (hl : (py.line == pos.line) = true)
    (ha : (scope.names.any fun (n, k) => n == y && (k == .local || k == .cell)) = false) : swapsWith (.DictComp kx vx gs scope pos) (some (.Name y py)) l env = pure true := by
  have ky : env.kindOf y = some .local := hy
  have hb : env.blockKind = .function := by unfold Env.blockKind; rw [hk]; rfl
  unfold swapsWith
  simp only [hb, ky, ha, Expr.pos, hl]
  rfl
theorem ps_setDcN {i : Nat} {y : Str} {py spos : Pos} (hy : X.N[i]? = some y) (hyl : X.env.scope.names.lookup y = some .local) (hsw : swapsWith (.DictComp kx vx [⟨tg, iter, ifs, 0⟩] scope pos) (some (.Name y py)) spos.line X.env = pure true) (hu : X.A.units + 9 < cLine) (hc : X.calm = true) (hN : X.N.Nodup) (hi : PI X tg iter wi) (ok : BlkOk X.N X.env.scope scope own)
    (hg : ∀ (s : Shared) (H : Hp) (C : Addr) (cl : List (Str × Addr)) (fp : List Addr), PG (X.blk s H scope (compEnvC scope cl C X.env) fp) tg g) (ht : ∀ (s : Shared) (H : Hp) (C : Addr) (cl : List (Str × Addr)) (fp : List Addr), PTs (X.blk s H scope (compEnvC scope cl C X.env) fp) ifs tt)
    (hk : ∀ (s : Shared) (H : Hp) (C : Addr) (cl : List (Str × Addr)) (fp : List Addr), PE (X.blk s H scope (compEnvC scope cl C X.env) fp) kx tk)
    (he : ∀ (s : Shared) (H : Hp) (C : Addr) (cl : List (Str × Addr)) (fp : List Addr), PE (X.blk s H scope (compEnvC scope cl C X.env) fp) vx tv) (hs : ∀ x, foldedSetIterable iter X.env x = pure x := by intro _; rfl) :
    PS X (.Assign [.Name y py] (.DictComp kx vx [⟨tg, iter, ifs, 0⟩] scope pos) spos) (tAsg (tDcN (gX X) wi g tt tk tv (own.map (·.2))) (gName i)) := by
  refine ⟨fun pins s σ H D I h => ?_⟩
  rw [exec_Assign_Name_used _ _ _ _ hsw]
  refine wpAny_bind (wpAny_standAt (wpAny_bind ?_))
  show wpAny _ X.A (do let _ ← comprehension (.DictComp kx vx [⟨tg, iter, ifs, 0⟩] scope pos) scope X.env (firstIterPos [⟨tg, iter, ifs, 0⟩] pos) newDict false (eval iter X.env) (some (assign (.Name y py) X.env))) _ _ s
  have h : tDcN (gX X) wi g tt tk tv (own.map (·.2)) σ H (fun x H1 => gName i x σ H1 D.nx) := h
  refine wpAny_bind (thn (dcN_core (Qf := fun _ s' => SP X pins D .next s') I hu hc hN hi ok hg ht hk he hs h fun L C s' m H' I' q hn f => ?_) fun _ s' hq => wpAny_pure (wpAny_pure hq))
  show wpAny _ _ (assign (.Name y py) X.env (.ref L)) _ _ _
  obtain ⟨f0, f1, f2, f3, f4, f5⟩ := f
  refine wpAny_assign_Name (store_ok2 (v := V.ref L) I' hN hy (.inl hyl) rfl (fun s2 I2 ⟨a, sb, ha⟩ => ?_) (.inr hyl))
  have ne : C ≠ a := ha.elim (fun z => by rw [z]; exact f1) fun z e => f4 y a z e.symm
  exact ⟨m, hn.sameBut sb ne, fun h3 sb3 => ⟨_, H', I2.turned (t' := s2.toks) (fun b o hb e => (sb3.2 b hb).trans e) f0 f1 f3 f4 f5, q⟩⟩
end
def compN (g : D → AE → Option AE) (t : FT) (fk fv : FE) (env : AE) : List D → List D × List D → AH → Res (List D × List D)
  | [], acc, ah => .ok acc ah
  | d :: ds, acc, ah => match g d env with
    | none => .bad
    | some env1 => (t env1 ah).nox.bind fun b ah1 => if b = true then (fk env1 ah1).nox.bind fun k ah2 => (fv env1 ah2).nox.bind fun x ah3 => (match keyN k with
      | some q => if acc.1.length < sizeLine then compN g t fk fv env ds (stN acc.1 acc.2 k q x) ah3 else .bad
      | none => .bad) else compN g t fk fv env ds acc ah1
def dcK (a : List D × List D) (ah : AH) : Res D := .ok (.ref ah.length) (ah ++ [.dx a.1 a.2])
def iDcN (fi : FI) (g : D → AE → Option AE) (t : FT) (fk fv : FE) (vs : List Nat) : FE := fun env ah => (fi env ah).bind fun ds ah1 => (compN g t fk fv (wipeA env vs) ds ([], []) ah1).bind dcK
section
variable {X : Cx} {W : XW} {kx vx tg iter : Expr} {ifs : List Expr} {scope : Scope} {own : List (Str × Nat)} {pos : Pos} {fi : FI} {q : Pt} {ft : FT} {fk fv : FE}
theorem dcN_loop {β : Type} {G : KW} {vs : List Nat} {S : L2.St} {H : Hp} {R : VK} {k : List D × List D → AH → Res β} {Q : β → List Addr → Hp → AH → Prop} {env : AE} {ah : AH} {η : List Addr}
    (en : EnvOk G η H env S) (pk : HpOk G η H ah) (hq : ∀ i ∈ q.ix, i ∈ vs) (h : Post G W η H ((fi env ah).bind fun ds ah1 => (compN (ptB q) ft fk fv (wipeA env vs) ds ([], []) ah1).bind k) Q)
    (fin : ∀ (Dd : Addr) (η1 η' : List Addr) (H1 H' : Hp) (L : LX) (a : List D × List D) (ah' : AH), Mv η H η1 H1 → H1 Dd = none → H' Dd = some (DTx G.w Dd L) → Dd ∉ η' → (L.map fun p => some p.1) = a.1.map nkD → RelAll G η' H' a.1 (L.map fun p => V.ref p.2.1) → RelAll G η' H' a.2 (L.map (·.2.2)) → Mv η1 H1 η' H' → HpOk G η' H' ah' → Post G W η1 H1 (k a ah') Q → R (.ref Dd) H') :
    tDcN G (IJ G W fi) (GJ G q.ix (ptB q)) (TJ G noW ft) (SJ G noW fk) (SJ G noW fv) vs S H R := by
  refine ⟨env, ah, η, en, pk, Post.imp0 (Post.bind h) fun ds η1 H1 ah1 m1 p1 q1 => fun J hJ => ?_⟩
  intro Dd hD
  have hD0 := same_new (o := DTx G.w Dd []) hD
  have en0 := (en.mv m1).wipe vs
  refine ⟨fun i m H' => m = ds.length - i ∧ i ≤ ds.length ∧ ∃ (L : LX) (a : List D × List D) (ah : AH) (η' : List Addr), H' Dd = some (DTx G.w Dd L) ∧ Dd ∉ η' ∧ (L.map fun p => some p.1) = a.1.map nkD ∧ RelAll G η' H' a.1 (L.map fun p => V.ref p.2.1) ∧ RelAll G η' H' a.2 (L.map (·.2.2)) ∧ HpOk G η' H' ah ∧ Mv η1 H1 η' H' ∧ Post G W η1 H1 ((compN (ptB q) ft fk fv (wipeA env vs) (ds.drop i) a ah).bind k) Q,
    ⟨ds.length, by simp, Nat.zero_le _, [], ([], []), ah1, η1, upd_same, p1.fresh hD, rfl, .nil, .nil, p1.same hD0, .same hD0, q1⟩, ?_⟩
  rintro i m H2 ⟨rfl, hi, L, a, ah2, η2, hD2, nD, ka, rk, r2, p2, m2, q2⟩
  by_cases hlt : i < ds.length
  · have hd : ds[i]? = some ds[i] := by simp [hlt]
    obtain ⟨hgo, hy⟩ := hJ.go i _ hd H2 m2.ext
    refine .inr ⟨hgo, fun H' => i + 1 ≤ ds.length ∧ ∃ (L : LX) (a : List D × List D) (ah : AH) (η' : List Addr), H' Dd = some (DTx G.w Dd L) ∧ Dd ∉ η' ∧ (L.map fun p => some p.1) = a.1.map nkD ∧ RelAll G η' H' a.1 (L.map fun p => V.ref p.2.1) ∧ RelAll G η' H' a.2 (L.map (·.2.2)) ∧ HpOk G η' H' ah ∧ Mv η1 H1 η' H' ∧ Post G W η1 H1 ((compN (ptB q) ft fk fv (wipeA env vs) (ds.drop (i + 1)) a ah).bind k) Q,
      fun H' kk => ⟨ds.length - (i + 1), by omega, rfl, kk⟩, fun x H3 y => ?_⟩
    obtain ⟨sm, rx⟩ := hy x H3 y
    rw [List.drop_eq_getElem_cons hlt] at q2
    simp only [compN] at q2
    split at q2
    · exact q2.elim
    · rename_i env3 e3
      have m3 : Mv η2 H2 η2 H3 := .same sm
      have m13 := m2.trans m3
      refine ⟨wipeA env vs, η2, ds[i], env3, en0.mv m13, rx.ext m2.pre (Ext.refl _), e3, fun S3 en3 kz => ⟨?_, ?_⟩⟩
      · exact wipe_kz (kz.mono hq)
      · have assoc : ∀ {α β γ : Type} (r : Res α) (g1 : α → AH → Res β) (g2 : β → AH → Res γ), (r.bind g1).bind g2 = r.bind fun a h => (g1 a h).bind g2 := fun r _ _ => by cases r <;> rfl
        rw [assoc] at q2
        have q3 := Post.bindB q2 m13
        refine ⟨env3, ah2, η2, en3, p2.same sm, (Post.nox q3).imp0 fun b η4 H4 ah4 m4 p4 q4 => ?_⟩
        have m14 := m13.trans m4
        have hD4 : H4 Dd = some (DTx G.w Dd L) := m4.frm _ _ (m3.frm _ _ hD2 nD) nD
        have nD4 : Dd ∉ η4 := fun z => (m4.new _ z).elim nD fun w => by rw [m3.frm _ _ hD2 nD] at w; cases w
        cases b with
        | true =>
          simp only [if_true] at q4 ⊢
          rw [assoc] at q4
          have q5 := Post.bindB q4 m14
          refine ⟨env3, ah4, η4, en3.mv m4, p4, (Post.nox q5).imp0 fun z η5 H5 ah5 m5 p5 q6 => fun w rw' => ?_⟩
          have hD5 : H5 Dd = some (DTx G.w Dd L) := m5.frm _ _ hD4 nD4
          have nD5 : Dd ∉ η5 := fun z => (m5.new _ z).elim nD4 fun w => by rw [hD4] at w; cases w
          have m15 := m14.trans m5
          rw [assoc] at q6
          have q7 := Post.bindB q6 m15
          refine ⟨env3, ah5, η5, (en3.mv m4).mv m5, p5, (Post.nox q7).imp0 fun z2 η6 H6 ah6 m6 p6 q8 => fun w2 rw2 => ?_⟩
          have hD6 : H6 Dd = some (DTx G.w Dd L) := m6.frm _ _ hD5 nD5
          have nD6 : Dd ∉ η6 := fun z => (m6.new _ z).elim nD5 fun w => by rw [hD5] at w; cases w
          have m26 : Mv η2 H2 η6 H6 := m3.trans (m4.trans (m5.trans m6))
          have lz : L.length = a.1.length := by have := congrArg List.length ka; rwa [List.length_map, List.length_map] at this
          split at q8
          · rename_i qk ek
            split at q8
            · rename_i hz
              obtain ⟨c, rfl, kc, kd, kk⟩ := keyN_at (rw'.mv m6) ek
              have E : Ext H6 (upd H6 Dd (DTx G.w Dd (stL L qk c w2))) := Ext.upd hD6 dx_nt dx_nf
              obtain ⟨z1, z2, z3⟩ := stN_rel ka (rk.mv m26) (r2.mv m26) (rw'.mv m6) kk rw2
              exact ⟨L, qk, c, rfl, hD6, keys_of ka (rk.mv m26), kc, kd, by omega, by omega, _, _, ah6, η6, upd_same, nD6, z1, z2.ext (List.prefix_refl _) E, z3.ext (List.prefix_refl _) E, p6.side nD6 hD6 dx_nt dx_nf, (m15.trans m6).side hD hD6, q8⟩
            · exact q8.elim
          · exact q8.elim
        | false =>
          rw [if_neg Bool.false_ne_true] at q4
          dsimp only
          rw [if_neg Bool.false_ne_true]
          exact ⟨by omega, L, a, ah4, η4, hD4, nD4, ka, rk.mv (m3.trans m4), r2.mv (m3.trans m4), p4, m14, q4⟩
  · have hi2 : ds.length ≤ i := by omega
    rw [List.drop_of_length_le hi2] at q2
    exact .inl ⟨hJ.stop i hi2 H2 m2.ext, fin Dd η1 η2 H1 H2 L a ah2 m1 hD hD2 nD ka rk r2 m2 p2 q2⟩
theorem dcN_add {G : KW} {η1 η2 : List Addr} {H1 H2 : Hp} {Dd : Addr} {L : LX} {a : List D × List D} {ah2 : AH} (hD : H1 Dd = none) (hD2 : H2 Dd = some (DTx G.w Dd L)) (nD : Dd ∉ η2) (ka : (L.map fun p => some p.1) = a.1.map nkD) (rk : RelAll G η2 H2 a.1 (L.map fun p => V.ref p.2.1)) (r2 : RelAll G η2 H2 a.2 (L.map (·.2.2))) (m2 : Mv η1 H1 η2 H2) (p2 : HpOk G η2 H2 ah2) :
    Mv η1 H1 (η2 ++ [Dd]) H2 ∧ HpOk G (η2 ++ [Dd]) H2 (ah2 ++ [.dx a.1 a.2]) ∧ Rel G (η2 ++ [Dd]) H2 (.ref ah2.length) (.ref Dd) := by
  refine ⟨⟨m2.pre.trans (List.prefix_append _ _), m2.ext, fun a z => ?_, m2.frm, m2.live⟩, p2.add nD ⟨L, hD2, ka, rk.ext (List.prefix_append _ _) (Ext.refl _), r2.ext (List.prefix_append _ _) (Ext.refl _)⟩, .ref ?_⟩
  · rcases List.mem_append.mp z with z | z
    · exact m2.new a z
    · simp at z; subst z; exact .inr hD
  · rw [← p2.len, List.getElem?_append_right (Nat.le_refl _)]
    simp
theorem dcN_ok {G : KW} {vs : List Nat} {S : L2.St} {H : Hp} {Q : VK} (hq : ∀ i ∈ q.ix, i ∈ vs) (h : SJ G W (iDcN fi (ptB q) ft fk fv vs) S H Q) : tDcN G (IJ G W fi) (GJ G q.ix (ptB q)) (TJ G noW ft) (SJ G noW fk) (SJ G noW fv) vs S H Q := by
  obtain ⟨env, ah, η, en, pk, h⟩ := h
  refine dcN_loop en pk hq h fun Dd η1 η2 H1 H2 L a ah2 m1 hD hD2 nD ka rk r2 m2 p2 q2 => ?_
  obtain ⟨mm, pp, rr⟩ := dcN_add hD hD2 nD ka rk r2 m2 p2
  exact q2 (η2 ++ [Dd]) H2 mm pp _ rr
theorem j_dcN (hu : X.A.units + 9 < cLine) (hc : X.calm = true) (hN : X.N.Nodup) (hi : PI X tg iter (IX X W fi)) (ok : BlkOk X.N X.env.scope scope own) (hq : ∀ i ∈ q.ix, i ∈ own.map (·.2))
    (hg : ∀ (s : Shared) (H : Hp) (C : Addr) (cl : List (Str × Addr)) (fp : List Addr), PG (X.blk s H scope (compEnvC scope cl C X.env) fp) tg (GP X q)) (ht : ∀ (s : Shared) (H : Hp) (C : Addr) (cl : List (Str × Addr)) (fp : List Addr), PTs (X.blk s H scope (compEnvC scope cl C X.env) fp) ifs (TX X noW ft))
    (hk : ∀ (s : Shared) (H : Hp) (C : Addr) (cl : List (Str × Addr)) (fp : List Addr), PE (X.blk s H scope (compEnvC scope cl C X.env) fp) kx (SX X noW fk))
    (he : ∀ (s : Shared) (H : Hp) (C : Addr) (cl : List (Str × Addr)) (fp : List Addr), PE (X.blk s H scope (compEnvC scope cl C X.env) fp) vx (SX X noW fv)) (hs : ∀ x, foldedSetIterable iter X.env x = pure x := by intro _; rfl) :
    PE X (.DictComp kx vx [⟨tg, iter, ifs, 0⟩] scope pos) (SX X W (iDcN fi (ptB q) ft fk fv (own.map (·.2)))) := PE.imp (pe_dcN hu hc hN hi ok hg ht hk he hs) fun S H Q h => dcN_ok hq h
theorem s_setDcN (i : Nat) {y : Str} {py spos : Pos} (hu : X.A.units + 9 < cLine) (hc : X.calm = true) (hN : X.N.Nodup) (hi : PI X tg iter (IX X W fi)) (ok : BlkOk X.N X.env.scope scope own) (hq : ∀ i ∈ q.ix, i ∈ own.map (·.2))
    (hg : ∀ (s : Shared) (H : Hp) (C : Addr) (cl : List (Str × Addr)) (fp : List Addr), PG (X.blk s H scope (compEnvC scope cl C X.env) fp) tg (GP X q)) (ht : ∀ (s : Shared) (H : Hp) (C : Addr) (cl : List (Str × Addr)) (fp : List Addr), PTs (X.blk s H scope (compEnvC scope cl C X.env) fp) ifs (TX X noW ft))
    (hk : ∀ (s : Shared) (H : Hp) (C : Addr) (cl : List (Str × Addr)) (fp : List Addr), PE (X.blk s H scope (compEnvC scope cl C X.env) fp) kx (SX X noW fk))
    (he : ∀ (s : Shared) (H : Hp) (C : Addr) (cl : List (Str × Addr)) (fp : List Addr), PE (X.blk s H scope (compEnvC scope cl C X.env) fp) vx (SX X noW fv))
    (hy : X.N[i]? = some y := by rfl) (hyl : X.env.scope.names.lookup y = some .local := by rfl) (hsw : swapsWith (.DictComp kx vx [⟨tg, iter, ifs, 0⟩] scope pos) (some (.Name y py)) spos.line X.env = pure true := by exact sw_dict rfl rfl rfl (by decide +kernel)) (hs : ∀ x, foldedSetIterable iter X.env x = pure x := by intro _; rfl) :
    PS X (.Assign [.Name y py] (.DictComp kx vx [⟨tg, iter, ifs, 0⟩] scope pos) spos) (SSX X W (sAsg (ptB (.nm i)) (iDcN fi (ptB q) ft fk fv (own.map (·.2))))) := PS.imp (ps_setDcN hy hyl hsw hu hc hN hi ok hg ht hk he hs) fun Dn S H ⟨env, ah, η, en, pk, h⟩ => by
  show tDcN _ _ _ _ _ _ _ S H fun x H1 => Dn.nx (S.set i (some x)) H1
  have assoc : ∀ {α β γ : Type} (r : Res α) (g1 : α → AH → Res β) (g2 : β → AH → Res γ), (r.bind g1).bind g2 = r.bind fun a h => (g1 a h).bind g2 := fun r _ _ => by cases r <;> rfl
  have h2 : Post (gX X) W η H ((fi env ah).bind fun ds ah1 => (compN (ptB q) ft fk fv (wipeA env (own.map (·.2))) ds ([], []) ah1).bind fun a ah2 => (Res.ok (Fl.nx, env.set i (some (.ref ah2.length))) (ah2 ++ [.dx a.1 a.2]))) (QS (gX X) Dn) := by
    unfold sAsg iDcN at h
    simp only [assoc, ptB, Res.bind_ok, dcK] at h
    exact h
  refine dcN_loop (R := fun x H1 => Dn.nx (S.set i (some x)) H1) en pk hq h2 fun Dd η1 η2 H1 H2 L a ah2 m1 hD hD2 nD ka rk r2 m2 p2 q2 => ?_
  obtain ⟨mm, pp, rr⟩ := dcN_add hD hD2 nD ka rk r2 m2 p2
  exact q2 (η2 ++ [Dd]) H2 mm pp _ ((en.mv (m1.trans mm)).set i rr)
end
end DL
namespace DL
open PySem PySem.Spec PyProof.Rows L2
def Itz3 (K : PySem.W.Frag) (x : Str) (b c : Addr) (n : Nat) : It :=
  ⟨fun i H => ∃ (ys zs : List V) (y z : V), SqL K H b ys ∧ SqL K H c zs ∧ i < x.cps.size ∧ ys[i]? = some y ∧ zs[i]? = some z ∧ i < n,
    fun i H v H' => ∃ T ch y z, v = .ref T ∧ H T = none ∧ H' = upd H T (.tup [.str ⟨#[ch]⟩, y, z]) ∧ x.cps[i]? = some ch ∧ (∀ ys, SqL K H b ys → ys[i]? = some y) ∧ ∀ zs, SqL K H c zs → zs[i]? = some z,
    fun i H => ∃ ys zs : List V, SqL K H b ys ∧ SqL K H c zs ∧ n = min x.cps.size (min ys.length zs.length) ∧ n ≤ i⟩
/-- the six cells of a zip of three stand behind the lists -/
structure Six (z TI TO i1 i2 i3 b c : Addr) : Prop where
  nd : [z, TI, TO, i1, i2, i3].Nodup
  b : b ∉ [z, TI, TO, i1, i2, i3]
  c : c ∉ [z, TI, TO, i1, i2, i3]
theorem six_sep {z TI TO i1 i2 i3 b c : Addr} (D : Six z TI TO i1 i2 i3 b c) : ZipSep3 z TI TO i1 i2 i3 [i1] [i2, b] [i3, c] := by
  obtain ⟨nd, hb, hc⟩ := D
  simp only [List.nodup_cons, List.mem_cons, List.not_mem_nil, not_or, or_false, not_false_eq_true, List.nodup_nil, and_true] at nd hb hc
  obtain ⟨⟨z1, z2, z3, z4, z5⟩, ⟨t1, t2, t3, t4⟩, ⟨o1, o2, o3⟩, ⟨a1, a2⟩, a3⟩ := nd
  obtain ⟨b1, b2, b3, b4, b5, b6⟩ := hb
  obtain ⟨c1, c2, c3, c4, c5, c6⟩ := hc
  have n : ∀ {p q : Addr}, ¬ p = q → ¬ q = p := fun h e => h e.symm
  constructor <;> (try simp only [List.mem_cons, List.not_mem_nil, or_false, not_or, true_or]) <;> first | exact n z1 | exact n z2 | assumption | exact ⟨z4, n b1⟩ | exact ⟨z5, n c1⟩ | exact n ‹_› | (refine ⟨?_, ?_⟩ <;> first | assumption | exact n ‹_›)
theorem turn_zip3 {P : Program} {w : World} {K : PySem.W.Frag} {elts : List Expr} {kk : Nat} {tpos : Pos} {x : Str} {t : Tok} {n : Nat} {b c z TI TO i1 i2 i3 : Addr} (D : Six z TI TO i1 i2 i3 b c) :
    Turn P w K (.Tuple elts kk tpos) (Itz3 K x b c n) [z, TI, TO, i1, i2, i3] z (fun i h => IsZip h z TI TO .none ∧ IsTupOf3 h TI (.ref i1) (.ref i2) (.ref i3) ∧ (∃ p q r, IsTupOf3 h TO p q r) ∧ h.IsStrIter i1 (strIterType x) x t i ∧ h.IsListIter i2 b i ∧ h.IsListIter i3 c i ∧ i ≤ n) where
  mem := by simp
  obj := fun i h st d hd => by
    obtain ⟨hz, hTI, ⟨p, q, r, hTO⟩, ⟨o1, e1, _, d1⟩, ⟨o2, e2, _, d2⟩, ⟨o3, e3, _, d3⟩, _⟩ := st
    simp only [List.mem_cons, List.not_mem_nil, or_false] at hd
    rcases hd with rfl | rfl | rfl | rfl | rfl | rfl
    · exact ⟨_, hz, fun v q => nomatch q⟩
    · exact ⟨_, hTI, fun v q => nomatch q⟩
    · exact ⟨_, hTO, fun v q => nomatch q⟩
    · exact ⟨o1, e1, fun v q => by rw [d1] at q; cases q⟩
    · exact ⟨o2, e2, fun v q => by rw [d2] at q; cases q⟩
    · exact ⟨o3, e3, fun v q => by rw [d3] at q; cases q⟩
  keep := fun i h h' st k => by
    obtain ⟨hz, hTI, ⟨p, q, r, hTO⟩, ⟨o1, e1, s1⟩, h2, h3, hn⟩ := st
    exact ⟨k z (by simp) _ hz, k TI (by simp) _ hTI, ⟨p, q, r, k TO (by simp) _ hTO⟩, ⟨o1, k i1 (by simp) _ e1, s1⟩, h2.at fun o q => k i2 (by simp) o q, h3.at fun o q => k i3 (by simp) o q, hn⟩
  item := by
    intro X hP hw hK hc i pins s σ H E I hf st hg
    subst hP hw hK
    obtain ⟨hz, hTI, ⟨p0, q0, r0, hTO⟩, h1, h2, h3, hn⟩ := st
    obtain ⟨ys, zs, y, zz, hqy, hqz, hx, hy, hzz, hin⟩ := hg
    obtain ⟨its2, rv2, p2, _⟩ := I.list hqy
    obtain ⟨its3, rv3, p3, _⟩ := I.list hqz
    obtain ⟨u2, hu2, ru2⟩ := rv2.get hy
    obtain ⟨u3, hu3, ru3⟩ := rv3.get hzz
    have hzl : z < s.heap.objs.size := Heap.lt_size hz
    have hh : X.A.in1.handled = none := I.ok.hd hc
    have S := six_sep D
    have D1 := Draws.text (prog := X.prog) (w := X.w) (A := X.A.in1) hh i1 x t
    have D2 := Draws.list (prog := X.prog) (w := X.w) (A := X.A.in1) hh i2 b (fun e => D.b (by rw [e]; simp)) its2.toArray
    have D3 := Draws.list (prog := X.prog) (w := X.w) (A := X.A.in1) hh i3 c (fun e => D.c (by rw [e]; simp)) its3.toArray
    have lt2 : i < its2.toArray.size := by simpa using (List.getElem?_eq_some_iff.mp hu2).1
    have lt3 : i < its3.toArray.size := by simpa using (List.getElem?_eq_some_iff.mp hu3).1
    refine wpAny_pyNext_zipD3_item S D1 D2 D3 hz hTI hTO h1 ⟨h2, p2.isList⟩ ⟨h3, p3.isList⟩ hx lt2 lt3 fun v1 v2 v3 h' tk hP1 hP2 hP3 z' TO' h1' h2' h3' hT hsz hk => ?_
    obtain ⟨ch, tt, hch, rfl⟩ := hP1
    have e2 : v2 = u2 := by
      have h0 : its2.toArray[i]? = some u2 := by simpa using hu2
      rw [h0] at hP2; exact (Option.some.inj hP2).symm
    have e3 : v3 = u3 := by
      have h0 : its3.toArray[i]? = some u3 := by simpa using hu3
      rw [h0] at hP3; exact (Option.some.inj hP3).symm
    subst e2 e3
    refine ⟨_, rfl, wpAny_letOwnedTupleGo_zip (s := { s with heap := h', toks := tk }) z' fun h'' z'' sb => ?_⟩
    have hT2 : h''.get? s.heap.objs.size = some { cls := .type "tuple", data := .seq #[.str ⟨#[ch]⟩ tt, v2, v3] } := (sb.2 _ (Nat.ne_of_gt hzl)).trans hT
    have new : ObjOk X.prog X.w (upd H s.heap.objs.size (.tup [.str ⟨#[ch]⟩, y, zz])) h'' s.heap.objs.size (.tup [.str ⟨#[ch]⟩, y, zz]) :=
      ⟨by show 3 ≤ sizeLine; decide, [.str ⟨#[ch]⟩ tt, v2, v3], .cons ⟨tt, rfl⟩ (.cons ru2 (.cons ru3 .nil)), ⟨_, hT2, rfl, _, rfl⟩⟩
    have I1 : Inv X pins σ (upd H s.heap.objs.size (.tup [.str ⟨#[ch]⟩, y, zz])) { s with heap := h'', toks := tk } :=
      I.turnedNew (ch := [z, TI, TO, i1, i2, i3]) (fun c o hb q => (sb.2 c (fun q' => hb (by simp [q']))).trans (hk c o (fun q' => hb (by simp [q'])) (fun q' => hb (by simp [q'])) (fun q' => hb (by simp [q'])) (fun q' => hb (by simp [q'])) (fun q' => hb (by simp [q'])) q)) hf (Nat.le_refl _) new
    refine ⟨.ref s.heap.objs.size, _, I1, rfl, ⟨_, ch, y, zz, rfl, I.hok.fresh (Nat.le_refl _), rfl, hch, fun l hl => by rw [I.list_inj hl hqy]; exact hy, fun l hl => by rw [I.list_inj hl hqz]; exact hzz⟩, ⟨z'', ?_, ⟨.str ⟨#[ch]⟩ tt, v2, v3, ?_⟩, ?_, ?_, ?_, hin⟩, fun c hcm => ?_⟩
    · exact (sb.2 _ S.TIz).trans (hk _ _ S.TIz S.TITO S.TIi1 S.TIi2 S.TIi3 hTI)
    · exact (sb.2 _ S.TOz).trans TO'
    · obtain ⟨o, ho, r⟩ := h1'
      exact ⟨o, (sb.2 _ S.zi1.symm).trans ho, r⟩
    · exact h2'.1.at fun o q => (sb.2 _ S.zi2.symm).trans q
    · exact h3'.1.at fun o q => (sb.2 _ S.zi3.symm).trans q
    · have hlt : c < s.heap.objs.size := by
        obtain ⟨_, e1, _⟩ := h1
        obtain ⟨_, e2, _⟩ := h2
        obtain ⟨_, e3, _⟩ := h3
        simp only [List.mem_cons, List.not_mem_nil, or_false] at hcm
        rcases hcm with rfl | rfl | rfl | rfl | rfl | rfl
        · exact hzl
        · exact Heap.lt_size hTI
        · exact Heap.lt_size hTO
        · exact Heap.lt_size e1
        · exact Heap.lt_size e2
        · exact Heap.lt_size e3
      rw [upd_ne (Nat.ne_of_lt hlt)]
      exact (hf c hcm).1
  done := by
    intro X hP hw hK hc i pins s σ H E I hf st hg
    subst hP hw hK
    obtain ⟨hz, hTI, ⟨p0, q0, r0, hTO⟩, h1, h2, h3, hn⟩ := st
    obtain ⟨ys, zs, hqy, hqz, en, hend⟩ := hg
    obtain ⟨its2, rv2, p2, _⟩ := I.list hqy
    obtain ⟨its3, rv3, p3, _⟩ := I.list hqz
    have l2 := rv2.length
    have l3 := rv3.length
    have hh : X.A.in1.handled = none := I.ok.hd hc
    have D1 := Draws.text (prog := X.prog) (w := X.w) (A := X.A.in1) hh i1 x t
    have D2 := Draws.list (prog := X.prog) (w := X.w) (A := X.A.in1) hh i2 b (fun e => D.b (by rw [e]; simp)) its2.toArray
    have D3 := Draws.list (prog := X.prog) (w := X.w) (A := X.A.in1) hh i3 c (fun e => D.c (by rw [e]; simp)) its3.toArray
    have z2 : its2.toArray.size = ys.length := by simp; omega
    have z3 : its3.toArray.size = zs.length := by simp; omega
    exact wpAny_pyNext_zipD3_end (six_sep D) D1 D2 D3 hz hTI hTO h1 ⟨h2, p2.isList⟩ ⟨h3, p3.isList⟩ (by omega) (by omega) (by omega) (by omega) fun h' tk hk => ⟨rfl, I.turnedL (t' := tk) (ch := [z, TI, TO, i1, i2, i3]) (fun c o hb q =>
      hk c o (fun q' => hb (by simp [q'])) (fun q' => hb (by simp [q'])) (fun q' => hb (by simp [q'])) (fun q' => hb (by simp [q'])) (fun q' => hb (by simp [q'])) q) hf⟩
  self := fun A i s Q E st h => wpAny_pyIter_zip st.1 h
def iZip3T (K : PySem.W.Frag) (ta : TA) : TI := fun σ H R => ta σ H fun vs H1 => ∃ x b c ys zs, vs = [.str x, .ref b, .ref c] ∧ SqL K H1 b ys ∧ SqL K H1 c zs ∧ R (Itz3 K x b c (min x.cps.size (min ys.length zs.length))) H1
theorem pi_zip3 {X : Cx} {e e2 e3 : Expr} {ta : TA} {p pos tpos : Pos} {elts : List Expr} {kk : Nat} (hg : Gl X "zip") (hm : X.mg "zip" = none) (ha : PA X [e, e2, e3] ta)
    (hs : starEach [e, e2, e3] X.env = (false, eval e X.env) :: starEach [e2, e3] X.env := by rfl) (hpl : (backTo pos (starEach [e2, e3] X.env)).any (·.1) = false := by rfl) :
    PI X (.Tuple elts kk tpos) (.Call (.Name "zip" p) [e, e2, e3] [] pos) (iZip3T X.K ta) := by
  refine ⟨fun pins s σ H R I h => ?_⟩
  refine Call_ (ld_blt I hg hm PyProof.Rows.boot_zip (PyProof.Rows.callWith_type1 (thn (ha.run pos pins s σ H _ I h) fun us s1 ⟨vs, H1, I1, r1, q1⟩ => ?_) hs hpl))
  obtain ⟨x, b, c, ys, zs, ex, hqy, hqz, q⟩ := q1
  subst ex
  cases r1 with
  | cons r rr =>
    cases rr with
    | cons r' rr =>
      cases rr with
      | cons r'' rr =>
        cases rr
        obtain ⟨t, rfl⟩ := r
        cases r'
        cases r''
        obtain ⟨its2, rv2, p2, _⟩ := I1.list hqy
        obtain ⟨its3, rv3, p3, _⟩ := I1.list hqz
        have fresh6 : ∀ d, d ∈ [s1.heap.objs.size + 5, s1.heap.objs.size + 3, s1.heap.objs.size + 4, s1.heap.objs.size, s1.heap.objs.size + 1, s1.heap.objs.size + 2] → FpOk X pins H1 d := fun d hd => by
          simp only [List.mem_cons, List.not_mem_nil, or_false] at hd
          have hle : s1.heap.objs.size ≤ d := by omega
          exact I1.fpOk hle (I1.hok.fresh hle)
        have lb : b < s1.heap.objs.size := p2.lt
        have lc : c < s1.heap.objs.size := p3.lt
        have eb : ∀ k : Nat, ¬ b = s1.heap.objs.size + k := fun k => Nat.ne_of_lt (Nat.lt_of_lt_of_le lb (Nat.le_add_right _ _))
        have ec : ∀ k : Nat, ¬ c = s1.heap.objs.size + k := fun k => Nat.ne_of_lt (Nat.lt_of_lt_of_le lc (Nat.le_add_right _ _))
        have ee : ∀ j k : Nat, j ≠ k → ¬ s1.heap.objs.size + j = s1.heap.objs.size + k := fun j k h e => h (Nat.add_left_cancel e)
        have e0 : ∀ k : Nat, 0 ≠ k → ¬ s1.heap.objs.size + k = s1.heap.objs.size := fun k h e => ee k 0 h.symm e
        have six : Six (s1.heap.objs.size + 5) (s1.heap.objs.size + 3) (s1.heap.objs.size + 4) s1.heap.objs.size (s1.heap.objs.size + 1) (s1.heap.objs.size + 2) b c := by
          refine ⟨?_, ?_, ?_⟩
          · simp only [List.nodup_cons, List.mem_cons, List.not_mem_nil, not_or, or_false, not_false_eq_true, List.nodup_nil, and_true]
            exact ⟨⟨ee 5 3 (by decide), ee 5 4 (by decide), e0 5 (by decide), ee 5 1 (by decide), ee 5 2 (by decide)⟩, ⟨ee 3 4 (by decide), e0 3 (by decide), ee 3 1 (by decide), ee 3 2 (by decide)⟩, ⟨e0 4 (by decide), ee 4 1 (by decide), ee 4 2 (by decide)⟩, ⟨ee 0 1 (by decide), ee 0 2 (by decide)⟩, ee 1 2 (by decide)⟩
          · simp only [List.mem_cons, List.not_mem_nil, not_or, or_false, not_false_eq_true]
            exact ⟨eb 5, eb 3, eb 4, eb 0, eb 1, eb 2⟩
          · simp only [List.mem_cons, List.not_mem_nil, not_or, or_false, not_false_eq_true]
            exact ⟨ec 5, ec 3, ec 4, ec 0, ec 1, ec 2⟩
        refine zip_begins3 (begins_text x t) (begins_list b its2.toArray) (begins_list c its3.toArray) trivial p2.isList p3.isList fun h' hz hTI hTO h1 h2 h3 hsz hk => wpAny_pyIter_zip hz ?_
        have I2 : Inv X pins σ H1 { s1 with heap := h' } := I1.kept (t' := s1.toks) hk
        exact ⟨s1.heap.objs.size + 5, [s1.heap.objs.size + 5, s1.heap.objs.size + 3, s1.heap.objs.size + 4, s1.heap.objs.size, s1.heap.objs.size + 1, s1.heap.objs.size + 2], _, _, H1, rfl, I2, turn_zip3 six, ⟨hz, hTI, ⟨_, _, _, hTO⟩, ⟨_, h1, rfl, rfl⟩, ⟨_, h2, rfl, rfl⟩, ⟨_, h3, rfl, rfl⟩, Nat.zero_le _⟩, fresh6, q⟩
def zip3D : List D → List D → List D → List D
  | x :: xs, y :: ys, z :: zs => .tup [x, y, z] :: zip3D xs ys zs
  | _, _, _ => []
theorem zip3D_get : ∀ {xs ys zs : List D} {i : Nat} {d : D}, (zip3D xs ys zs)[i]? = some d → ∃ x y z, xs[i]? = some x ∧ ys[i]? = some y ∧ zs[i]? = some z ∧ d = .tup [x, y, z]
  | x :: xs, y :: ys, z :: zs, 0, d, h => by cases h; exact ⟨x, y, z, rfl, rfl, rfl, rfl⟩
  | x :: xs, y :: ys, z :: zs, i + 1, d, h => zip3D_get (xs := xs) (ys := ys) (zs := zs) (i := i) (by simpa [zip3D] using h)
  | [], _, _, i, d, h => by simp [zip3D] at h
  | _ :: _, [], _, i, d, h => by simp [zip3D] at h
  | _ :: _, _ :: _, [], i, d, h => by simp [zip3D] at h
theorem zip3D_len : ∀ xs ys zs : List D, (zip3D xs ys zs).length = min xs.length (min ys.length zs.length)
  | x :: xs, y :: ys, z :: zs => by
    have := zip3D_len xs ys zs
    simp only [zip3D, List.length_cons]
    omega
  | [], _, _ => by simp [zip3D]
  | _ :: _, [], _ => by simp [zip3D]
  | _ :: _, _ :: _, [] => by simp [zip3D]
def signs (x : Str) : List D := x.cps.toList.map fun c => D.str ⟨#[c]⟩
def iZip3I (fs : List FE) : FI := fun env ah => (iArgs fs env ah).bind fun ds ah1 => match ds with
  | [.str x, .lst ys, .lst zs] => .ok (zip3D (signs x) ys zs) ah1
  | _ => .bad
section
variable {G : KW} {η : List Addr} {H : Hp}
theorem it_zip3 {x : Str} {b c : Addr} {ds es : List D} {vs us : List V} (h : FzL H b vs) (r : RelAll G η H ds vs) (k : FzL H c us) (q : RelAll G η H es us) : ItOk G η H (Itz3 G.K x b c (min x.cps.size (min vs.length us.length))) (zip3D (signs x) ds es) where
  go := fun i d hd H' e => by
    have lt : i < min x.cps.size (min vs.length us.length) := by
      have l0 := (List.getElem?_eq_some_iff.mp hd).1
      have l1 : (signs x).length = x.cps.size := by unfold signs; rw [List.length_map, Array.length_toList]
      rw [zip3D_len, l1, r.length, q.length] at l0
      exact l0
    obtain ⟨a, y, z, ha, hy, hz, rfl⟩ := zip3D_get hd
    obtain ⟨v, hv, rv⟩ := r.get hy
    obtain ⟨u, hu, ru⟩ := q.get hz
    unfold signs at ha
    rw [List.getElem?_map] at ha
    obtain ⟨ch, hch, rfl⟩ := Option.map_eq_some_iff.mp ha
    have hch2 : x.cps[i]? = some ch := by rw [← Array.getElem?_toList]; exact hch
    have pf := List.prefix_refl η
    refine ⟨⟨vs, us, v, u, (h.ext e).sq, (k.ext e).sq, by simpa using (Array.getElem?_eq_some_iff.mp hch2).1, hv, hu, lt⟩, fun w H'' ww => ?_⟩
    obtain ⟨T, ch', v', u', rfl, hT, rfl, w0, w1, w2⟩ := ww
    have e1 := w1 vs (h.ext e).sq
    have e2 := w2 us (k.ext e).sq
    rw [hv] at e1; cases e1
    rw [hu] at e2; cases e2
    rw [hch2] at w0; cases w0
    have s := same_new (o := .tup [.str ⟨#[ch]⟩, v, u]) hT
    exact ⟨s, .tup upd_same (.cons (.str _) (.cons ((rv.ext pf e).ext pf (.of_same s)) (.cons ((ru.ext pf e).ext pf (.of_same s)) .nil)))⟩
  stop := fun i hi H' e => by
    have l1 : (signs x).length = x.cps.size := by unfold signs; rw [List.length_map, Array.length_toList]
    have l2 := r.length
    have l3 := q.length
    rw [zip3D_len, l1, l2, l3] at hi
    exact ⟨vs, us, (h.ext e).sq, (k.ext e).sq, rfl, hi⟩
variable {X : Cx} {W : XW} {e e2 e3 : Expr} {fs : List FE} {p pos tpos : Pos} {elts : List Expr} {kk : Nat}
theorem i_zip3 (hg : Gl X "zip") (hm : X.mg "zip" = none) (ha : PA X [e, e2, e3] (AX' X W fs)) (hs : starEach [e, e2, e3] X.env = (false, eval e X.env) :: starEach [e2, e3] X.env := by rfl) (hpl : (backTo pos (starEach [e2, e3] X.env)).any (·.1) = false := by rfl) :
    PI X (.Tuple elts kk tpos) (.Call (.Name "zip" p) [e, e2, e3] [] pos) (IX X W (iZip3I fs)) :=
  PI.imp (pi_zip3 hg hm ha hs hpl) fun S H R ⟨env, ah, η, en, pk, h⟩ =>
  ⟨env, ah, η, en, pk, h.bind.imp0 fun ds η1 H1 ah1 m1 p1 q1 => fun vs rs => by
    split at q1
    · cases rs with
      | cons r rr =>
        cases rr with
        | cons r2 rr =>
          cases rr with
          | cons r3 rr =>
            cases rr
            cases r
            cases r2 with
            | lst h2 r2 =>
              cases r3 with
              | lst h3 r3 => exact ⟨_, _, _, _, _, rfl, h2.sq, h3.sq, q1.at p1 _ (it_zip3 h2 r2 h3 r3)⟩
    · exact q1.elim⟩
theorem eZip3 {fs : List FE} {env : AE} {ah a1 : AH} {x : Str} {ys zs : List D} (h1 : iArgs fs env ah = .ok [.str x, .lst ys, .lst zs] a1) : iZip3I fs env ah = .ok (zip3D (signs x) ys zs) a1 := by unfold iZip3I; rw [h1, Res.bind_ok]
end
end DL
namespace DL
open PySem PySem.Spec PyProof.Rows L2
/-- the entry that is laid for a key and a value -/
def entB (e : DictEntry) (q : Str × Lit) : Bool := (match e.key with
  | .str x _ => decide (x = q.1)
  | _ => false) && match q.2, e.val with
  | .int i, .int j _ => decide (j = i)
  | .str x, .str y _ => decide (y = x)
  | _, _ => false
def entsB : List DictEntry → List (Str × Lit) → Bool
  | [], [] => true
  | e :: es, q :: qs => entB e q && entsB es qs
  | _, _ => false
def dctB (K : PySem.W.Frag) (x : Str) (kvs : List (Str × Lit)) : Bool := (!(He.ga K x == sysModules)) && match K.lookup (He.ga K x) with
  | some ⟨_, _, .dict es _, _⟩ => entsB es.toList kvs
  | _ => false
/-- a dict of the written part and its entries in their order -/
def DctE (w : World) (K : PySem.W.Frag) (a : Addr) (kvs : List (Str × Lit)) : Prop := (a == sysModules) = false ∧ ∃ es n, K.lookup a = some ⟨.type "dict", none, .dict es n, #[]⟩ ∧ entsB es.toList kvs = true ∧ PySem.W.KeysLit w.params es.toList
theorem dctB_ok {w : World} {K : PySem.W.Frag} {x : Str} {kvs : List (Str × Lit)} {es : Array DictEntry} {n : Nat} (h : dctB K x kvs = true) (e : K.lookup (He.ga K x) = some ⟨.type "dict", none, .dict es n, #[]⟩) (k : PySem.W.KeysLit w.params es.toList) : DctE w K (He.ga K x) kvs := by
  unfold dctB at h
  rw [e, Bool.and_eq_true, Bool.not_eq_true'] at h
  exact ⟨h.1, es, n, e, h.2, k⟩
theorem ent_ok {e : DictEntry} {q : Str × Lit} (h : entB e q = true) : RelV (.str q.1) e.key ∧ ∀ K : PySem.W.Frag, RelV (q.2.dv.v K) e.val := by
  obtain ⟨hs, k, v⟩ := e
  obtain ⟨x, l⟩ := q
  unfold entB at h
  rw [Bool.and_eq_true] at h
  obtain ⟨h1, h2⟩ := h
  constructor
  · simp only at h1
    split at h1
    · rename_i y t
      rw [decide_eq_true_eq] at h1
      subst h1
      exact ⟨t, rfl⟩
    · cases h1
  · intro K
    simp only at h2
    split at h2
    · rename_i i j t
      rw [decide_eq_true_eq] at h2
      subst h2
      exact ⟨t, rfl⟩
    · rename_i i j t
      rw [decide_eq_true_eq] at h2
      subst h2
      exact ⟨t, rfl⟩
    · cases h2
theorem ents_at : ∀ {es : List DictEntry} {kvs : List (Str × Lit)} {i : Nat} {q : Str × Lit}, entsB es kvs = true → kvs[i]? = some q → ∃ e, es[i]? = some e ∧ entB e q = true
  | [], [], i, q, _, h => by simp at h
  | [], _ :: _, _, _, h, _ => by simp [entsB] at h
  | _ :: _, [], _, _, h, _ => by simp [entsB] at h
  | e :: es, p :: kvs, 0, q, h, hq => by
    unfold entsB at h
    rw [Bool.and_eq_true] at h
    simp at hq
    subst hq
    exact ⟨e, rfl, h.1⟩
  | e :: es, p :: kvs, i + 1, q, h, hq => by
    unfold entsB at h
    rw [Bool.and_eq_true] at h
    obtain ⟨e', h1, h2⟩ := ents_at (i := i) h.2 (by simpa using hq)
    exact ⟨e', by simpa using h1, h2⟩
theorem ents_len : ∀ {es : List DictEntry} {kvs : List (Str × Lit)}, entsB es kvs = true → es.length = kvs.length
  | [], [], _ => rfl
  | [], _ :: _, h => by simp [entsB] at h
  | _ :: _, [], h => by simp [entsB] at h
  | e :: es, p :: kvs, h => by
    unfold entsB at h
    rw [Bool.and_eq_true] at h
    rw [List.length_cons, List.length_cons, ents_len h.2]
/-- the walk -/
def ItCI (K : PySem.W.Frag) (kvs : List (Str × Lit)) : It :=
  ⟨fun i _ => i < kvs.length, fun i H v H' => ∃ T q, v = .ref T ∧ H T = none ∧ kvs[i]? = some q ∧ H' = upd H T (.tup [.str q.1, q.2.dv.v K]), fun i _ => kvs.length ≤ i⟩
theorem turn_ci {P : Program} {w : World} {K : PySem.W.Frag} {elts : List Expr} {kk : Nat} {tpos : Pos} {d it ep : Nat} {es : Array DictEntry} {kvs : List (Str × Lit)} (hK : K.lookup d = some ⟨.type "dict", none, .dict es ep, #[]⟩) (he : entsB es.toList kvs = true) :
    Turn P w K (.Tuple elts kk tpos) (ItCI K kvs) [it] it (fun i h => ∃ ok ov, IsItemIter h it d i es.size ep ok ov) where
  mem := by simp
  obj := fun i h st b hb => by
    have e : b = it := by simpa using hb
    subst e
    obtain ⟨ok, ov, e⟩ := st
    exact ⟨_, e, fun v z => nomatch z⟩
  keep := fun i h h' st k => let ⟨ok, ov, e⟩ := st; ⟨ok, ov, k it (by simp) _ e⟩
  item := by
    intro X hP hw hK' hc i pins s σ H E I hf st hg
    subst hP hw hK'
    obtain ⟨ok, ov, hi⟩ := st
    have ln := ents_len he
    have lt : i < es.size := by rw [← Array.length_toList, ln]; exact hg
    obtain ⟨q, hq⟩ : ∃ q, kvs[i]? = some q := ⟨_, List.getElem?_eq_getElem hg⟩
    obtain ⟨e, h1, h2⟩ := ents_at he hq
    have ee : es[i] = e := by
      rw [Array.getElem?_toList, Array.getElem?_eq_getElem lt] at h1
      exact Option.some.inj h1
    obtain ⟨r1, r2⟩ := ent_ok h2
    have raw : DT.Raw s.heap d es ep := ⟨_, I.kIn _ _ hK, ⟨rfl, rfl, rfl⟩, rfl⟩
    have hlt : it < s.heap.objs.size := Heap.lt_size hi
    refine DT.nextI hi raw lt fun h' ho hT hz hk => ?_
    rw [ee] at ho hT
    refine ⟨_, rfl, wpAny_letOwnedTupleGo_items (s := { s with heap := h' }) ho fun h'' he' sb => ?_⟩
    have hT2 : h''.get? s.heap.objs.size = some { cls := .type "tuple", data := .seq #[e.key, e.val] } := (sb.2 _ (Nat.ne_of_gt hlt)).trans hT
    have new : ObjOk X.prog X.w (upd H s.heap.objs.size (.tup [.str q.1, q.2.dv.v X.K])) h'' s.heap.objs.size (.tup [.str q.1, q.2.dv.v X.K]) :=
      ⟨by show 2 ≤ sizeLine; decide, [e.key, e.val], .cons r1 (.cons (r2 X.K) .nil), ⟨_, hT2, rfl, _, rfl⟩⟩
    have I1 : Inv X pins σ (upd H s.heap.objs.size (.tup [.str q.1, q.2.dv.v X.K])) { s with heap := h'' } :=
      I.turnedNew (t' := s.toks) (ch := [it]) (fun b ob hb e => (sb.2 b (by simpa using hb)).trans (hk b ob (by simpa using hb) e)) hf (Nat.le_refl _) new
    refine ⟨.ref s.heap.objs.size, _, I1, rfl, ⟨_, q, rfl, I.hok.fresh (Nat.le_refl _), hq, rfl⟩, ⟨_, _, he'⟩, fun b hb => ?_⟩
    have e : b = it := by simpa using hb
    rw [e, upd_ne (Nat.ne_of_lt hlt)]
    exact (hf it (by simp)).1
  done := by
    intro X hP hw hK' hc i pins s σ H E I hf st hg
    subst hP hw hK'
    obtain ⟨ok, ov, hi⟩ := st
    obtain ⟨f0, f1, f2, f3, f4, f5⟩ := hf it (by simp)
    have ln := ents_len he
    have raw : DT.Raw s.heap d es ep := ⟨_, I.kIn _ _ hK, ⟨rfl, rfl, rfl⟩, rfl⟩
    exact DT.endI (I.ok.hd hc) hi raw (by rw [← Array.length_toList, ln]; exact hg) fun h' eb => ⟨rfl, I.turned (t' := s.toks) (fun b o hb q => eb b o hb q) f0 f1 f3 f4 f5⟩
  self := fun A i s Q E st h => let ⟨_, _, e⟩ := st; PySem.W.kcp_self e h
def iItemsC (kvs : List (Str × Lit)) : FI := fun _ ah => .ok (kvs.map fun q => .tup [.str q.1, q.2.d]) ah
theorem it_ci {G : KW} {η : List Addr} {H : Hp} (kvs : List (Str × Lit)) : ItOk G η H (ItCI G.K kvs) (kvs.map fun q => .tup [.str q.1, q.2.d]) where
  go := fun i d hd H' e => by
    rw [List.getElem?_map] at hd
    obtain ⟨q, hq, rfl⟩ := Option.map_eq_some_iff.mp hd
    refine ⟨(List.getElem?_eq_some_iff.mp hq).1, fun z H'' w => ?_⟩
    obtain ⟨T, q', rfl, hT, h1, rfl⟩ := w
    rw [hq] at h1
    cases h1
    exact pair_new hT (.str _) q.2.rel
  stop := fun i hi H' e => by rw [List.length_map] at hi; exact hi
section
variable {X : Cx} {W : XW}
theorem i_itemsC {x : Str} {a : Addr} {kvs : List (Str × Lit)} {p apos cpos tpos : Pos} {elts : List Expr} {kk : Nat} (hD : DctE X.w X.K a kvs) (hg : Gl X x) (hm : X.mg x = some (.ref a)) (hd : (x == ("__debug__" : Str)) = false := by decide)
    (hbase : attributeBase (.Name x p) "items" X.env (eval (.Name x p) X.env) = eval (.Name x p) X.env := by rfl) (hline : (apos.endLine == cpos.line) = true := by rfl) :
    PI X (.Tuple elts kk tpos) (.Call (.Attribute (.Name x p) "items" apos) [] [] cpos) (IX X W (iItemsC kvs)) := by
  obtain ⟨hs, es, n, hK, he, hk⟩ := hD
  have hn := pe_glob (pos := p) hg hm (v := .ref a) rfl hd
  refine ⟨fun pins s σ H R I h => ?_⟩
  obtain ⟨env, ah, η, en, pk, h⟩ := h
  refine wpAny_Call_method (T := "dict") (id := "dict.items") hbase rfl hline F.plainAttrs_dict F.slot_dict_items F.type_dict_items (thn (hn.run pins s σ H (fun v H1 => v = .ref a ∧ H1 = H) I ⟨rfl, rfl⟩) fun u s1 ⟨x, H1, I1, rx, ex, eh⟩ => ?_)
  subst ex eh
  obtain rfl : u = Value.ref a := rx
  have raw : DT.Raw s1.heap a es n := ⟨_, I1.kIn _ _ hK, ⟨rfl, rfl, rfl⟩, rfl⟩
  refine ⟨raw.typeIs, fun b eb => by cases eb; exact ⟨_, I1.kIn _ _ hK, rfl⟩, ?_⟩
  have I2 : Inv X pins σ H1 { s1 with heap := s1.heap.push { cls := .type "dict_items", data := .fields #[.ref a] } } := I1.kept (t' := s1.toks) fun b ob q => Heap.get?_push_of_some _ q
  have q := h.at pk
  have fin : wpAny (model X.prog X.w) X.A (pyIter (.ref s1.heap.objs.size)) (PIE X pins σ (.Tuple elts kk tpos) R) X.xe { s1 with heap := s1.heap.push { cls := .type "dict_items", data := .fields #[.ref a] } } := by
    refine DT.iterI (d := a) (es := es) (ep := n) ⟨_, Heap.get?_push_size _ rfl, rfl, rfl⟩ (raw.push _) (pi_one (tk := s1.toks) I2 _ (turn_ci hK he) ⟨.none, .none, ?_⟩ (q _ (it_ci kvs)))
    exact Heap.get?_push_size _ rfl
  show wpAny _ _ (callWith cpos (.builtin "dict.items") [.ref a] [] []) _ X.xe s1
  exact method_meetsIn F.slot_dict_items F.entry_dict_items rfl (PySem.evalArgs_none ⟨rfl, raw.typeIs, F.args_dict_items_1 _, _, DT.meetsItems (es := es) (ep := n) hs, raw, fin⟩)
/-- what stands at a key, or what is given -/
def getC {α : Type} (g : Lit → α) (kvs : List (Str × Lit)) (z : Str) (d : α) : α := match kvs.find? fun q => decide (q.1 = z) with
  | some q => g q.2
  | none => d
theorem find_ents {z : Str} : ∀ {es : List DictEntry} {kvs : List (Str × Lit)}, entsB es kvs = true → match kvs.find? fun q => decide (q.1 = z) with
    | some q => ∃ e, es.find? (fun e => Value.isStrOf z e.key) = some e ∧ entB e q = true
    | none => es.find? (fun e => Value.isStrOf z e.key) = none
  | [], [], _ => rfl
  | [], _ :: _, h => by simp [entsB] at h
  | _ :: _, [], h => by simp [entsB] at h
  | e :: es, p :: kvs, h => by
    unfold entsB at h
    rw [Bool.and_eq_true] at h
    obtain ⟨⟨t, r1⟩, _⟩ := ent_ok h.1
    have ek : Value.isStrOf z e.key = decide (p.1 = z) := by
      rw [r1]
      unfold Value.isStrOf
      rw [Bool.eq_iff_iff, decide_eq_true_eq]
      simp only [beq_iff_eq]
    rw [List.find?_cons, List.find?_cons, ek]
    by_cases c : p.1 = z
    · rw [decide_eq_true c]
      exact ⟨e, rfl, h.1⟩
    · rw [decide_eq_false c]
      exact find_ents h.2
def tCGet (K : PySem.W.Frag) (kvs : List (Str × Lit)) (ty tx : TE) : TE := fun σ H Q => ty σ H fun y H2 => tx σ H2 fun z H3 => ∃ zs, y = .str zs ∧ Q (getC (fun l => l.dv.v K) kvs zs z) H3
theorem pe_cget {x : Str} {a : Addr} {kvs : List (Str × Lit)} {e f : Expr} {ty tx : TE} {p apos cpos : Pos} (hD : DctE X.w X.K a kvs) (hg : Gl X x) (hm : X.mg x = some (.ref a)) (he' : PE X e ty) (hf : PE X f tx) (m : M2 X (.Name x p) "get" apos e f cpos) (hd : (x == ("__debug__" : Str)) = false := by decide) :
    PE X (.Call (.Attribute (.Name x p) "get" apos) [e, f] [] cpos) (tCGet X.K kvs ty tx) := by
  obtain ⟨hs, es, n, hK, he, hk⟩ := hD
  have hn := pe_glob (pos := p) hg hm (v := .ref a) rfl hd
  refine ⟨fun pins s σ H Q I h => ?_⟩
  refine wpAny_Call_method m.base m.few m.line PySem.F.plainAttrs_dict PySem.F.slot_dict_get PySem.F.type_dict_get (thn (hn.run pins s σ H (fun v H1 => v = .ref a ∧ H1 = H) I ⟨rfl, rfl⟩) fun u s1 ⟨x, H1, I1, rx, ex, eh⟩ => ?_)
  subst ex eh
  obtain rfl : u = Value.ref a := rx
  have raw : DT.Raw s1.heap a es n := ⟨_, I1.kIn _ _ hK, ⟨rfl, rfl, rfl⟩, rfl⟩
  refine ⟨raw.typeIs, fun b eb => by cases eb; exact ⟨_, I1.kIn _ _ hK, rfl⟩, ?_⟩
  rw [m.trees]
  refine Calls.callWith_builtin rfl (Calls.evalArgs_plain (Calls.spliced_cons (thn (he'.run pins s1 σ H1 _ I1 h) fun iv s2 ⟨y, H2, I2, ry, q2⟩ =>
    Calls.spliced_cons (thn (hf.run pins s2 σ H2 _ I2 q2) fun fv s3 ⟨z, H3, I3, rz, zs, ey, q3⟩ => Calls.spliced_nil ?_))))
  subst ey
  obtain ⟨t, rfl⟩ := ry
  have hm3 := PySem.W.mapOf_K (prog := X.prog) (w := X.w) I3.kIn hK hk
  refine call_meetsIn PySem.F.slot_dict_get hm3.typeIs PySem.F.entry_dict_get (PySem.F.args_dict_get_3 _ _ _) (meets_dict_get_default (strKind X.prog X.w) a (strKind_is X.prog X.w zs t) hs fv) ⟨_, hm3, ?_⟩
  refine ⟨_, H3, I3.tok _, ?_, q3⟩
  have fe := find_ents (z := zs) he
  unfold getC
  unfold findBy
  rw [← Array.find?_toList]
  cases hq : kvs.find? fun q => decide (q.1 = zs) with
  | some q =>
    rw [hq] at fe
    obtain ⟨e, h1, h2⟩ := fe
    rw [h1]
    exact (ent_ok h2).2 X.K
  | none =>
    rw [hq] at fe
    simp only at fe
    rw [fe]
    exact rz
def iGetC (kvs : List (Str × Lit)) (fe fx : FE) : FE := fun env ah => (fe env ah).bind fun y ah1 => (fx env ah1).bind fun d ah2 => match y with
  | .str z => .ok (getC Lit.d kvs z d) ah2
  | _ => .bad
theorem j_getC {x : Str} {a : Addr} {kvs : List (Str × Lit)} {e f : Expr} {fe fx : FE} {p apos cpos : Pos} (hD : DctE X.w X.K a kvs) (hg : Gl X x) (hm : X.mg x = some (.ref a)) (he : PE X e (SX X W fe)) (hx : PE X f (SX X W fx)) (hb : attributeBase (.Name x p) "get" X.env (eval (.Name x p) X.env) = eval (.Name x p) X.env := by rfl)
    (hf : ((backTo cpos (starEach [e, f] X.env)).all (fun x => !x.1) && (backToKw cpos (keywordEach [] X.env)).all (fun x => x.1.isSome) && decide (([e, f] : List Expr).length + ([] : List Keyword).length + (if ([] : List Keyword).isEmpty then 0 else 1) < 30)) = true := by rfl)
    (hl : (apos.endLine == cpos.line) = true := by rfl) (ht : backTo cpos (starEach [e, f] X.env) = [(false, eval e X.env), (false, eval f X.env)] := by rfl) (hd : (x == ("__debug__" : Str)) = false := by decide) :
    PE X (.Call (.Attribute (.Name x p) "get" apos) [e, f] [] cpos) (SX X W (iGetC kvs fe fx)) :=
  PE.imp (pe_fz (pe_cget hD hg hm he hx ⟨hb, hf, hl, ht⟩ hd)) fun S H Q ⟨env, ah, η, en, p, h⟩ => ⟨env, ah, η, en, p, h.bind.imp0 fun y η1 H1 ah1 m1 p1 q1 u ru => ⟨env, ah1, η1, en.mv m1, p1, q1.bind.imp0 fun d η2 H2 ah2 m2 p2 q2 t rt => by
    split at q2
    · cases ru
      refine ⟨_, rfl, .inl (q2.at p2 _ ?_)⟩
      unfold getC
      cases hq : kvs.find? fun q => decide (q.1 = _) with
      | some q => exact q.2.rel
      | none => exact rt
    · exact q2.elim⟩⟩
theorem eGetC {kvs : List (Str × Lit)} {fe fx : FE} {env : AE} {ah a1 a2 : AH} {z : Str} {d : D} (h1 : fe env ah = .ok (.str z) a1) (h2 : fx env a1 = .ok d a2) : iGetC kvs fe fx env ah = .ok (getC Lit.d kvs z d) a2 := by
  unfold iGetC
  rw [h1, Res.bind_ok, h2, Res.bind_ok]
end
end DL
namespace FM
open PySem PySem.Spec PyProof.Rows L2 DL
inductive Lt where | L | R | T | B
  deriving DecidableEq
def Lt.code : Lt → Nat | .L => 76 | .R => 82 | .T => 84 | .B => 66
def ls (c : Lt) : Str := ⟨#[c.code]⟩
def fs (l : List Lt) : Str := ⟨(l.map Lt.code).toArray⟩
theorem fs_cps (l : List Lt) : (fs l).cps.toList = l.map Lt.code := rfl
theorem code_inj {a b : Lt} (h : a.code = b.code) : a = b := by cases a <;> cases b <;> first | rfl | (exact absurd h (by decide))
theorem map_inj2 {α β : Type} {f : α → β} (h : ∀ x y, f x = f y → x = y) : ∀ {xs ys : List α}, xs.map f = ys.map f → xs = ys
  | [], [], _ => rfl
  | [], _ :: _, q => nomatch q
  | _ :: _, [], q => nomatch q
  | x :: xs, y :: ys, q => by
    simp only [List.map_cons, List.cons.injEq] at q
    rw [h _ _ q.1, map_inj2 h q.2]
theorem fs_inj {a b : List Lt} (h : fs a = fs b) : a = b := by
  have h2 : a.map Lt.code = b.map Lt.code := by rw [← fs_cps, ← fs_cps, h]
  exact map_inj2 (fun _ _ => code_inj) h2
theorem ls_inj {a b : Lt} (h : ls a = ls b) : a = b := by
  have := fs_inj (a := [a]) (b := [b]) h
  simpa using this
/-- all words of n letters -/
def words : Nat → List (List Lt)
  | 0 => [[]]
  | n + 1 => (words n).flatMap fun w => [.L :: w, .R :: w, .T :: w, .B :: w]
theorem mem_words : ∀ l : List Lt, l ∈ words l.length
  | [] => List.mem_cons_self
  | c :: l => by
    refine List.mem_flatMap.mpr ⟨l, mem_words l, ?_⟩
    cases c <;> simp
def allF : List (List Lt) := words 1 ++ words 2 ++ words 3 ++ words 4 ++ words 5
theorem mem_allF {l : List Lt} (h1 : 1 ≤ l.length) (h2 : l.length ≤ 5) : l ∈ allF := by
  have h := mem_words l
  unfold allF
  simp only [List.mem_append]
  have : l.length = 1 ∨ l.length = 2 ∨ l.length = 3 ∨ l.length = 4 ∨ l.length = 5 := by omega
  rcases this with e | e | e | e | e <;> rw [e] at h <;> simp [h]
structure Leaf where
  c : Nat
  r : Nat
  f : Bool
  u : Bool
  deriving DecidableEq
def face (b : Bool) : Str := if b then ⟨#[102, 114, 111, 110, 116]⟩ else ⟨#[98, 97, 99, 107]⟩
def head (b : Bool) : Str := if b then ⟨#[117, 112]⟩ else ⟨#[100, 111, 119, 110]⟩
def dLf (x : Leaf) : D := .tup [dI x.c, dI x.r, .str (face x.f), .str (head x.u)]
theorem face_inj {a b : Bool} (h : face a = face b) : a = b := by cases a <;> cases b <;> first | rfl | exact absurd h (by decide)
theorem head_inj {a b : Bool} (h : head a = head b) : a = b := by cases a <;> cases b <;> first | rfl | exact absurd h (by decide)
theorem inj_Lf : Inj dLf := fun x y h => by
  unfold dLf at h
  simp only [D.tup.injEq, List.cons.injEq, D.str.injEq] at h
  obtain ⟨h1, h2, h3, h4, _⟩ := h
  cases x; cases y
  simp only at h1 h2 h3 h4
  rw [inj_dI _ _ h1, inj_dI _ _ h2, face_inj h3, head_inj h4]
abbrev Stack := List Leaf
abbrev Grid := List (List Stack)
def Lt.across : Lt → Bool | .L => true | .R => true | _ => false
def Lt.near : Lt → Bool | .L => true | .T => true | _ => false
def flip (a : Bool) (x : Leaf) : Leaf := ⟨x.c, x.r, !x.f, if a then x.u else !x.u⟩
def turn (a : Bool) (s : Stack) : Stack := s.reverse.map (flip a)
def pairsM (near : Bool) (many : Nat) : List (Nat × Nat) := if near then (List.range (many / 2)).map fun i => (many / 2 - 1 - i, many / 2 + i) else (List.range (many / 2)).map fun i => (many - 1 - i, i)
def laidM (a : Bool) (over under : List Stack) : List Stack := (over.zip under).map fun p => turn a p.1 ++ p.2
def stepM (c : Lt) (g : Grid) : Grid := if c.across then g.map fun row => (pairsM c.near row.length).map fun p => turn true (row.getD p.1 []) ++ row.getD p.2 []
  else (pairsM c.near g.length).map fun p => laidM false (g.getD p.1 []) (g.getD p.2 [])
def acrossM (l : List Lt) : Nat := (l.filter Lt.across).length
def sizeM (l : List Lt) : Nat × Nat := (2 ^ acrossM l, 2 ^ (l.length - acrossM l))
def flatRow (cs r : Nat) : List Stack := (List.range cs).map fun c => [⟨c, r, true, true⟩]
def flatM (cs rs : Nat) : Grid := (List.range rs).map fun r => flatRow cs r
def stAt (l : List Lt) (i : Nat) : Grid := (l.take i).foldl (fun g c => stepM c g) (flatM (sizeM l).1 (sizeM l).2)
def statesM (l : List Lt) : List Grid := (List.range (l.length + 1)).map (stAt l)
def foldM (l : List Lt) : Stack := ((stAt l l.length).getD 0 []).getD 0 []
theorem getD_mem {α : Type} {P : α → Prop} {xs : List α} {d : α} (h : ∀ x ∈ xs, P x) (hd : P d) (i : Nat) : P (xs.getD i d) := by
  rw [List.getD_eq_getElem?_getD]
  cases e : xs[i]? with
  | some v => exact h v (List.mem_of_getElem? e)
  | none => exact hd
/-- rows alike of width w -/
def Rect (w : Nat) (g : Grid) : Prop := ∀ row ∈ g, row.length = w
theorem pairs_len (near : Bool) (n : Nat) : (pairsM near n).length = n / 2 := by
  unfold pairsM
  split <;> simp
theorem pairs_lt {near : Bool} {n : Nat} {p : Nat × Nat} (h : p ∈ pairsM near n) : p.1 < n ∧ p.2 < n := by
  unfold pairsM at h
  split at h <;> (obtain ⟨i, hi, rfl⟩ := List.mem_map.mp h; have := List.mem_range.mp hi; simp only; omega)
theorem step_rect {c : Lt} {w : Nat} {g : Grid} (h : Rect w g) : Rect (if c.across then w / 2 else w) (stepM c g) := by
  unfold stepM
  split
  · intro row hr
    obtain ⟨r0, h0, rfl⟩ := List.mem_map.mp hr
    rw [List.length_map, pairs_len, h r0 h0]
  · intro row hr
    obtain ⟨p, h0, rfl⟩ := List.mem_map.mp hr
    obtain ⟨h1, h2⟩ := pairs_lt h0
    unfold laidM
    rw [List.length_map, List.length_zip, List.getD_eq_getElem?_getD, List.getD_eq_getElem?_getD, List.getElem?_eq_getElem h1, List.getElem?_eq_getElem h2]
    simp only [Option.getD_some]
    rw [h _ (List.getElem_mem h1), h _ (List.getElem_mem h2)]
    omega
theorem step_len {c : Lt} {g : Grid} : (stepM c g).length = if c.across then g.length else g.length / 2 := by
  unfold stepM
  split
  · rw [List.length_map]
  · rw [List.length_map, pairs_len]
/-- every stack has s leaves -/
def Even (s : Nat) (g : Grid) : Prop := ∀ row ∈ g, ∀ st ∈ row, st.length = s
theorem step_even {c : Lt} {w s : Nat} {g : Grid} (hr : Rect w g) (h : Even s g) : Even (2 * s) (stepM c g) := by
  unfold stepM
  split
  · intro row hm st hs
    obtain ⟨r0, h0, rfl⟩ := List.mem_map.mp hm
    obtain ⟨p, hp, rfl⟩ := List.mem_map.mp hs
    obtain ⟨h1, h2⟩ := pairs_lt hp
    unfold turn
    rw [List.length_append, List.length_map, List.length_reverse, List.getD_eq_getElem?_getD, List.getD_eq_getElem?_getD, List.getElem?_eq_getElem h1, List.getElem?_eq_getElem h2]
    simp only [Option.getD_some]
    rw [h r0 h0 _ (List.getElem_mem h1), h r0 h0 _ (List.getElem_mem h2)]
    omega
  · intro row hm st hs
    obtain ⟨p, hp, rfl⟩ := List.mem_map.mp hm
    obtain ⟨h1, h2⟩ := pairs_lt hp
    unfold laidM at hs
    rw [List.getD_eq_getElem?_getD, List.getD_eq_getElem?_getD, List.getElem?_eq_getElem h1, List.getElem?_eq_getElem h2] at hs
    simp only [Option.getD_some] at hs
    obtain ⟨q, hq, rfl⟩ := List.mem_map.mp hs
    obtain ⟨q1, q2⟩ := List.of_mem_zip (a := q.1) (b := q.2) hq
    unfold turn
    rw [List.length_append, List.length_map, List.length_reverse, h _ (List.getElem_mem h1) _ q1, h _ (List.getElem_mem h2) _ q2]
    omega
/-- the form of a grid: 2^d rows of 2^a stacks of 2^i leaves -/
structure Good (a d i : Nat) (g : Grid) : Prop where
  len : g.length = 2 ^ d
  rect : Rect (2 ^ a) g
  even : Even (2 ^ i) g
theorem good_flat (a d : Nat) : Good a d 0 (flatM (2 ^ a) (2 ^ d)) := by
  refine ⟨by simp [flatM], fun row hr => ?_, fun row hr st hs => ?_⟩
  · obtain ⟨r, _, rfl⟩ := List.mem_map.mp hr
    simp [flatRow]
  · obtain ⟨r, _, rfl⟩ := List.mem_map.mp hr
    obtain ⟨c, _, rfl⟩ := List.mem_map.mp hs
    rfl
theorem half_pow (n : Nat) : 2 ^ (n + 1) / 2 = 2 ^ n := by rw [Nat.pow_succ]; omega
theorem good_across {a d i : Nat} {c : Lt} {g : Grid} (hc : c.across = true) (h : Good (a + 1) d i g) : Good a d (i + 1) (stepM c g) := by
  refine ⟨?_, ?_, ?_⟩
  · rw [step_len, if_pos hc, h.len]
  · have := step_rect (c := c) h.rect
    rw [if_pos hc, half_pow] at this
    exact this
  · have := step_even (c := c) h.rect h.even
    rw [Nat.pow_succ, Nat.mul_comm]
    exact this
theorem good_down {a d i : Nat} {c : Lt} {g : Grid} (hc : c.across = false) (h : Good a (d + 1) i g) : Good a d (i + 1) (stepM c g) := by
  refine ⟨?_, ?_, ?_⟩
  · rw [step_len, hc, if_neg Bool.false_ne_true, h.len, half_pow]
  · have := step_rect (c := c) h.rect
    rw [hc, if_neg Bool.false_ne_true] at this
    exact this
  · have := step_even (c := c) h.rect h.even
    rw [Nat.pow_succ, Nat.mul_comm]
    exact this
def downM (l : List Lt) : Nat := (l.filter fun c => !c.across).length
theorem across_down (l : List Lt) : acrossM l + downM l = l.length := by
  induction l with
  | nil => rfl
  | cons c l ih =>
    unfold acrossM downM at *
    cases hc : c.across <;> simp [hc] <;> omega
theorem good_run : ∀ (l : List Lt) (k i : Nat) (g : Grid), Good (acrossM l) (downM l) k g → i ≤ l.length → Good (acrossM (l.drop i)) (downM (l.drop i)) (k + i) ((l.take i).foldl (fun g c => stepM c g) g)
  | l, k, 0, g, h, _ => by simpa using h
  | c :: l, k, i + 1, g, h, hi => by
    have e : Good (acrossM l) (downM l) (k + 1) (stepM c g) := by
      cases hc : c.across with
      | true =>
        have e1 : acrossM (c :: l) = acrossM l + 1 := by simp [acrossM, hc]
        have e2 : downM (c :: l) = downM l := by simp [downM, hc]
        rw [e1, e2] at h
        exact good_across hc h
      | false =>
        have e1 : acrossM (c :: l) = acrossM l := by simp [acrossM, hc]
        have e2 : downM (c :: l) = downM l + 1 := by simp [downM, hc]
        rw [e1, e2] at h
        exact good_down hc h
    have := good_run l (k + 1) i (stepM c g) e (by simpa using hi)
    rw [show k + (i + 1) = k + 1 + i by omega]
    simpa using this
theorem good_at {l : List Lt} {i : Nat} (hi : i ≤ l.length) : Good (acrossM (l.drop i)) (downM (l.drop i)) i (stAt l i) := by
  have e : (sizeM l).2 = 2 ^ downM l := by
    unfold sizeM
    have := across_down l
    rw [show l.length - acrossM l = downM l by omega]
  have h := good_run l 0 i (flatM (sizeM l).1 (sizeM l).2) (by rw [e]; exact good_flat _ _) hi
  rw [Nat.zero_add] at h
  exact h
theorem stAt_succ {l : List Lt} {i : Nat} {c : Lt} (h : l[i]? = some c) : stAt l (i + 1) = stepM c (stAt l i) := by
  unfold stAt
  have hi := (List.getElem?_eq_some_iff.mp h).1
  rw [List.take_add_one, h]
  simp
theorem pow5 {n : Nat} (h : n ≤ 5) : 2 ^ n ≤ 32 := by
  have : n = 0 ∨ n = 1 ∨ n = 2 ∨ n = 3 ∨ n = 4 ∨ n = 5 := by omega
  rcases this with e | e | e | e | e | e <;> subst e <;> decide
theorem getD_in {α : Type} {xs : List α} {i : Nat} {d : α} (h : i < xs.length) : xs.getD i d ∈ xs := by
  rw [List.getD_eq_getElem?_getD, List.getElem?_eq_getElem h]
  exact List.getElem_mem h
abbrev IG := List (List Int)
def put2 (g : IG) (r c : Nat) (v : Int) : IG := g.set r ((g.getD r []).set c v)
def sgn (u : Bool) : Int := if u then 1 else -1
def putLeaf (p : IG × IG) (k : Nat) (x : Leaf) : IG × IG :=
  if x.f then (put2 p.1 x.r x.c (sgn x.u * (2 * (k : Int) + 1)), put2 p.2 x.r x.c (sgn x.u * (2 * (k : Int) + 2)))
  else (put2 p.1 x.r x.c (sgn x.u * (2 * (k : Int) + 2)), put2 p.2 x.r x.c (sgn x.u * (2 * (k : Int) + 1)))
def zeroG (cs rs : Nat) : IG := List.replicate rs (List.replicate cs 0)
def impAt (cs rs : Nat) (S : Stack) : Nat → IG × IG
  | 0 => (zeroG cs rs, zeroG cs rs)
  | i + 1 => match S[i]? with
    | some x => putLeaf (impAt cs rs S i) i x
    | none => impAt cs rs S i
def impM (l : List Lt) : IG × IG := impAt (sizeM l).1 (sizeM l).2 (foldM l) (foldM l).length
structure Shp (cs rs : Nat) (g : IG) : Prop where
  n : g.length = rs
  w : ∀ row ∈ g, row.length = cs
theorem shp_zero (cs rs : Nat) : Shp cs rs (zeroG cs rs) := ⟨by simp [zeroG], fun row h => by rw [(List.mem_replicate.mp h).2, List.length_replicate]⟩
theorem Shp.put {cs rs r c : Nat} {g : IG} {v : Int} (h : Shp cs rs g) (hr : r < rs) : Shp cs rs (put2 g r c v) := by
  refine ⟨by unfold put2; rw [List.length_set, h.n], fun row hm => ?_⟩
  unfold put2 at hm
  rcases List.mem_or_eq_of_mem_set hm with q | q
  · exact h.w row q
  · rw [q, List.length_set]
    exact h.w _ (getD_in (by rw [h.n]; exact hr))
/-- where leaves lie on the sheet -/
def InB (cs rs : Nat) (x : Leaf) : Prop := x.c < cs ∧ x.r < rs
theorem inb_imp {cs rs : Nat} {S : Stack} (h : ∀ x ∈ S, InB cs rs x) : ∀ i, Shp cs rs (impAt cs rs S i).1 ∧ Shp cs rs (impAt cs rs S i).2
  | 0 => ⟨shp_zero _ _, shp_zero _ _⟩
  | i + 1 => by
    obtain ⟨h1, h2⟩ := inb_imp h i
    unfold impAt
    split
    · rename_i x hx
      have b := h x (List.mem_of_getElem? hx)
      unfold putLeaf
      split
      · exact ⟨h1.put b.2, h2.put b.2⟩
      · exact ⟨h1.put b.2, h2.put b.2⟩
    · exact ⟨h1, h2⟩
def AllB (cs rs : Nat) (g : Grid) : Prop := ∀ row ∈ g, ∀ s ∈ row, ∀ x ∈ s, InB cs rs x
theorem turn_b {cs rs : Nat} {a : Bool} {s : Stack} (h : ∀ x ∈ s, InB cs rs x) : ∀ x ∈ turn a s, InB cs rs x := by
  intro x hx
  obtain ⟨y, hy, rfl⟩ := List.mem_map.mp hx
  exact h y (List.mem_reverse.mp hy)
theorem getD_all {cs rs : Nat} {row : List Stack} (h : ∀ s ∈ row, ∀ x ∈ s, InB cs rs x) (i : Nat) : ∀ x ∈ row.getD i [], InB cs rs x :=
  getD_mem (P := fun s : Stack => ∀ x ∈ s, InB cs rs x) h (fun x hx => absurd hx List.not_mem_nil) i
theorem step_b {cs rs : Nat} {c : Lt} {g : Grid} (h : AllB cs rs g) : AllB cs rs (stepM c g) := by
  have hg : ∀ i, ∀ s ∈ g.getD i [], ∀ x ∈ s, InB cs rs x := fun i => getD_mem (P := fun row : List Stack => ∀ s ∈ row, ∀ x ∈ s, InB cs rs x) h (fun x hx => absurd hx List.not_mem_nil) i
  unfold stepM
  split
  · intro row hr s hs x hx
    obtain ⟨r0, h0, rfl⟩ := List.mem_map.mp hr
    obtain ⟨p, hp, rfl⟩ := List.mem_map.mp hs
    rcases List.mem_append.mp hx with q | q
    · exact turn_b (getD_all (h r0 h0) _) x q
    · exact getD_all (h r0 h0) _ x q
  · intro row hr s hs x hx
    obtain ⟨p, hp, rfl⟩ := List.mem_map.mp hr
    obtain ⟨q, hq, rfl⟩ := List.mem_map.mp hs
    obtain ⟨q1, q2⟩ := List.of_mem_zip (a := q.1) (b := q.2) hq
    rcases List.mem_append.mp hx with z | z
    · exact turn_b (hg _ _ q1) x z
    · exact hg _ _ q2 x z
theorem run_b {cs rs : Nat} : ∀ (l : List Lt) (g : Grid), AllB cs rs g → AllB cs rs (l.foldl (fun g c => stepM c g) g)
  | [], _, h => h
  | c :: l, g, h => run_b l (stepM c g) (step_b h)
theorem flat_b (cs rs : Nat) : AllB cs rs (flatM cs rs) := by
  intro row hr s hs x hx
  obtain ⟨r, h1, rfl⟩ := List.mem_map.mp hr
  obtain ⟨c, h2, rfl⟩ := List.mem_map.mp hs
  rw [List.mem_singleton.mp hx]
  exact ⟨List.mem_range.mp h2, List.mem_range.mp h1⟩
theorem fold_b (l : List Lt) : ∀ x ∈ foldM l, InB (sizeM l).1 (sizeM l).2 x := by
  have h : AllB (sizeM l).1 (sizeM l).2 (stAt l l.length) := run_b _ _ (flat_b _ _)
  exact getD_all (getD_mem (P := fun row : List Stack => ∀ s ∈ row, ∀ x ∈ s, InB (sizeM l).1 (sizeM l).2 x) h (fun x hx => absurd hx List.not_mem_nil) 0) 0
theorem fold_len (l : List Lt) : (foldM l).length = 2 ^ l.length := by
  have G := good_at (l := l) (Nat.le_refl _)
  rw [List.drop_length] at G
  have l1 : (stAt l l.length).length = 1 := G.len
  have m1 := getD_in (xs := stAt l l.length) (i := 0) (d := []) (by omega)
  have l2 : ((stAt l l.length).getD 0 []).length = 1 := G.rect _ m1
  exact G.even _ m1 _ (getD_in (by omega))
abbrev dIG : IG → D := dT (dT D.int)
def dLay (p : IG × IG) : D := .tup [dIG p.1, dIG p.2]
end FM
namespace FM
open PySem PySem.Spec PyProof.Rows L2 DL
def Has (g : Grid) (c r : Nat) : Prop := ∃ row ∈ g, ∃ s ∈ row, ∃ x ∈ s, x.c = c ∧ x.r = r
theorem turn_has {a : Bool} {s : Stack} {x : Leaf} (h : x ∈ s) : ∃ y ∈ turn a s, y.c = x.c ∧ y.r = x.r := ⟨flip a x, List.mem_map.mpr ⟨x, List.mem_reverse.mpr h, rfl⟩, rfl, rfl⟩
theorem pair_of {near : Bool} {n j : Nat} (he : n % 2 = 0) (hj : j < n) : (∃ p ∈ pairsM near n, p.1 = j) ∨ ∃ p ∈ pairsM near n, p.2 = j := by
  unfold pairsM
  cases near with
  | true =>
    simp only [if_true]
    by_cases h : j < n / 2
    · exact .inl ⟨_, List.mem_map.mpr ⟨n / 2 - 1 - j, List.mem_range.mpr (by omega), rfl⟩, by simp only; omega⟩
    · exact .inr ⟨_, List.mem_map.mpr ⟨j - n / 2, List.mem_range.mpr (by omega), rfl⟩, by simp only; omega⟩
  | false =>
    simp only [Bool.false_eq_true, if_false]
    by_cases h : j < n / 2
    · exact .inr ⟨_, List.mem_map.mpr ⟨j, List.mem_range.mpr h, rfl⟩, rfl⟩
    · exact .inl ⟨_, List.mem_map.mpr ⟨n - 1 - j, List.mem_range.mpr (by omega), rfl⟩, by simp only; omega⟩
theorem getD_at {α : Type} {xs : List α} {i : Nat} {d x : α} (h : xs[i]? = some x) : xs.getD i d = x := by rw [List.getD_eq_getElem?_getD, h]; rfl
theorem step_has {k : Lt} {g : Grid} {c r w : Nat} (h : Has g c r) (hr : Rect w g) (e1 : k.across = true → w % 2 = 0) (e2 : k.across = false → g.length % 2 = 0) : Has (stepM k g) c r := by
  obtain ⟨row, h1, s, h2, x, h3, rfl, rfl⟩ := h
  obtain ⟨i, hi, rfl⟩ := List.mem_iff_getElem.mp h1
  obtain ⟨j, hj, rfl⟩ := List.mem_iff_getElem.mp h2
  have lw := hr _ h1
  unfold stepM
  cases hk : k.across with
  | true =>
    rw [if_pos rfl]
    refine ⟨_, List.mem_map.mpr ⟨g[i], h1, rfl⟩, ?_⟩
    have ej : (g[i]).getD j [] = (g[i])[j] := getD_at (List.getElem?_eq_getElem hj)
    rcases pair_of (near := k.near) (n := (g[i]).length) (j := j) (by rw [lw]; exact e1 hk) hj with ⟨p, hp, e⟩ | ⟨p, hp, e⟩
    · obtain ⟨y, hy, ec, er⟩ := turn_has (a := true) h3
      exact ⟨_, List.mem_map.mpr ⟨p, hp, rfl⟩, y, List.mem_append_left _ (by rw [e, ej]; exact hy), ec, er⟩
    · exact ⟨_, List.mem_map.mpr ⟨p, hp, rfl⟩, x, List.mem_append_right _ (by rw [e, ej]; exact h3), rfl, rfl⟩
  | false =>
    rw [if_neg Bool.false_ne_true]
    have ei : g.getD i [] = g[i] := getD_at (List.getElem?_eq_getElem hi)
    rcases pair_of (near := k.near) (n := g.length) (j := i) (e2 hk) hi with ⟨p, hp, e⟩ | ⟨p, hp, e⟩
    · obtain ⟨y, hy, ec, er⟩ := turn_has (a := false) h3
      obtain ⟨_, l2⟩ := pairs_lt hp
      have lb : (g.getD p.2 []).length = w := hr _ (getD_in l2)
      refine ⟨_, List.mem_map.mpr ⟨p, hp, rfl⟩, turn false (g[i])[j] ++ (g.getD p.2 [])[j], ?_, y, List.mem_append_left _ hy, ec, er⟩
      unfold laidM
      rw [e, ei]
      refine List.mem_map.mpr ⟨((g[i])[j], (g.getD p.2 [])[j]), ?_, rfl⟩
      have hz : j < (g[i].zip (g.getD p.2 [])).length := by rw [List.length_zip]; omega
      rw [← List.getElem_zip (h := hz)]
      exact List.getElem_mem hz
    · obtain ⟨l1, _⟩ := pairs_lt hp
      have la : (g.getD p.1 []).length = w := hr _ (getD_in l1)
      refine ⟨_, List.mem_map.mpr ⟨p, hp, rfl⟩, turn false (g.getD p.1 [])[j] ++ (g[i])[j], ?_, x, List.mem_append_right _ h3, rfl, rfl⟩
      unfold laidM
      rw [e, ei]
      refine List.mem_map.mpr ⟨((g.getD p.1 [])[j], (g[i])[j]), ?_, rfl⟩
      have hz : j < ((g.getD p.1 []).zip g[i]).length := by rw [List.length_zip]; omega
      rw [← List.getElem_zip (h := hz)]
      exact List.getElem_mem hz
theorem pow_ev (n : Nat) : 2 ^ (n + 1) % 2 = 0 := by rw [Nat.pow_succ]; omega
theorem across_cons {k : Lt} {l : List Lt} (h : k.across = true) : acrossM (k :: l) = acrossM l + 1 := by simp [acrossM, h]
theorem down_cons {k : Lt} {l : List Lt} (h : k.across = false) : downM (k :: l) = downM l + 1 := by simp [downM, h]
theorem at_has {l : List Lt} {c r : Nat} (hc : c < (sizeM l).1) (hr : r < (sizeM l).2) : ∀ i, i ≤ l.length → Has (stAt l i) c r
  | 0, _ => ⟨_, List.mem_map.mpr ⟨r, List.mem_range.mpr hr, rfl⟩, _, List.mem_map.mpr ⟨c, List.mem_range.mpr hc, rfl⟩, ⟨c, r, true, true⟩, List.mem_singleton.mpr rfl, rfl, rfl⟩
  | i + 1, h => by
    have ih := at_has hc hr i (by omega)
    have G := good_at (l := l) (i := i) (by omega)
    have e : l.drop i = l[i] :: l.drop (i + 1) := List.drop_eq_getElem_cons (by omega)
    rw [e] at G
    rw [stAt_succ (List.getElem?_eq_getElem (by omega))]
    refine step_has ih G.rect (fun h => ?_) fun h => ?_
    · rw [across_cons h]
      exact pow_ev _
    · rw [G.len, down_cons h]
      exact pow_ev _
theorem fold_has {l : List Lt} {c r : Nat} (hc : c < (sizeM l).1) (hr : r < (sizeM l).2) : ∃ (k : Nat) (x : Leaf), (foldM l)[k]? = some x ∧ x.c = c ∧ x.r = r := by
  obtain ⟨row, h1, s, h2, x, h3, e1, e2⟩ := at_has hc hr l.length (Nat.le_refl _)
  have G := good_at (l := l) (Nat.le_refl _)
  rw [List.drop_length] at G
  have l1 : (stAt l l.length).length = 1 := G.len
  have l2 := G.rect row h1
  obtain ⟨i, hi, rfl⟩ := List.mem_iff_getElem.mp h1
  obtain ⟨j, hj, rfl⟩ := List.mem_iff_getElem.mp h2
  obtain rfl : i = 0 := by omega
  have l2' : ((stAt l l.length)[0]).length = 1 := l2
  obtain rfl : j = 0 := by omega
  have e : foldM l = ((stAt l l.length)[0])[0] := by
    unfold foldM
    rw [getD_at (List.getElem?_eq_getElem hi), getD_at (List.getElem?_eq_getElem hj)]
  rw [← e] at h3
  obtain ⟨k, hk⟩ := List.getElem?_of_mem h3
  exact ⟨k, x, hk, e1, e2⟩
def cell (g : IG) (r c : Nat) : Int := (g.getD r []).getD c 0
theorem cell_put {g : IG} {r c r' c' : Nat} {v : Int} (hr : r < g.length) (hc : c < (g.getD r []).length) : cell (put2 g r c v) r' c' = if r' = r ∧ c' = c then v else cell g r' c' := by
  unfold cell put2
  by_cases h1 : r' = r
  · subst h1
    rw [show (g.set r' ((g.getD r' []).set c v)).getD r' [] = (g.getD r' []).set c v from getD_at (by rw [List.getElem?_set_self hr])]
    by_cases h2 : c' = c
    · subst h2
      rw [getD_at (List.getElem?_set_self hc), if_pos ⟨rfl, rfl⟩]
    · rw [if_neg (fun z => h2 z.2), List.getD_eq_getElem?_getD, List.getElem?_set_ne (Ne.symm h2), ← List.getD_eq_getElem?_getD]
  · rw [if_neg (fun z => h1 z.1), List.getD_eq_getElem?_getD (l := g.set _ _), List.getElem?_set_ne (Ne.symm h1), ← List.getD_eq_getElem?_getD]
/-- the number that leaf k shows at a side -/
def val (k : Nat) (x : Leaf) (front : Bool) : Int := sgn x.u * (2 * (k : Int) + if x.f = front then 1 else 2)
theorem put_val {p : IG × IG} {k : Nat} {x : Leaf} : putLeaf p k x = (put2 p.1 x.r x.c (val k x true), put2 p.2 x.r x.c (val k x false)) := by
  unfold putLeaf val
  cases x.f <;> simp
def side (p : IG × IG) (front : Bool) : IG := if front then p.1 else p.2
theorem cell_at {cs rs : Nat} {S : Stack} (h : ∀ x ∈ S, InB cs rs x) (b : Bool) (r c : Nat) : ∀ i, i ≤ S.length →
    (∀ k x, k < i → S[k]? = some x → x.r = r → x.c = c → ∃ k' x', k' < i ∧ S[k']? = some x' ∧ x'.r = r ∧ x'.c = c ∧ cell (side (impAt cs rs S i) b) r c = val k' x' b)
  | 0, _, _, _, hk, _, _, _ => absurd hk (Nat.not_lt_zero _)
  | i + 1, hi, k, x, hk, hx, e1, e2 => by
    obtain ⟨y, hy⟩ : ∃ y, S[i]? = some y := ⟨_, List.getElem?_eq_getElem (by omega)⟩
    have hb := h y (List.mem_of_getElem? hy)
    obtain ⟨p1, p2⟩ := inb_imp h i
    have next : impAt cs rs S (i + 1) = (put2 (impAt cs rs S i).1 y.r y.c (val i y true), put2 (impAt cs rs S i).2 y.r y.c (val i y false)) := by
      rw [← put_val, show impAt cs rs S (i + 1) = (match S[i]? with | some x => putLeaf (impAt cs rs S i) i x | none => impAt cs rs S i) from rfl, hy]
    have sd : side (impAt cs rs S (i + 1)) b = put2 (side (impAt cs rs S i) b) y.r y.c (val i y b) := by rw [next]; cases b <;> rfl
    have ps : Shp cs rs (side (impAt cs rs S i) b) := by cases b <;> assumption
    have hr : y.r < (side (impAt cs rs S i) b).length := by rw [ps.n]; exact hb.2
    have hc : y.c < ((side (impAt cs rs S i) b).getD y.r []).length := by rw [ps.w _ (getD_in hr)]; exact hb.1
    by_cases hz : r = y.r ∧ c = y.c
    · refine ⟨i, y, by omega, hy, hz.1.symm, hz.2.symm, ?_⟩
      rw [sd, cell_put hr hc, if_pos hz]
    · have hki : k < i := by
        rcases Nat.lt_succ_iff_lt_or_eq.mp hk with q | q
        · exact q
        · subst q
          rw [hx] at hy
          cases hy
          exact absurd ⟨e1.symm, e2.symm⟩ hz
      obtain ⟨k', x', q1, q2, q3, q4, q5⟩ := cell_at h b r c i (by omega) k x hki hx e1 e2
      refine ⟨k', x', by omega, q2, q3, q4, ?_⟩
      rw [sd, cell_put hr hc, if_neg hz, q5]
/-- each cell shows the leaf that lies there -/
theorem cell_imp {l : List Lt} (b : Bool) {r c : Nat} (hr : r < (sizeM l).2) (hc : c < (sizeM l).1) : ∃ (k : Nat) (x : Leaf), (foldM l)[k]? = some x ∧ x.r = r ∧ x.c = c ∧ cell (side (impM l) b) r c = val k x b := by
  obtain ⟨k, x, h1, h2, h3⟩ := fold_has hc hr
  have hk := (List.getElem?_eq_some_iff.mp h1).1
  obtain ⟨k', x', _, q2, q3, q4, q5⟩ := cell_at (fold_b l) b r c (foldM l).length (Nat.le_refl _) k x hk h1 h3 h2
  exact ⟨k', x', q2, q3, q4, q5⟩
end FM
namespace FM
open PySem PySem.Spec PyProof.Rows L2 DL
/-- small numbers, few rows -/
structure Ok3 (p : IG × IG) : Prop where
  a : p.1.length ≤ 64
  b : p.2.length ≤ 64
  wa : ∀ row ∈ p.1, row.length ≤ 64 ∧ ∀ i ∈ row, i.natAbs < 200
  wb : ∀ row ∈ p.2, row.length ≤ 64 ∧ ∀ i ∈ row, i.natAbs < 200
theorem val_abs (k : Nat) (x : Leaf) (b : Bool) : (val k x b).natAbs = 2 * k + if x.f = b then 1 else 2 := by
  unfold val sgn
  by_cases h : x.f = b
  · rw [if_pos h, if_pos h]
    cases x.u <;> simp <;> omega
  · rw [if_neg h, if_neg h]
    cases x.u <;> simp <;> omega
theorem size5 {l : List Lt} (h : l.length ≤ 5) : (sizeM l).1 ≤ 32 ∧ (sizeM l).2 ≤ 32 ∧ (foldM l).length ≤ 32 := by
  have := across_down l
  exact ⟨pow5 (by omega), pow5 (by omega), by rw [fold_len]; exact pow5 h⟩
theorem shp_imp (l : List Lt) (b : Bool) : Shp (sizeM l).1 (sizeM l).2 (side (impM l) b) := by
  obtain ⟨p1, p2⟩ := inb_imp (fold_b l) (foldM l).length
  cases b <;> assumption
theorem imp_small {l : List Lt} (h : l.length ≤ 5) (b : Bool) : ∀ row ∈ side (impM l) b, row.length ≤ 64 ∧ ∀ i ∈ row, i.natAbs < 200 := by
  obtain ⟨s1, s2, s3⟩ := size5 h
  have ps := shp_imp l b
  intro row hr
  have lw := ps.w row hr
  refine ⟨by omega, fun i hi => ?_⟩
  obtain ⟨r, hr', rfl⟩ := List.mem_iff_getElem.mp hr
  obtain ⟨c, hc', rfl⟩ := List.mem_iff_getElem.mp hi
  obtain ⟨k, x, q1, _, _, q4⟩ := cell_imp (l := l) b (r := r) (c := c) (by rw [← ps.n]; exact hr') (by omega)
  have e : cell (side (impM l) b) r c = ((side (impM l) b)[r])[c] := by
    unfold cell
    rw [show (side (impM l) b).getD r [] = (side (impM l) b)[r] from getD_at (List.getElem?_eq_getElem hr')]
    exact getD_at (List.getElem?_eq_getElem hc')
  rw [← e, q4, val_abs]
  have hk := (List.getElem?_eq_some_iff.mp q1).1
  split <;> omega
theorem imp_ok3 {l : List Lt} (h : l.length ≤ 5) : Ok3 (impM l) := by
  obtain ⟨s1, s2, s3⟩ := size5 h
  exact ⟨by have := (shp_imp l true).n; exact (show (impM l).1.length ≤ 64 by have : (impM l).1.length = (sizeM l).2 := this; omega), by have := (shp_imp l false).n; exact (show (impM l).2.length ≤ 64 by have : (impM l).2.length = (sizeM l).2 := this; omega), imp_small h true, imp_small h false⟩
theorem gap {ys : List Int} (s : ys.Pairwise (· < ·)) : ∀ (j i : Nat) (hij : i ≤ j) (hj : j < ys.length), ys[i]'(by omega) + ((j : Int) - (i : Int)) ≤ ys[j]
  | 0, i, hij, hj => by obtain rfl : i = 0 := by omega
                        simp
  | j + 1, i, hij, hj => by
    by_cases h : i = j + 1
    · subst h; simp
    · have ih := gap s j i (by omega) (by omega)
      have := List.pairwise_iff_getElem.mp s j (j + 1) (by omega) hj (by omega)
      omega
theorem sorted_all {xs : List Int} (nd : xs.Nodup) (hb : ∀ x ∈ xs, 1 ≤ x ∧ x ≤ xs.length) : xs.mergeSort (fun a b => decide (a ≤ b)) = (List.range xs.length).map fun i => ((i : Nat) : Int) + 1 := by
  generalize hy : xs.mergeSort (fun a b => decide (a ≤ b)) = ys
  have pm : ys.Perm xs := by rw [← hy]; exact List.mergeSort_perm _ _
  have ln := pm.length_eq
  have le : ys.Pairwise (· ≤ ·) := by
    have h2 := List.pairwise_mergeSort (le := fun (a b : Int) => decide (a ≤ b)) (fun a b c => by simp only [decide_eq_true_eq]; omega) (fun a b => by simp only [Bool.or_eq_true, decide_eq_true_eq]; omega) xs
    rw [hy] at h2
    exact h2.imp fun h => of_decide_eq_true h
  have lt : ys.Pairwise (· < ·) := by
    have nd2 : ys.Nodup := pm.symm.nodup nd
    refine List.pairwise_iff_getElem.mpr fun i j hi hj hij => ?_
    have h1 := List.pairwise_iff_getElem.mp le i j hi hj hij
    have h2 := List.pairwise_iff_getElem.mp nd2 i j hi hj hij
    omega
  apply List.ext_getElem
  · simp [ln]
  · intro i h1 h2
    rw [List.getElem_map, List.getElem_range]
    have b0 := (hb _ (pm.mem_iff.mp (List.getElem_mem (show 0 < ys.length by omega)))).1
    have b1 := (hb _ (pm.mem_iff.mp (List.getElem_mem (show ys.length - 1 < ys.length by omega)))).2
    have g1 := gap lt i 0 (by omega) h1
    have g2 := gap lt (ys.length - 1) i (by omega) (by omega)
    omega
/-- the cells in the law's order -/
def idx (l : List Lt) : List (Bool × Nat × Nat) := [true, false].flatMap fun b => (List.range (sizeM l).2).flatMap fun r => (List.range (sizeM l).1).map fun c => (b, r, c)
theorem mem_idx {l : List Lt} {q : Bool × Nat × Nat} (h : q ∈ idx l) : q.2.1 < (sizeM l).2 ∧ q.2.2 < (sizeM l).1 := by
  unfold idx at h
  obtain ⟨b, _, h⟩ := List.mem_flatMap.mp h
  obtain ⟨r, hr, h⟩ := List.mem_flatMap.mp h
  obtain ⟨c, hc, rfl⟩ := List.mem_map.mp h
  exact ⟨List.mem_range.mp hr, List.mem_range.mp hc⟩
theorem idx_nodup (l : List Lt) : (idx l).Nodup := by
  unfold idx
  refine List.pairwise_flatMap.mpr ⟨fun b _ => List.pairwise_flatMap.mpr ⟨fun r _ => ?_, ?_⟩, ?_⟩
  · exact List.pairwise_map.mpr (List.nodup_range.imp fun h z => h (by simpa using z))
  · refine List.nodup_range.imp fun {r r'} h x hx y hy z => ?_
    obtain ⟨c, _, rfl⟩ := List.mem_map.mp hx
    obtain ⟨c', _, rfl⟩ := List.mem_map.mp hy
    simp only [Prod.mk.injEq] at z
    exact h z.2.1
  · refine List.Pairwise.imp (R := (· ≠ ·)) (fun {b b'} h x hx y hy z => ?_) (by decide)
    obtain ⟨r, _, hx⟩ := List.mem_flatMap.mp hx
    obtain ⟨c, _, rfl⟩ := List.mem_map.mp hx
    obtain ⟨r', _, hy⟩ := List.mem_flatMap.mp hy
    obtain ⟨c', _, rfl⟩ := List.mem_map.mp hy
    simp only [Prod.mk.injEq] at z
    exact h z.1
def num (l : List Lt) (q : Bool × Nat × Nat) : Int := cell (side (impM l) q.1) q.2.1 q.2.2
theorem idx_len (l : List Lt) : (idx l).length = 2 * ((sizeM l).2 * (sizeM l).1) := by
  unfold idx
  have e : ∀ b : Bool, ((List.range (sizeM l).2).flatMap fun r => (List.range (sizeM l).1).map fun c => (b, r, c)).length = (sizeM l).2 * (sizeM l).1 := fun b => by
    rw [List.length_flatMap]
    simp only [List.length_map, List.length_range]
    rw [List.map_const', List.sum_replicate_nat, List.length_range]
  rw [List.length_flatMap]
  simp only [e, List.map_cons, List.map_nil, List.sum_cons, List.sum_nil]
  omega
theorem size_mul (l : List Lt) : (sizeM l).2 * (sizeM l).1 = (foldM l).length := by
  rw [fold_len]
  unfold sizeM
  have := across_down l
  simp only
  rw [← Nat.pow_add]
  congr 1
  omega
theorem nums_sorted (l : List Lt) : ((idx l).map fun q => ((num l q).natAbs : Int)).mergeSort (fun a b => decide (a ≤ b)) = (List.range (idx l).length).map fun i => ((i : Nat) : Int) + 1 := by
  have h := sorted_all (xs := (idx l).map fun q => ((num l q).natAbs : Int)) ?_ ?_
  · rw [List.length_map] at h
    exact h
  · refine List.pairwise_map.mpr ?_
    refine List.Pairwise.imp_of_mem (fun {q q'} hq hq' hne z => ?_) (idx_nodup l)
    obtain ⟨a1, a2⟩ := mem_idx hq
    obtain ⟨b1, b2⟩ := mem_idx hq'
    obtain ⟨k, x, e1, e2, e3, e4⟩ := cell_imp (l := l) q.1 a1 a2
    obtain ⟨k', x', f1, f2, f3, f4⟩ := cell_imp (l := l) q'.1 b1 b2
    unfold num at z
    rw [e4, f4, val_abs, val_abs] at z
    have hk : k = k' := by split at z <;> split at z <;> omega
    subst hk
    rw [e1] at f1
    cases f1
    have hb : q.1 = q'.1 := by
      cases h1 : q.1 <;> cases h2 : q'.1 <;> rw [h1, h2] at z <;> first | rfl | (cases hf : x.f <;> rw [hf] at z <;> simp at z)
    refine hne ?_
    obtain ⟨q1, q2, q3⟩ := q
    obtain ⟨r1, r2, r3⟩ := q'
    simp only at hb e2 e3 f2 f3
    rw [hb, ← e2, ← e3, f2, f3]
  · intro v hv
    obtain ⟨q, hq, rfl⟩ := List.mem_map.mp hv
    obtain ⟨a1, a2⟩ := mem_idx hq
    obtain ⟨k, x, e1, e2, e3, e4⟩ := cell_imp (l := l) q.1 a1 a2
    have hk := (List.getElem?_eq_some_iff.mp e1).1
    unfold num
    rw [e4, val_abs, List.length_map, idx_len, size_mul]
    split <;> omega
end FM
namespace FM
open DL
/-- each once, by a mask of those ahead -/
def dist : Nat → List Nat → Bool
  | _, [] => true
  | m, x :: xs => !(m.testBit x) && dist (m ||| (1 <<< x)) xs
def distinct (xs : List Nat) : Bool := dist 0 xs
def alt : Bool → List Leaf → Bool
  | _, [] => true
  | b, x :: xs => (x.f == b) && alt (!b) xs
def near (p q : Bool) (x : Leaf) : Bool := (x.f == (((x.c + x.r) % 2 == 0) == p)) && (x.u == ((x.r % 2 == 0) == q))
def key (y : Leaf) : Nat := 32 * y.c + y.r
def parF (x : Leaf) : Bool := x.f == ((x.c + x.r) % 2 == 0)
def parU (x : Leaf) : Bool := x.u == (x.r % 2 == 0)
def checkS (S : List Leaf) : Bool := match S with
  | [] => false
  | x :: xs => alt false (x :: xs) && (distinct ((x :: xs).map key) && (x :: xs).all fun y => near (parF x) (parU x) y)
theorem stk4 : ∀ l ∈ words 1 ++ words 2 ++ words 3 ++ words 4, checkS (foldM l) = true := by decide +kernel
theorem stk5LL : ∀ w ∈ words 3, checkS (foldM (.L :: .L :: w)) = true := by decide +kernel
theorem stk5LR : ∀ w ∈ words 3, checkS (foldM (.L :: .R :: w)) = true := by decide +kernel
theorem stk5LT : ∀ w ∈ words 3, checkS (foldM (.L :: .T :: w)) = true := by decide +kernel
theorem stk5LB : ∀ w ∈ words 3, checkS (foldM (.L :: .B :: w)) = true := by decide +kernel
theorem stk5RL : ∀ w ∈ words 3, checkS (foldM (.R :: .L :: w)) = true := by decide +kernel
theorem stk5RR : ∀ w ∈ words 3, checkS (foldM (.R :: .R :: w)) = true := by decide +kernel
theorem stk5RT : ∀ w ∈ words 3, checkS (foldM (.R :: .T :: w)) = true := by decide +kernel
theorem stk5RB : ∀ w ∈ words 3, checkS (foldM (.R :: .B :: w)) = true := by decide +kernel
theorem stk5TL : ∀ w ∈ words 3, checkS (foldM (.T :: .L :: w)) = true := by decide +kernel
theorem stk5TR : ∀ w ∈ words 3, checkS (foldM (.T :: .R :: w)) = true := by decide +kernel
theorem stk5TT : ∀ w ∈ words 3, checkS (foldM (.T :: .T :: w)) = true := by decide +kernel
theorem stk5TB : ∀ w ∈ words 3, checkS (foldM (.T :: .B :: w)) = true := by decide +kernel
theorem stk5BL : ∀ w ∈ words 3, checkS (foldM (.B :: .L :: w)) = true := by decide +kernel
theorem stk5BR : ∀ w ∈ words 3, checkS (foldM (.B :: .R :: w)) = true := by decide +kernel
theorem stk5BT : ∀ w ∈ words 3, checkS (foldM (.B :: .T :: w)) = true := by decide +kernel
theorem stk5BB : ∀ w ∈ words 3, checkS (foldM (.B :: .B :: w)) = true := by decide +kernel
theorem all_stacks {l : List Lt} (h1 : 1 ≤ l.length) (h5 : l.length ≤ 5) : checkS (foldM l) = true := by
  by_cases h : l.length = 5
  · match l, h with
    | a :: b :: w, h =>
      have hw : w ∈ words 3 := by
        have e : w.length = 3 := by simpa using h
        rw [← e]
        exact mem_words w
      cases a <;> cases b
      · exact stk5LL w hw
      · exact stk5LR w hw
      · exact stk5LT w hw
      · exact stk5LB w hw
      · exact stk5RL w hw
      · exact stk5RR w hw
      · exact stk5RT w hw
      · exact stk5RB w hw
      · exact stk5TL w hw
      · exact stk5TR w hw
      · exact stk5TT w hw
      · exact stk5TB w hw
      · exact stk5BL w hw
      · exact stk5BR w hw
      · exact stk5BT w hw
      · exact stk5BB w hw
  · have hw := mem_words l
    refine stk4 l ?_
    simp only [List.mem_append]
    have : l.length = 1 ∨ l.length = 2 ∨ l.length = 3 ∨ l.length = 4 := by omega
    rcases this with e | e | e | e <;> rw [e] at hw <;> simp [hw]
theorem dist_nd : ∀ {xs : List Nat} {m : Nat}, dist m xs = true → xs.Nodup ∧ ∀ x ∈ xs, m.testBit x = false
  | [], _, _ => ⟨List.nodup_nil, fun x h => absurd h List.not_mem_nil⟩
  | x :: xs, m, h => by
    unfold dist at h
    simp only [Bool.and_eq_true, Bool.not_eq_true'] at h
    obtain ⟨n1, n2⟩ := dist_nd h.2
    have bit : (m ||| (1 <<< x)).testBit x = true := by
      rw [Nat.testBit_or, Nat.testBit_shiftLeft]
      simp
    refine ⟨List.nodup_cons.mpr ⟨fun q => ?_, n1⟩, fun y hy => ?_⟩
    · rw [n2 x q] at bit
      cases bit
    · rcases List.mem_cons.mp hy with z | z
      · rw [z]; exact h.1
      · have := n2 y z
        rw [Nat.testBit_or, Bool.or_eq_false_iff] at this
        exact this.1
theorem distinct_nd {xs : List Nat} (h : distinct xs = true) : xs.Nodup := (dist_nd h).1
theorem alt_at : ∀ {S : List Leaf} {b : Bool} {k : Nat} {x : Leaf}, alt b S = true → S[k]? = some x → x.f = (b ^^ decide (k % 2 = 1))
  | [], _, _, _, _, h => by simp at h
  | y :: S, b, 0, x, h, e => by
    unfold alt at h
    simp only [Bool.and_eq_true, beq_iff_eq] at h
    simp at e
    rw [← e, h.1]
    simp
  | y :: S, b, k + 1, x, h, e => by
    unfold alt at h
    simp only [Bool.and_eq_true, beq_iff_eq] at h
    rw [alt_at (S := S) (b := !b) (k := k) h.2 (by simpa using e)]
    rcases Nat.mod_two_eq_zero_or_one k with z | z
    · have z2 : (k + 1) % 2 = 1 := by omega
      rw [decide_eq_false (by omega), decide_eq_true z2]
      cases b <;> rfl
    · have z2 : (k + 1) % 2 = 0 := by omega
      rw [decide_eq_true z, decide_eq_false (by omega)]
      cases b <;> rfl
structure Stk (S : List Leaf) : Prop where
  face : ∀ k x, S[k]? = some x → x.f = decide (k % 2 = 1)
  nd : (S.map key).Nodup
  side : ∀ x ∈ S, ∀ y ∈ S, y.c = x.c + 1 → y.r = x.r → y.f = !x.f ∧ y.u = x.u
  below : ∀ x ∈ S, ∀ y ∈ S, y.c = x.c → y.r = x.r + 1 → y.f = !x.f ∧ y.u = !x.u
theorem stk_of {S : List Leaf} (h : checkS S = true) : Stk S := by
  unfold checkS at h
  split at h
  · exact absurd h Bool.false_ne_true
  · rename_i x xs
    generalize parF x = p at h
    generalize parU x = q at h
    generalize x :: xs = S at *
    simp only [Bool.and_eq_true, List.all_eq_true] at h
    obtain ⟨h1, h2, h3⟩ := h
    have nr : ∀ y ∈ S, y.f = (((y.c + y.r) % 2 == 0) == p) ∧ y.u = ((y.r % 2 == 0) == q) := fun y hy => by
      have z := h3 y hy
      unfold near at z
      simp only [Bool.and_eq_true] at z
      exact ⟨eq_of_beq z.1, eq_of_beq z.2⟩
    have ev : ∀ n : Nat, ((n + 1) % 2 == 0) = !(n % 2 == 0) := fun n => by
      rcases Nat.mod_two_eq_zero_or_one n with z | z
      · rw [z, show (n + 1) % 2 = 1 by omega]; rfl
      · rw [z, show (n + 1) % 2 = 0 by omega]; rfl
    refine ⟨fun k y e => by rw [alt_at h1 e]; simp, distinct_nd h2, fun a ha b hb e1 e2 => ?_, fun a ha b hb e1 e2 => ?_⟩
    · obtain ⟨a1, a2⟩ := nr a ha
      obtain ⟨b1, b2⟩ := nr b hb
      refine ⟨?_, by rw [a2, b2, e2]⟩
      rw [a1, b1, e1, e2, show a.c + 1 + a.r = a.c + a.r + 1 by omega, ev]
      cases ((a.c + a.r) % 2 == 0) <;> cases p <;> rfl
    · obtain ⟨a1, a2⟩ := nr a ha
      obtain ⟨b1, b2⟩ := nr b hb
      refine ⟨?_, ?_⟩
      · rw [a1, b1, e1, e2, show a.c + (a.r + 1) = a.c + a.r + 1 by omega, ev]
        cases ((a.c + a.r) % 2 == 0) <;> cases p <;> rfl
      · rw [a2, b2, e2, ev]
        cases (a.r % 2 == 0) <;> cases q <;> rfl
theorem stk {l : List Lt} (h1 : 1 ≤ l.length) (h5 : l.length ≤ 5) : Stk (foldM l) := stk_of (all_stacks h1 h5)
theorem Stk.inj {S : List Leaf} (s : Stk S) {i j : Nat} {x y : Leaf} (hi : S[i]? = some x) (hj : S[j]? = some y) (e1 : x.c = y.c) (e2 : x.r = y.r) : i = j := by
  have g := List.pairwise_iff_getElem.mp (List.pairwise_map.mp s.nd)
  obtain ⟨li, ei⟩ := List.getElem?_eq_some_iff.mp hi
  obtain ⟨lj, ej⟩ := List.getElem?_eq_some_iff.mp hj
  have k : key S[i] = key S[j] := by rw [ei, ej]; unfold key; rw [e1, e2]
  rcases Nat.lt_trichotomy i j with z | z | z
  · exact absurd k (g i j li lj z)
  · exact z
  · exact absurd k.symm (g j i lj li z)
/-- where a panel lies -/
def placeM : List Leaf → Nat → Nat → Nat → D
  | [], _, _, _ => .non
  | x :: S, k, c, r => if x.c = c ∧ x.r = r then .tup [dI k, .str (face x.f), .str (head x.u)] else placeM S (k + 1) c r
def told (k : Nat) (x : Leaf) : D := .tup [dI k, .str (face x.f), .str (head x.u)]
theorem place_at : ∀ {S : List Leaf} {k0 k : Nat} {x : Leaf}, S[k]? = some x → (∀ j y, S[j]? = some y → y.c = x.c → y.r = x.r → j = k) → placeM S k0 x.c x.r = told (k0 + k) x
  | [], _, _, _, h, _ => by simp at h
  | y :: S, k0, 0, x, h, u => by
    simp at h
    subst h
    unfold placeM
    rw [if_pos ⟨rfl, rfl⟩]
    rfl
  | y :: S, k0, k + 1, x, h, u => by
    unfold placeM
    rw [if_neg fun z => absurd (u 0 y rfl z.1 z.2) (by omega), place_at (S := S) (k := k) (by simpa using h) fun j y' e e1 e2 => by
      have := u (j + 1) y' (by simpa using e) e1 e2
      omega]
    rw [show k0 + 1 + k = k0 + (k + 1) by omega]
theorem place_pure : ∀ (S : List Leaf) (k c r : Nat), pureD (placeM S k c r) = true
  | [], _, _, _ => rfl
  | x :: S, k, c, r => by
    unfold placeM
    split
    · rfl
    · exact place_pure S _ _ _
end FM
namespace EM
open FM
abbrev NN := Nat × Nat
abbrev Row := Nat × Nat × Option Lt
/-- where a place comes to lie -/
def movedM (near : Bool) (p half : Nat) : Nat × Bool := if near = true then (if p < half then (half - 1 - p, true) else (p - half, false)) else (if half ≤ p then (2 * half - 1 - p, true) else (p, false))
abbrev St := Nat × Nat × Nat × Nat
abbrev PS := Nat × Nat × Bool
def pstep (k : Lt) (s : St) : St × PS := if k.across = true then
    (let m := movedM k.near s.1 (s.2.2.1 / 2); ((m.1, s.2.1, s.2.2.1 / 2, s.2.2.2), (m.1, s.2.1, m.2)))
  else (let m := movedM k.near s.2.1 (s.2.2.2 / 2); ((s.1, m.1, s.2.2.1, s.2.2.2 / 2), (s.1, m.1, m.2)))
def pathM : List Lt → St → List PS
  | [], _ => []
  | k :: l, s => (pstep k s).2 :: pathM l (pstep k s).1
def turnE (k : Lt) (e : Option Lt) : Option Lt := if k.across = true then (match e with | some .L => some .R | some .R => some .L | x => x) else (match e with | some .T => some .B | some .B => some .T | x => x)
def estep (k : Lt) (a b : PS) (e : Option Lt) : Option Lt := if e = none then (if a.1 = b.1 ∧ a.2.1 = b.2.1 then some k else none) else if a.2.2 = true then turnE k e else e
def edgeL : List Lt → List PS → List PS → Option Lt → Option Lt
  | k :: l, a :: as, b :: bs, e => edgeL l as bs (estep k a b e)
  | _, _, _, e => e
def edgeM (l : List Lt) (p q : NN) : Option Lt := edgeL l (pathM l (p.1, p.2, sizeM l)) (pathM l (q.1, q.2, sizeM l)) none
/-- the panels of a stack, from the top -/
def pan (l : List Lt) : List NN := (foldM l).map fun x => (x.c, x.r)
def nbs (p : NN) : List NN := [(p.1 + 1, p.2), (p.1, p.2 + 1)]
def two (i j : Nat) : NN := (min i j, max i j)
def row (i j : Nat) (e : Option Lt) : Row := (min i j, max i j, e)
def rowsP (l : List Lt) : List Row := (pan l).flatMap fun p => (nbs p).flatMap fun q => if q ∈ pan l then [row ((pan l).idxOf p) ((pan l).idxOf q) (edgeM l p q)] else []
def partsM (g : Grid) (k : Lt) : List NN × List (NN × NN) :=
  if k.across = true then
    let h := ((g.getD 0 []).length) / 2
    (g.flatMap fun line => (if k = .L then line.take h else line.drop h).flatMap fun s => s.map fun x => (x.c, x.r),
     g.flatMap fun line => (List.range ((line.getD h []).length)).map fun i => let x := (line.getD (h - 1) []).getD i ⟨0, 0, true, true⟩; let y := (line.getD h []).getD i ⟨0, 0, true, true⟩; ((x.c, x.r), (y.c, y.r)))
  else
    let h := g.length / 2
    ((if k = .T then g.take h else g.drop h).flatMap fun line => line.flatMap fun s => s.map fun x => (x.c, x.r),
     (List.range ((g.getD 0 []).length)).flatMap fun c => (List.range (((g.getD h []).getD c []).length)).map fun i => let x := ((g.getD (h - 1) []).getD c []).getD i ⟨0, 0, true, true⟩; let y := ((g.getD h []).getD c []).getD i ⟨0, 0, true, true⟩; ((x.c, x.r), (y.c, y.r)))
abbrev Fd := List ((NN × NN) × Option Lt)
def upd1 (p : NN × NN) (e : Option Lt) (f : Fd) : Fd := if f.any (fun x => x.1 == p) = true then f.map (fun x => if x.1 == p then (x.1, e) else x) else f ++ [(p, e)]
def get1 (p : NN × NN) (f : Fd) : Option Lt := ((f.find? fun x => x.1 == p).map (·.2)).getD none
def turnF (k : Lt) (t : List NN) : List (NN × NN) → Fd → Fd
  | [], f => f
  | p :: ps, f => turnF k t ps (if p.1 ∈ t then upd1 p (turnE k (get1 p f)) f else f)
def putF (k : Lt) : List (NN × NN) → Fd → Fd
  | [], f => f
  | p :: ps, f => putF k ps (upd1 p (some k) f)
def fstep (g : Grid) (k : Lt) (f : Fd) : Fd := putF k (partsM g k).2 (turnF k (partsM g k).1 (f.map (·.1)) f)
def foundM (l : List Lt) : Nat → Fd
  | 0 => []
  | i + 1 => match l[i]? with
    | some k => fstep (stAt l i) k (foundM l i)
    | none => foundM l i
def rowsL (l : List Lt) : List Row := (foundM l l.length).map fun x => row ((pan l).idxOf x.1.1) ((pan l).idxOf x.1.2) x.2
def lt3 (a b : Row) : Bool := decide (a.1 < b.1) || (decide (a.1 = b.1) && decide (a.2.1 < b.2.1))
def insR (x : Row) : List Row → List Row
  | [] => [x]
  | y :: ys => if lt3 x y = true then x :: y :: ys else y :: insR x ys
def isort : List Row → List Row
  | [] => []
  | x :: xs => insR x (isort xs)
def asc : List Row → Bool
  | [] => true
  | x :: xs => xs.all (fun y => lt3 x y) && asc xs
def sortedM (l : List Lt) : List Row := isort (rowsP l)
def leftAt (S : List Row) (k : Nat) : Bool := S.any fun r => r.2.2 == some .L && (r.1 == k || r.2.1 == k)
def bounds (l : List Lt) : Bool := (rowsP l).all fun r => decide (r.2.2 ≠ none)
def hasAll (l : List Lt) : Bool := (foundM l l.length).all fun x => decide (x.1.1 ∈ pan l ∧ x.1.2 ∈ pan l ∧ x.2 ≠ none)
def lastL (l : List Lt) : Bool := match l.getLast? with
  | some .L => (List.range (2 ^ l.length)).all (fun k => leftAt (sortedM l) k) && (List.range (2 ^ l.length / 2)).all fun k => decide ((k, 2 ^ l.length - 1 - k, some Lt.L) ∈ sortedM l)
  | _ => true
def good (l : List Lt) : Bool := decide (isort (rowsL l) = sortedM l) && asc (sortedM l) && bounds l && hasAll l && lastL l
theorem good1 : ∀ l ∈ words 1 ++ words 2 ++ words 3, good l = true := by decide +kernel
end EM
namespace EM
open FM
theorem g4LL : ∀ w ∈ words 2, good (.L :: .L :: w) = true := by decide +kernel
theorem g4LR : ∀ w ∈ words 2, good (.L :: .R :: w) = true := by decide +kernel
theorem g4LT : ∀ w ∈ words 2, good (.L :: .T :: w) = true := by decide +kernel
theorem g4LB : ∀ w ∈ words 2, good (.L :: .B :: w) = true := by decide +kernel
theorem g4RL : ∀ w ∈ words 2, good (.R :: .L :: w) = true := by decide +kernel
theorem g4RR : ∀ w ∈ words 2, good (.R :: .R :: w) = true := by decide +kernel
theorem g4RT : ∀ w ∈ words 2, good (.R :: .T :: w) = true := by decide +kernel
theorem g4RB : ∀ w ∈ words 2, good (.R :: .B :: w) = true := by decide +kernel
theorem g4TL : ∀ w ∈ words 2, good (.T :: .L :: w) = true := by decide +kernel
theorem g4TR : ∀ w ∈ words 2, good (.T :: .R :: w) = true := by decide +kernel
theorem g4TT : ∀ w ∈ words 2, good (.T :: .T :: w) = true := by decide +kernel
theorem g4TB : ∀ w ∈ words 2, good (.T :: .B :: w) = true := by decide +kernel
theorem g4BL : ∀ w ∈ words 2, good (.B :: .L :: w) = true := by decide +kernel
theorem g4BR : ∀ w ∈ words 2, good (.B :: .R :: w) = true := by decide +kernel
theorem g4BT : ∀ w ∈ words 2, good (.B :: .T :: w) = true := by decide +kernel
theorem g4BB : ∀ w ∈ words 2, good (.B :: .B :: w) = true := by decide +kernel
theorem all_good {l : List Lt} (h1 : 1 ≤ l.length) (h4 : l.length ≤ 4) : good l = true := by
  match l, h1, h4 with
  | [a], _, _ => exact good1 _ (List.mem_append_left _ (List.mem_append_left _ (mem_words [a])))
  | [a, b], _, _ => exact good1 _ (List.mem_append_left _ (List.mem_append_right _ (mem_words [a, b])))
  | [a, b, c], _, _ => exact good1 _ (List.mem_append_right _ (mem_words [a, b, c]))
  | [a, b, c, d], _, _ =>
    cases a <;> cases b
    · exact g4LL _ (mem_words [c, d])
    · exact g4LR _ (mem_words [c, d])
    · exact g4LT _ (mem_words [c, d])
    · exact g4LB _ (mem_words [c, d])
    · exact g4RL _ (mem_words [c, d])
    · exact g4RR _ (mem_words [c, d])
    · exact g4RT _ (mem_words [c, d])
    · exact g4RB _ (mem_words [c, d])
    · exact g4TL _ (mem_words [c, d])
    · exact g4TR _ (mem_words [c, d])
    · exact g4TT _ (mem_words [c, d])
    · exact g4TB _ (mem_words [c, d])
    · exact g4BL _ (mem_words [c, d])
    · exact g4BR _ (mem_words [c, d])
    · exact g4BT _ (mem_words [c, d])
    · exact g4BB _ (mem_words [c, d])
end EM
namespace DL
open PySem PySem.Spec PyProof.Rows L2
theorem sort_to {α : Type} {enc : α → PyData} {Y xs : List α} (perm : Y.Perm xs) (pw : Y.Pairwise fun a b => PySem.W.dataLt (enc a) (enc b) = true ∧ PySem.W.dataLt (enc b) (enc a) = false) : (xs.map enc).mergeSort (PySem.W.dataLe false id) = Y.map enc := by
  have T := PySem.W.sortLe_total (PyProof.Rows.listOrd PyProof.Rows.itemOrd) false fun b : PyData => PySem.W.keyToks b
  have le : ∀ a b : PyData, PySem.W.dataLe false id a b = !PySem.W.dataLt b a := fun a b => rfl
  refine List.Perm.eq_of_pairwise (le := fun a b => PySem.W.dataLe false id a b = true) (fun a b ha hb h1 h2 => ?_) ?_ ?_ ?_
  · have ha : a ∈ xs.map enc := List.mem_mergeSort.mp ha
    obtain ⟨x, hx, rfl⟩ := List.mem_map.mp ha
    obtain ⟨y, hy, rfl⟩ := List.mem_map.mp hb
    have hx : x ∈ Y := perm.mem_iff.mpr hx
    obtain ⟨i, hi, rfl⟩ := List.mem_iff_getElem.mp hx
    obtain ⟨j, hj, rfl⟩ := List.mem_iff_getElem.mp hy
    rw [le] at h1 h2
    have P := List.pairwise_iff_getElem.mp pw
    rcases Nat.lt_trichotomy i j with c | c | c
    · have := (P i j hi hj c).1
      rw [this] at h2; cases h2
    · subst c; rfl
    · have := (P j i hj hi c).1
      rw [this] at h1; cases h1
  · exact List.pairwise_mergeSort (fun a b c => T.trans a b c) (fun a b => by have := T.total a b; rw [Bool.or_eq_true]; exact this) _
  · rw [List.pairwise_map]
    exact pw.imp fun h => by rw [le, h.2]; rfl
  · exact (List.mergeSort_perm _ _).trans (perm.map enc).symm
theorem sortP_to {α : Type} {e : α → D} {enc : α → PyData} {Y xs : List α} {x : D} {ah : AH} (h1 : seqD ah x = some (false, xs.map e)) (dt : ∀ x, dat (e x) = some (enc x)) (al : ∀ x y, PySem.W.alike (enc x) (enc y) = true) (sh : PySem.W.Sortable (xs.map enc)) (dp : ∀ x, (enc x).depth ≤ 40)
    (perm : Y.Perm xs) (pw : Y.Pairwise fun a b => PySem.W.dataLt (enc a) (enc b) = true ∧ PySem.W.dataLt (enc b) (enc a) = false) : oSortP [x] ah = .ok (.lst (Y.map e)) ah := by
  rw [sortP_eq h1 (datL_map dt xs) (PySem.W.AllAlike.of al) sh (fun q hq => by obtain ⟨x, _, rfl⟩ := List.mem_map.mp hq; exact dp x), sort_to perm pw, List.map_map]
  exact congrArg (fun l => Res.ok (D.lst l) ah) (List.map_congr_left fun x _ => (dat_py _ (dt x)).2)
end DL
namespace DL
open PySem PySem.Spec PyProof.Rows L2
theorem keyN_nk {d : D} {k : NestedKey} (e : keyN d = some k) : nkD d = some k := by
  unfold keyN at e
  split at e
  · rename_i k' e1
    split at e
    · cases e
      unfold tupK at e1
      split at e1
      · simp only [nkD]; exact e1
      · simp only [nkD]; exact e1
      · cases e1
    · cases e
  · cases e
theorem lkN_map {α : Type} {kD vD : α → D} {nk : α → NestedKey} {q : NestedKey} : ∀ {xs : List α}, (∀ x ∈ xs, nkD (kD x) = some (nk x)) → lkN (xs.map kD) (xs.map vD) q = (xs.find? fun x => decide (nk x = q)).map vD
  | [], _ => rfl
  | x :: xs, h => by
    rw [List.map_cons, List.map_cons, List.find?_cons]
    unfold lkN
    rw [h x List.mem_cons_self]
    by_cases c : nk x = q
    · rw [if_pos (congrArg some c), decide_eq_true c]; rfl
    · rw [if_neg (fun z => c (Option.some.inj z)), decide_eq_false c, lkN_map fun y hy => h y (List.mem_cons_of_mem _ hy)]
theorem ptN_map {α : Type} {kD vD : α → D} {nk : α → NestedKey} {q : NestedKey} {d : D} : ∀ {xs : List α}, (∀ x ∈ xs, nkD (kD x) = some (nk x)) → ptN (xs.map kD) (xs.map vD) q d = xs.map fun x => if nk x = q then d else vD x
  | [], _ => rfl
  | x :: xs, h => by
    rw [List.map_cons, List.map_cons, List.map_cons]
    unfold ptN
    rw [h x List.mem_cons_self, ptN_map fun y hy => h y (List.mem_cons_of_mem _ hy)]
    by_cases c : nk x = q
    · rw [if_pos (congrArg some c), if_pos c]
    · rw [if_neg (fun z => c (Option.some.inj z)), if_neg c]
theorem stN_new {ks ds : List D} {q d : D} {k : NestedKey} (h : lkN ks ds k = none) : stN ks ds q k d = (ks ++ [q], ds ++ [d]) := by
  unfold stN
  rw [h]
  rfl
theorem stN_old {ks ds : List D} {q d e : D} {k : NestedKey} (h : lkN ks ds k = some e) : stN ks ds q k d = (ks, ptN ks ds k d) := by
  unfold stN
  rw [h]
  rfl
section
variable {n : Nat} {a : AH} {ks ds : List D} {x d : D} {k : NestedKey}
theorem in_nx {b : Bool} (h : a[n]? = some (.dx ks ds)) (hk : keyN x = some k) (hb : (lkN ks ds k).isSome = b) : oNxIn false x (.ref n) a = .ok (.bl b) a := by
  unfold oNxIn dxD
  simp only [h, hk, hb, Bool.false_xor]
theorem notin_nx {b : Bool} (h : a[n]? = some (.dx ks ds)) (hk : keyN x = some k) (hb : (lkN ks ds k).isSome = b) : oNxIn true x (.ref n) a = .ok (.bl (!b)) a := by
  unfold oNxIn dxD
  simp only [h, hk, hb, Bool.true_xor]
theorem get_nx (h : a[n]? = some (.dx ks ds)) (hk : keyN x = some k) (hd : lkN ks ds k = some d) : oNxGet (.ref n) x a = .ok d a := by
  unfold oNxGet dxD
  simp only [h, hk, hd]
theorem list_nx (h : a[n]? = some (.dx ks ds)) : oListN [.ref n] a = .ok (.lst ks) a := by
  unfold oListN dxD
  simp only [h]
theorem put_nx (h : a[n]? = some (.dx ks ds)) (hk : keyN x = some k) (hl : ks.length < sizeLine) : putN (.ref n) x d a = some (a.set n (.dx (stN ks ds x k d).1 (stN ks ds x k d).2)) := by
  unfold putN
  simp only [h, hk, if_pos hl]
end
theorem ePutN {fo fx f : FE} {env : AE} {ah a1 a2 a3 a4 : AH} {d x y : D} (h1 : f env ah = .ok d a1) (h2 : fo env a1 = .ok x a2) (h3 : fx env a2 = .ok y a3) (h4 : putN x y d a3 = some a4) : sPutN fo fx f env ah = .ok (.nx, env) a4 := by
  unfold sPutN
  rw [h1, Res.bind_ok, h2, Res.bind_ok, h3, Res.bind_ok, h4]
theorem eDcN {fi : FI} {g : D → AE → Option AE} {t : FT} {fk fv : FE} {vs : List Nat} {env : AE} {ah a1 a2 : AH} {ds ks xs : List D} (h1 : fi env ah = .ok ds a1) (h2 : compN g t fk fv (wipeA env vs) ds ([], []) a1 = .ok (ks, xs) a2) : iDcN fi g t fk fv vs env ah = .ok (.ref a2.length) (a2 ++ [.dx ks xs]) := by
  unfold iDcN
  rw [h1, Res.bind_ok, h2, Res.bind_ok]
  rfl
theorem compN_cons {g : D → AE → Option AE} {t : FT} {fk fv : FE} {env env1 : AE} {d k x : D} {ds : List D} {acc : List D × List D} {ah : AH} {q : NestedKey} (h1 : g d env = some env1) (h2 : t env1 ah = .ok true ah) (h3 : fk env1 ah = .ok k ah) (h4 : fv env1 ah = .ok x ah) (hq : keyN k = some q) (hl : acc.1.length < sizeLine) :
    compN g t fk fv env (d :: ds) acc ah = compN g t fk fv env ds (stN acc.1 acc.2 k q x) ah := by
  rw [compN]
  simp only [h1, h2, h3, h4, Res.nox_ok, Res.bind_ok, if_true, hq, if_pos hl]
theorem sort_two {i j : Nat} {ah : AH} (h : i ≠ j) : oSortP [.lst [dI i, dI j]] ah = .ok (.lst [dI (min i j), dI (max i j)]) ah := by
  have lt : ∀ a b : Nat, PySem.W.dataLt (.int (a : Int)) (.int (b : Int)) = decide (a < b) := fun a b => by
    rw [PySem.W.dataLt_int, decide_eq_decide]; omega
  refine sortP_to (e := dI) (enc := fun n : Nat => .int (n : Int)) (xs := [i, j]) (Y := [min i j, max i j]) rfl (fun x => by simp only [dI, dat]) (fun x y => by simp only [PySem.W.alike]) (.inr fun d hd => ?_) (fun x => by simp [PyData.depth]) ?_ ?_
  · obtain ⟨x, _, rfl⟩ := List.mem_map.mp hd
    exact ⟨(fun z => by cases z), fun xs z => by cases z⟩
  · by_cases c : i ≤ j
    · rw [Nat.min_eq_left c, Nat.max_eq_right c]
    · rw [Nat.min_eq_right (by omega), Nat.max_eq_left (by omega)]; exact List.Perm.swap i j []
  · refine List.pairwise_cons.mpr ⟨fun b hb => ?_, List.pairwise_singleton _ _⟩
    rw [List.mem_singleton.mp hb, lt, lt, decide_eq_true (by omega), decide_eq_false (by omega)]
    exact ⟨rfl, rfl⟩
end DL
set_option maxHeartbeats 1500000
noncomputable section
namespace K10
open PySem PySem.Spec PyProof.Rows L2 DL FM
def topS (i : Nat) : Stmt := PySem.Challenge.pw_gathersheets_k10_edges_exact.main.body.getD i (.Pass ⟨0, 0, 0, 0⟩)
abbrev s__flat_row : Stmt := topS 7
abbrev s__flat_sheet : Stmt := topS 6
abbrev s_sheet_size : Stmt := topS 3
abbrev s__meeting : Stmt := topS 10
abbrev s__turned_leaf : Stmt := topS 13
abbrev s__turned : Stmt := topS 12
abbrev s__laid_on : Stmt := topS 11
abbrev s__folded_across : Stmt := topS 8
abbrev s__folded_down : Stmt := topS 9
abbrev s_states : Stmt := topS 5
abbrev s_fold : Stmt := topS 4
abbrev s__law_cell : Stmt := topS 25
abbrev s__law_digits : Stmt := topS 28
abbrev s__law_draw : Stmt := topS 29
abbrev s__law_folding : Stmt := topS 31
abbrev s__law_size : Stmt := topS 32
abbrev s__law_over : Stmt := topS 33
abbrev s__law_folded : Stmt := topS 34
abbrev s__law_states : Stmt := topS 35
abbrev s__law_parts : Stmt := topS 38
abbrev s__law_turned_edge : Stmt := topS 37
abbrev s__law_joints : Stmt := topS 39
abbrev s__law_same : Stmt := topS 27
abbrev s__moved : Stmt := topS 22
abbrev s__path : Stmt := topS 21
abbrev s__edge : Stmt := topS 20
abbrev s_joints : Stmt := topS 18
abbrev s_loose_leaves : Stmt := topS 19
abbrev s_law : Stmt := topS 40
def c_OTHER_FACE : D := (.cd [⟨#[102, 114, 111, 110, 116]⟩, ⟨#[98, 97, 99, 107]⟩] [(.str ⟨#[98, 97, 99, 107]⟩), (.str ⟨#[102, 114, 111, 110, 116]⟩)])
def c_OTHER_HEAD : D := (.cd [⟨#[117, 112]⟩, ⟨#[100, 111, 119, 110]⟩] [(.str ⟨#[100, 111, 119, 110]⟩), (.str ⟨#[117, 112]⟩)])
def c_EDGES : D := (.cd [⟨#[76]⟩, ⟨#[82]⟩, ⟨#[84]⟩, ⟨#[66]⟩] [(.str ⟨#[108, 101, 102, 116]⟩), (.str ⟨#[114, 105, 103, 104, 116]⟩), (.str ⟨#[116, 111, 112]⟩), (.str ⟨#[98, 111, 116, 116, 111, 109]⟩)])
def c_BY_SIDES : D := (.cd [⟨#[108, 101, 102, 116]⟩, ⟨#[114, 105, 103, 104, 116]⟩] [(.str ⟨#[114, 105, 103, 104, 116]⟩), (.str ⟨#[108, 101, 102, 116]⟩)])
def c_BY_ENDS : D := (.cd [⟨#[116, 111, 112]⟩, ⟨#[98, 111, 116, 116, 111, 109]⟩] [(.str ⟨#[98, 111, 116, 116, 111, 109]⟩), (.str ⟨#[116, 111, 112]⟩)])
def kv_BY_ENDS : List (Str × Lit) := [(⟨#[116, 111, 112]⟩, .str ⟨#[98, 111, 116, 116, 111, 109]⟩), (⟨#[98, 111, 116, 116, 111, 109]⟩, .str ⟨#[116, 111, 112]⟩)]
def kv_BY_SIDES : List (Str × Lit) := [(⟨#[108, 101, 102, 116]⟩, .str ⟨#[114, 105, 103, 104, 116]⟩), (⟨#[114, 105, 103, 104, 116]⟩, .str ⟨#[108, 101, 102, 116]⟩)]
/-- what stands in the module -/
structure Mods (w : World) (K : PySem.W.Frag) (mg : Str → Option Value) : Prop where
  nb_enumerate : mg "enumerate" = none
  nb_int : mg "int" = none
  nb_len : mg "len" = none
  nb_list : mg "list" = none
  nb_range : mg "range" = none
  nb_repr : mg "repr" = none
  nb_reversed : mg "reversed" = none
  nb_sorted : mg "sorted" = none
  nb_tuple : mg "tuple" = none
  nb_zip : mg "zip" = none
  k_OTHER_FACE : KonOk w K mg "OTHER_FACE" c_OTHER_FACE
  k_OTHER_HEAD : KonOk w K mg "OTHER_HEAD" c_OTHER_HEAD
  k_EDGES : KonOk w K mg "EDGES" c_EDGES
  k_BY_SIDES : KonOk w K mg "BY_SIDES" c_BY_SIDES
  k_BY_ENDS : KonOk w K mg "BY_ENDS" c_BY_ENDS
  d_BY_ENDS : DctE w K (He.ga K "BY_ENDS") kv_BY_ENDS
  m_BY_ENDS : mg "BY_ENDS" = some (.ref (He.ga K "BY_ENDS"))
  d_BY_SIDES : DctE w K (He.ga K "BY_SIDES") kv_BY_SIDES
  m_BY_SIDES : mg "BY_SIDES" = some (.ref (He.ga K "BY_SIDES"))
  f__flat_row : ∃ f fd, Fun K "_flat_row" "_flat_row" s__flat_row f fd ∧ mg "_flat_row" = some (.ref f) ∧ Binds K fd ["columns", "row"] []
  f__flat_sheet : ∃ f fd, Fun K "_flat_sheet" "_flat_sheet" s__flat_sheet f fd ∧ mg "_flat_sheet" = some (.ref f) ∧ Binds K fd ["size"] []
  f_sheet_size : ∃ f fd, Fun K "sheet_size" "sheet_size" s_sheet_size f fd ∧ mg "sheet_size" = some (.ref f) ∧ Binds K fd ["folding"] []
  f__meeting : ∃ f fd, Fun K "_meeting" "_meeting" s__meeting f fd ∧ mg "_meeting" = some (.ref f) ∧ Binds K fd ["letter", "many"] []
  f__turned_leaf : ∃ f fd, Fun K "_turned_leaf" "_turned_leaf" s__turned_leaf f fd ∧ mg "_turned_leaf" = some (.ref f) ∧ Binds K fd ["leaf", "letter"] []
  f__turned : ∃ f fd, Fun K "_turned" "_turned" s__turned f fd ∧ mg "_turned" = some (.ref f) ∧ Binds K fd ["stack", "letter"] []
  f__laid_on : ∃ f fd, Fun K "_laid_on" "_laid_on" s__laid_on f fd ∧ mg "_laid_on" = some (.ref f) ∧ Binds K fd ["over", "under", "letter"] []
  f__folded_across : ∃ f fd, Fun K "_folded_across" "_folded_across" s__folded_across f fd ∧ mg "_folded_across" = some (.ref f) ∧ Binds K fd ["rows", "letter"] []
  f__folded_down : ∃ f fd, Fun K "_folded_down" "_folded_down" s__folded_down f fd ∧ mg "_folded_down" = some (.ref f) ∧ Binds K fd ["rows", "letter"] []
  f_states : ∃ f fd, Fun K "states" "states" s_states f fd ∧ mg "states" = some (.ref f) ∧ Binds K fd ["folding"] []
  f_fold : ∃ f fd, Fun K "fold" "fold" s_fold f fd ∧ mg "fold" = some (.ref f) ∧ Binds K fd ["folding"] []
  f__law_cell : ∃ f fd, Fun K "_law_cell" "_law_cell" s__law_cell f fd ∧ mg "_law_cell" = some (.ref f) ∧ Binds K fd ["script", "k"] []
  f__law_digits : ∃ f fd, Fun K "_law_digits" "_law_digits" s__law_digits f fd ∧ mg "_law_digits" = some (.ref f) ∧ Binds K fd ["script", "first", "last"] []
  f__law_draw : ∃ f fd, Fun K "_law_draw" "_law_draw" s__law_draw f fd ∧ mg "_law_draw" = some (.ref f) ∧ Binds K fd ["box", "many"] []
  f__law_folding : ∃ f fd, Fun K "_law_folding" "_law_folding" s__law_folding f fd ∧ mg "_law_folding" = some (.ref f) ∧ Binds K fd ["box"] []
  f__law_size : ∃ f fd, Fun K "_law_size" "_law_size" s__law_size f fd ∧ mg "_law_size" = some (.ref f) ∧ Binds K fd ["folding"] []
  f__law_over : ∃ f fd, Fun K "_law_over" "_law_over" s__law_over f fd ∧ mg "_law_over" = some (.ref f) ∧ Binds K fd ["stack", "is_across"] []
  f__law_folded : ∃ f fd, Fun K "_law_folded" "_law_folded" s__law_folded f fd ∧ mg "_law_folded" = some (.ref f) ∧ Binds K fd ["grid", "letter"] []
  f__law_states : ∃ f fd, Fun K "_law_states" "_law_states" s__law_states f fd ∧ mg "_law_states" = some (.ref f) ∧ Binds K fd ["folding"] []
  f__law_parts : ∃ f fd, Fun K "_law_parts" "_law_parts" s__law_parts f fd ∧ mg "_law_parts" = some (.ref f) ∧ Binds K fd ["grid", "letter"] []
  f__law_turned_edge : ∃ f fd, Fun K "_law_turned_edge" "_law_turned_edge" s__law_turned_edge f fd ∧ mg "_law_turned_edge" = some (.ref f) ∧ Binds K fd ["edge", "letter"] []
  f__law_joints : ∃ f fd, Fun K "_law_joints" "_law_joints" s__law_joints f fd ∧ mg "_law_joints" = some (.ref f) ∧ Binds K fd ["folding"] []
  f__law_same : ∃ f fd, Fun K "_law_same" "_law_same" s__law_same f fd ∧ mg "_law_same" = some (.ref f) ∧ Binds K fd ["actual", "due"] []
  f__moved : ∃ f fd, Fun K "_moved" "_moved" s__moved f fd ∧ mg "_moved" = some (.ref f) ∧ Binds K fd ["letter", "place", "half"] []
  f__path : ∃ f fd, Fun K "_path" "_path" s__path f fd ∧ mg "_path" = some (.ref f) ∧ Binds K fd ["folding", "panel"] []
  f__edge : ∃ f fd, Fun K "_edge" "_edge" s__edge f fd ∧ mg "_edge" = some (.ref f) ∧ Binds K fd ["folding", "panel", "other"] []
  f_joints : ∃ f fd, Fun K "joints" "joints" s_joints f fd ∧ mg "joints" = some (.ref f) ∧ Binds K fd ["folding"] []
  f_loose_leaves : ∃ f fd, Fun K "loose_leaves" "loose_leaves" s_loose_leaves f fd ∧ mg "loose_leaves" = some (.ref f) ∧ Binds K fd ["folding"] []
  f_law : ∃ f fd, Fun K "law" "law" s_law f fd ∧ mg "law" = some (.ref f) ∧ Binds K fd ["script"] []
variable {P : Program} {w : World} {K : PySem.W.Frag} {mg : Str → Option Value} {base : Heap}
theorem Mods.jc_OTHER_FACE (M : Mods w K mg) {X : Cx} {W : XW} {pos : Pos} (hg : Gl X "OTHER_FACE") (e1 : X.w = w := by rfl) (e2 : X.K = K := by rfl) (e3 : X.mg = mg := by rfl) : PE X (.Name "OTHER_FACE" pos) (SX X W (iK c_OTHER_FACE)) := M.k_OTHER_FACE.je hg e1 e2 e3
theorem Mods.jc_OTHER_HEAD (M : Mods w K mg) {X : Cx} {W : XW} {pos : Pos} (hg : Gl X "OTHER_HEAD") (e1 : X.w = w := by rfl) (e2 : X.K = K := by rfl) (e3 : X.mg = mg := by rfl) : PE X (.Name "OTHER_HEAD" pos) (SX X W (iK c_OTHER_HEAD)) := M.k_OTHER_HEAD.je hg e1 e2 e3
theorem Mods.jc_EDGES (M : Mods w K mg) {X : Cx} {W : XW} {pos : Pos} (hg : Gl X "EDGES") (e1 : X.w = w := by rfl) (e2 : X.K = K := by rfl) (e3 : X.mg = mg := by rfl) : PE X (.Name "EDGES" pos) (SX X W (iK c_EDGES)) := M.k_EDGES.je hg e1 e2 e3
theorem Mods.jc_BY_SIDES (M : Mods w K mg) {X : Cx} {W : XW} {pos : Pos} (hg : Gl X "BY_SIDES") (e1 : X.w = w := by rfl) (e2 : X.K = K := by rfl) (e3 : X.mg = mg := by rfl) : PE X (.Name "BY_SIDES" pos) (SX X W (iK c_BY_SIDES)) := M.k_BY_SIDES.je hg e1 e2 e3
theorem Mods.jc_BY_ENDS (M : Mods w K mg) {X : Cx} {W : XW} {pos : Pos} (hg : Gl X "BY_ENDS") (e1 : X.w = w := by rfl) (e2 : X.K = K := by rfl) (e3 : X.mg = mg := by rfl) : PE X (.Name "BY_ENDS" pos) (SX X W (iK c_BY_ENDS)) := M.k_BY_ENDS.je hg e1 e2 e3
theorem sc__flat_row : FnScope ["columns", "row", "column"] ["columns", "row"] (defScope s__flat_row) := ⟨rfl, rfl, rfl, by decide +kernel, rfl, by decide +kernel, by decide +kernel⟩
abbrev E1__flat_row : FE := (iCall oTup [(iCall oTup [(iVar 2), (iVar 1), (iC (.str ⟨#[102, 114, 111, 110, 116]⟩)), (iC (.str ⟨#[117, 112]⟩))])])
def B__flat_row : FS :=
  (sRet (iCall oTuple [(iLc (iRange1 [(iVar 0)]) (ptB (.nm 2)) (fun _ ah => .ok true ah) E1__flat_row [2])]))
theorem raw__flat_row (M : Mods w K mg) : Ok1 P w K mg base "_flat_row" 1 ["columns", "row"] (iBody 3 B__flat_row) := by
  obtain ⟨f, fd, F, hm, hb⟩ := M.f__flat_row
  refine ⟨f, fd, hm, F.kp, hb, fn_ok (k := 0) F sc__flat_row fun cdv A outer s H E hr hn => ?_⟩
  have hu65 := room65 hr
  have hu1 := room1 hr
  exact (s_one (s_ret (j_callT call_tuple_of ok_tuple (by exact rfl) M.nb_tuple boot_tuple (a_cons (j_lc rfl sc__flat_row.nd (i_range1 (by exact rfl) M.nb_range (a_cons (j_var 0) a_nil)) (own := [(("column" : Str), 2)]) (blk_of (by kernel_rfl)) (by decide) (fun _ _ _ _ _ => (g_nm 2 sc__flat_row.nd)) (fun _ _ _ _ _ => c_nil) (fun _ _ _ _ _ => (j_tup (a_cons (j_tup (a_cons (j_var 2) (a_cons (j_var 1) (a_cons (j_str ⟨#[102, 114, 111, 110, 116]⟩ (by kernel_rfl)) (a_cons (j_str ⟨#[117, 112]⟩ (by kernel_rfl)) a_nil))))) a_nil)))) a_nil))))
abbrev dSt : Stack → D := dT dLf
abbrev dRow : List Stack → D := dT dSt
abbrev dGr : Grid → D := dT dRow
theorem inj_St : Inj dSt := inj_dT inj_Lf
theorem inj_Row : Inj dRow := inj_dT inj_St
theorem inj_Gr : Inj dGr := inj_dT inj_Row
theorem pure_Lf (x : FM.Leaf) : pureD (dLf x) = true := rfl
theorem pure_St (x : Stack) : pureD (dSt x) = true := pure_dT pure_Lf x
theorem pure_Row (x : List Stack) : pureD (dRow x) = true := pure_dT pure_St x
theorem pure_Gr (x : Grid) : pureD (dGr x) = true := pure_dT pure_Row x
def F__flat_row : List D → AH → Res D := specF (fun p : Nat × Nat => p.1 ≤ 4096) (fun p => [dI p.1, dI p.2]) fun p => dRow (flatRow p.1 p.2)
theorem F__flat_row_eq {cs r : Nat} {ah : AH} (h : cs ≤ 4096) : F__flat_row [dI cs, dI r] ah = .ok (dRow (flatRow cs r)) ah := specF_eq (x := (cs, r)) (fun x y e => by
  simp only [List.cons.injEq] at e
  rw [inj_dI _ _ e.1, inj_dI _ _ e.2.1]) h
theorem ok__flat_row (M : Mods w K mg) : Ok1 P w K mg base "_flat_row" 1 ["columns", "row"] F__flat_row := (raw__flat_row M).spec (fun _ _ => pure_Row _) fun ⟨cs, r⟩ ah h => ⟨[], by
  rw [List.append_nil]
  refine okd (u := .tup ([] ++ (List.range cs).map fun c => dSt [⟨c, r, true, true⟩])) (eBodyR (eRet (eCall (eA (eLc (eRg1 (eV rfl) h) (compL_map (fun x _ => ⟨_, rfl, rfl, ?_⟩) ?_)) eA0) oTuple_lst))) ?_
  · exact eCall (eA (eCall (eA (eV rfl) (eA (eV rfl) (eA eC (eA eC eA0)))) tup4) eA0) tup1
  · rw [List.length_range]; exact small (by have : cs ≤ 4096 := h; simp; omega)
  · simp [flatRow, dT]⟩
theorem sc__flat_sheet : FnScope ["size", "columns", "rows", "row"] ["size"] (defScope s__flat_sheet) := ⟨rfl, rfl, rfl, by decide +kernel, rfl, by decide +kernel, by decide +kernel⟩
abbrev E1__flat_sheet : FE := (iDef F__flat_row [(iVar 1), (iVar 3)])
def B__flat_sheet : FS :=
  (sSeq (sAsg (ptB (.tp [(.nm 1), (.nm 2)])) (iVar 0))
  (sRet (iCall oTuple [(iLc (iRange1 [(iVar 2)]) (ptB (.nm 3)) (fun _ ah => .ok true ah) E1__flat_sheet [3])])))
theorem raw__flat_sheet (M : Mods w K mg) (h__flat_row : Ok1 P w K mg base "_flat_row" 1 ["columns", "row"] F__flat_row) : Ok1 P w K mg base "_flat_sheet" 2 ["size"] (iBody 4 B__flat_sheet) := by
  obtain ⟨f, fd, F, hm, hb⟩ := M.f__flat_sheet
  refine ⟨f, fd, hm, F.kp, hb, fn_ok (k := 1) F sc__flat_sheet fun cdv A outer s H E hr hn => ?_⟩
  have hr_flat_row := hr.mono (j := 1) (by decide)
  have hu65 := room65 hr
  have hu1 := room1 hr
  exact (s_cons (s_asg (j_var 0) (g_tp rfl (gs_cons (g_nm 1 sc__flat_sheet.nd) (gs_cons (g_nm 2 sc__flat_sheet.nd) gs_nil))))
  (s_one (s_ret (j_callT call_tuple_of ok_tuple (by exact rfl) M.nb_tuple boot_tuple (a_cons (j_lc rfl sc__flat_sheet.nd (i_range1 (by exact rfl) M.nb_range (a_cons (j_var 2) a_nil)) (own := [(("row" : Str), 3)]) (blk_of (by kernel_rfl)) (by decide) (fun _ _ _ _ _ => (g_nm 3 sc__flat_sheet.nd)) (fun _ _ _ _ _ => c_nil) (fun _ _ _ _ _ => (h__flat_row.jd hr_flat_row hn (by exact rfl) rfl (a_cons (j_var 1) (a_cons (j_var 3) a_nil))))) a_nil)))))
def F__flat_sheet : List D → AH → Res D := specF (fun p : Nat × Nat => p.1 ≤ 4096 ∧ p.2 ≤ 4096) (fun p => [.tup [dI p.1, dI p.2]]) fun p => dGr (flatM p.1 p.2)
theorem F__flat_sheet_eq {cs rs : Nat} {ah : AH} (h1 : cs ≤ 4096) (h2 : rs ≤ 4096) : F__flat_sheet [.tup [dI cs, dI rs]] ah = .ok (dGr (flatM cs rs)) ah := specF_eq (x := (cs, rs)) (fun x y e => by
  simp only [List.cons.injEq, D.tup.injEq] at e
  rw [inj_dI _ _ e.1.1, inj_dI _ _ e.1.2.1]) ⟨h1, h2⟩
theorem ok__flat_sheet (M : Mods w K mg) : Ok1 P w K mg base "_flat_sheet" 2 ["size"] F__flat_sheet := (raw__flat_sheet M (ok__flat_row M)).spec (fun _ _ => pure_Gr _) fun ⟨cs, rs⟩ ah h => ⟨[], by
  have h1 : cs ≤ 4096 := h.1
  have h2 : rs ≤ 4096 := h.2
  rw [List.append_nil]
  refine okd (u := .tup ([] ++ (List.range rs).map fun r => dRow (flatRow cs r))) (eBodyR (eSeq (eAsg (eV rfl) rfl) (eRet (eCall (eA (eLc (eRg1 (eV rfl) h2) (compL_map (fun x _ => ⟨_, rfl, rfl, eDef (eA (eV rfl) (eA (eV rfl) eA0)) (F__flat_row_eq h1)⟩) ?_)) eA0) oTuple_lst)))) ?_
  · rw [List.length_range]; exact small (by simp; omega)
  · simp [flatM, dT]⟩
theorem sc_sheet_size : FnScope ["folding", "across"] ["folding"] (defScope s_sheet_size) := ⟨rfl, rfl, rfl, by decide +kernel, rfl, by decide +kernel, by decide +kernel⟩
def B_sheet_size : FS :=
  (sSeq (sAsg (ptB (.nm 1)) (iBin oAdd (iCount (iVar 0) (iC (.str ⟨#[76]⟩))) (iCount (iVar 0) (iC (.str ⟨#[82]⟩)))))
  (sRet (iCall oTup [(iBin oShl (iC (.int 1)) (iVar 1)), (iBin oShl (iC (.int 1)) (iBin oSub (iCall oLen [(iVar 0)]) (iVar 1)))])))
theorem raw_sheet_size (M : Mods w K mg) : Ok1 P w K mg base "sheet_size" 1 ["folding"] (iBody 2 B_sheet_size) := by
  obtain ⟨f, fd, F, hm, hb⟩ := M.f_sheet_size
  refine ⟨f, fd, hm, F.kp, hb, fn_ok (k := 0) F sc_sheet_size fun cdv A outer s H E hr hn => ?_⟩
  have hu65 := room65 hr
  have hu1 := room1 hr
  exact (s_cons (s_set 1 sc_sheet_size.nd (j_bin op_addA ok_add (j_count (j_var 0) (j_str ⟨#[76]⟩ (by kernel_rfl))) (j_count (j_var 0) (j_str ⟨#[82]⟩ (by kernel_rfl)))))
  (s_one (s_ret (j_tup (a_cons (j_bin op_shl ok_i j_int (j_var 1)) (a_cons (j_bin op_shl ok_i j_int (j_bin op_sub ok_sub (j_callB call_lenA ok_len (by exact rfl) M.nb_len boot_len (a_cons (j_var 0) a_nil)) (j_var 1))) a_nil))))))
theorem cnt_code (l : List Lt) : cnt 76 (l.map Lt.code) + cnt 82 (l.map Lt.code) = ((acrossM l : Nat) : Int) := by
  induction l with
  | nil => rfl
  | cons c l ih =>
    rw [List.map_cons, cnt_cons, cnt_cons]
    have e : acrossM (c :: l) = (if c.across then 1 else 0) + acrossM l := by
      cases hc : c.across <;> simp [acrossM, hc, Nat.add_comm]
    rw [e]
    cases c <;> simp [Lt.code, Lt.across] <;> omega
theorem fs_len (l : List Lt) : (fs l).length = l.length := by simp [fs, PySem.Str.length]
def F_sheet_size : List D → AH → Res D := specF (fun l : List Lt => l.length ≤ 64) (fun l => [.str (fs l)]) fun l => .tup [dI (sizeM l).1, dI (sizeM l).2]
theorem F_sheet_size_eq {l : List Lt} {ah : AH} (h : l.length ≤ 64) : F_sheet_size [.str (fs l)] ah = .ok (.tup [dI (sizeM l).1, dI (sizeM l).2]) ah := specF_eq (x := l) (fun x y e => by
  simp only [List.cons.injEq, D.str.injEq] at e
  rw [fs_inj e.1]) h
theorem eCount {fo f : FE} {env : AE} {ah a1 a2 : AH} {a b : Str} (h1 : fo env ah = .ok (.str a) a1) (h2 : f env a1 = .ok (.str b) a2) : iCount fo f env ah = .ok (.int (Txt.count a b)) a2 := by
  unfold iCount iM1
  rw [h1, Res.bind_ok]
  simp only
  rw [h2, Res.bind_ok]
  rfl
theorem ok_sheet_size (M : Mods w K mg) : Ok1 P w K mg base "sheet_size" 1 ["folding"] F_sheet_size := (raw_sheet_size M).spec (fun _ _ => rfl) fun l ah h => ⟨[], by
  have h : l.length ≤ 64 := h
  have le : acrossM l ≤ l.length := List.length_filter_le _ _
  have e1 : Txt.count (fs l) ⟨#[76]⟩ + Txt.count (fs l) ⟨#[82]⟩ = ((acrossM l : Nat) : Int) := by rw [count_cnt, count_cnt]; exact cnt_code l
  have e2 : oLen [.str (fs l)] ah = .ok (.int ((l.length : Nat) : Int)) ah := by
    unfold oLen
    simp only [fs_len]
    rw [if_pos (small (by omega))]
  have e3 : ((l.length : Nat) : Int) - ((acrossM l : Nat) : Int) = ((l.length - acrossM l : Nat) : Int) := by omega
  rw [List.append_nil]
  refine eBodyR (eSeq (eAsg (eBin (eCount (eV rfl) eC) (eCount (eV rfl) eC) (by rw [oAdd_int, e1])) rfl) (eRet (eCall (eA (eBin eC (eV rfl) (oShl1 (by omega))) (eA (eBin eC (eBin (eCall (eA (eV rfl) eA0) e2) (eV rfl) (by rw [oSub_int, e3])) (oShl1 (by omega))) eA0)) tup2)))⟩
theorem sc__meeting : FnScope ["letter", "many", "half", "place"] ["letter", "many"] (defScope s__meeting) := ⟨rfl, rfl, rfl, by decide +kernel, rfl, by decide +kernel, by decide +kernel⟩
abbrev E1__meeting : FE := (iCall oTup [(iBin oSub (iBin oSub (iVar 2) (iC (.int 1))) (iVar 3)), (iBin oAdd (iVar 2) (iVar 3))])
abbrev E2__meeting : FE := (iCall oTup [(iBin oSub (iBin oSub (iVar 1) (iC (.int 1))) (iVar 3)), (iVar 3)])
def B__meeting : FS :=
  (sSeq (sAsg (ptB (.nm 2)) (iBin oDiv (iVar 1) (iC (.int 2))))
  (sSeq (sIf (iTr (iBin oIn (iVar 0) (iC (.str ⟨#[76, 84]⟩)))) (sRet (iLc (iRange1 [(iVar 2)]) (ptB (.nm 3)) (fun _ ah => .ok true ah) E1__meeting [3])) sNx)
  (sRet (iLc (iRange1 [(iVar 2)]) (ptB (.nm 3)) (fun _ ah => .ok true ah) E2__meeting [3]))))
theorem raw__meeting (M : Mods w K mg) : Ok1 P w K mg base "_meeting" 1 ["letter", "many"] (iBody 4 B__meeting) := by
  obtain ⟨f, fd, F, hm, hb⟩ := M.f__meeting
  refine ⟨f, fd, hm, F.kp, hb, fn_ok (k := 0) F sc__meeting fun cdv A outer s H E hr hn => ?_⟩
  have hu65 := room65 hr
  have hu1 := room1 hr
  exact (s_cons (s_set 2 sc__meeting.nd (j_bin op_fdiv ok_i (j_var 1) j_int))
  (s_cons (s_if (t_cmp (j_pc (op_inA hu65) ok_in (j_var 0) (j_str ⟨#[76, 84]⟩ (by kernel_rfl)))) (s_one (s_ret (j_lc rfl sc__meeting.nd (i_range1 (by exact rfl) M.nb_range (a_cons (j_var 2) a_nil)) (own := [(("place" : Str), 3)]) (blk_of (by kernel_rfl)) (by decide) (fun _ _ _ _ _ => (g_nm 3 sc__meeting.nd)) (fun _ _ _ _ _ => c_nil) (fun _ _ _ _ _ => (j_tup (a_cons (j_bin op_sub ok_sub (j_bin op_sub ok_sub (j_var 2) j_int) (j_var 3)) (a_cons (j_bin op_addA ok_add (j_var 2) (j_var 3)) a_nil))))))) s_nil)
  (s_one (s_ret (j_lc rfl sc__meeting.nd (i_range1 (by exact rfl) M.nb_range (a_cons (j_var 2) a_nil)) (own := [(("place" : Str), 3)]) (blk_of (by kernel_rfl)) (by decide) (fun _ _ _ _ _ => (g_nm 3 sc__meeting.nd)) (fun _ _ _ _ _ => c_nil) (fun _ _ _ _ _ => (j_tup (a_cons (j_bin op_sub ok_sub (j_bin op_sub ok_sub (j_var 1) j_int) (j_var 3)) (a_cons (j_var 3) a_nil)))))))))
def dPr (p : Nat × Nat) : D := .tup [dI p.1, dI p.2]
theorem pure_Pr (p : Nat × Nat) : pureD (dPr p) = true := rfl
def F__meeting : List D → AH → Res D := specF (fun p : Lt × Nat => p.2 ≤ 4096) (fun p => [.str (ls p.1), dI p.2]) fun p => dL dPr (pairsM p.1.near p.2)
theorem F__meeting_eq {c : Lt} {n : Nat} {ah : AH} (h : n ≤ 4096) : F__meeting [.str (ls c), dI n] ah = .ok (dL dPr (pairsM c.near n)) ah := specF_eq (x := (c, n)) (fun x y e => by
  simp only [List.cons.injEq, D.str.injEq] at e
  rw [ls_inj e.1, inj_dI _ _ e.2.1]) h
theorem in_LT (c : Lt) (ah : AH) : oIn (.str (ls c)) (.str ⟨#[76, 84]⟩) ah = .ok (.bl c.near) ah := by cases c <;> rfl
theorem in_TB (c : Lt) (ah : AH) : oIn (.str (ls c)) (.str ⟨#[84, 66]⟩) ah = .ok (.bl (!c.across)) ah := by cases c <;> rfl
theorem in_LR (c : Lt) (ah : AH) : oIn (.str (ls c)) (.str ⟨#[76, 82]⟩) ah = .ok (.bl c.across) ah := by cases c <;> rfl
theorem div2 {n : Nat} {ah : AH} : oDiv (.int (n : Int)) (.int 2) ah = .ok (.int ((n / 2 : Nat) : Int)) ah := by rw [oDiv_int (by decide)]; rfl
theorem dIe {i : Int} {n : Nat} (h : i = (n : Int)) : D.int i = dI n := by rw [h]; rfl
theorem ok__meeting (M : Mods w K mg) : Ok1 P w K mg base "_meeting" 1 ["letter", "many"] F__meeting := (raw__meeting M).spec (fun _ _ => pure_dL pure_Pr _) fun ⟨c, n⟩ ah h => ⟨[], by
  have h : n ≤ 4096 := h
  have hh : n / 2 ≤ 4096 := by omega
  have sz : ([] : List D).length + (List.range (n / 2)).length ≤ sizeLine := by rw [List.length_range]; exact small (by simp; omega)
  rw [List.append_nil]
  cases hn : c.near with
  | true =>
    refine okd (u := .lst ([] ++ (List.range (n / 2)).map fun i => dPr (n / 2 - 1 - i, n / 2 + i))) (eBodyR (eSeq (eAsg (eBin (eV rfl) eC div2) rfl) (eSeqR (eSIfT (eTr (eBin (eV rfl) eC (by rw [in_LT, hn]))) (eRet (eLc (eRg1 (eV rfl) hh) (compL_map (fun x hx => ⟨_, rfl, rfl, ?_⟩) sz))))))) ?_
    · have := List.mem_range.mp hx
      refine okd (eCall (eA (eBin (eBin (eV (d := .int ((n / 2 : Nat) : Int)) rfl) eC oSub_int) (eV (d := .int (x : Int)) rfl) oSub_int) (eA (eBin (eV (d := .int ((n / 2 : Nat) : Int)) rfl) (eV (d := .int (x : Int)) rfl) oAdd_int) eA0)) tup2) ?_
      unfold dPr
      rw [dIe (n := n / 2 - 1 - x) (by omega), dIe (n := n / 2 + x) (by omega)]
    · simp [pairsM, dL, hn]
  | false =>
    refine okd (u := .lst ([] ++ (List.range (n / 2)).map fun i => dPr (n - 1 - i, i))) (eBodyR (eSeq (eAsg (eBin (eV rfl) eC div2) rfl) (eSeq (eSIfF (eTr (eBin (eV rfl) eC (by rw [in_LT, hn]))) eNx) (eRet (eLc (eRg1 (eV rfl) hh) (compL_map (fun x hx => ⟨_, rfl, rfl, ?_⟩) sz)))))) ?_
    · have := List.mem_range.mp hx
      refine okd (eCall (eA (eBin (eBin (eV (d := .int (n : Int)) rfl) eC oSub_int) (eV (d := .int (x : Int)) rfl) oSub_int) (eA (eV rfl) eA0)) tup2) ?_
      unfold dPr
      rw [dIe (n := n - 1 - x) (by omega)]
    · simp [pairsM, dL, hn]⟩
theorem sc__turned_leaf : FnScope ["leaf", "letter", "column", "row", "face", "head"] ["leaf", "letter"] (defScope s__turned_leaf) := ⟨rfl, rfl, rfl, by decide +kernel, rfl, by decide +kernel, by decide +kernel⟩
def B__turned_leaf : FS :=
  (sSeq (sAsg (ptB (.tp [(.nm 2), (.nm 3), (.nm 4), (.nm 5)])) (iVar 0))
  (sSeq (sIf (iTr (iBin oIn (iVar 1) (iC (.str ⟨#[84, 66]⟩)))) (sAsg (ptB (.nm 5)) (iBin oIx (iK c_OTHER_HEAD) (iVar 5))) sNx)
  (sRet (iCall oTup [(iVar 2), (iVar 3), (iBin oIx (iK c_OTHER_FACE) (iVar 4)), (iVar 5)]))))
theorem raw__turned_leaf (M : Mods w K mg) : Ok1 P w K mg base "_turned_leaf" 1 ["leaf", "letter"] (iBody 6 B__turned_leaf) := by
  obtain ⟨f, fd, F, hm, hb⟩ := M.f__turned_leaf
  refine ⟨f, fd, hm, F.kp, hb, fn_ok (k := 0) F sc__turned_leaf fun cdv A outer s H E hr hn => ?_⟩
  have hu65 := room65 hr
  have hu1 := room1 hr
  exact (s_cons (s_asg (j_var 0) (g_tp rfl (gs_cons (g_nm 2 sc__turned_leaf.nd) (gs_cons (g_nm 3 sc__turned_leaf.nd) (gs_cons (g_nm 4 sc__turned_leaf.nd) (gs_cons (g_nm 5 sc__turned_leaf.nd) gs_nil))))))
  (s_cons (s_if (t_cmp (j_pc (op_inA hu65) ok_in (j_var 1) (j_str ⟨#[84, 66]⟩ (by kernel_rfl)))) (s_one (s_set 5 sc__turned_leaf.nd (j_ix hu1 (M.jc_OTHER_HEAD (by exact rfl)) (j_var 5)))) s_nil)
  (s_one (s_ret (j_tup (a_cons (j_var 2) (a_cons (j_var 3) (a_cons (j_ix hu1 (M.jc_OTHER_FACE (by exact rfl)) (j_var 4)) (a_cons (j_var 5) a_nil)))))))))
def F__turned_leaf : List D → AH → Res D := specF (fun _ : FM.Leaf × Lt => True) (fun p => [dLf p.1, .str (ls p.2)]) fun p => dLf (FM.flip p.2.across p.1)
theorem F__turned_leaf_eq {x : FM.Leaf} {c : Lt} {ah : AH} : F__turned_leaf [dLf x, .str (ls c)] ah = .ok (dLf (FM.flip c.across x)) ah := specF_eq (x := (x, c)) (fun x y e => by
  simp only [List.cons.injEq, D.str.injEq] at e
  rw [inj_Lf _ _ e.1, ls_inj e.2.1]) trivial
theorem other_head (b : Bool) (ah : AH) : oIx c_OTHER_HEAD (.str (head b)) ah = .ok (.str (head (!b))) ah := by cases b <;> rfl
theorem other_face (b : Bool) (ah : AH) : oIx c_OTHER_FACE (.str (face b)) ah = .ok (.str (face (!b))) ah := by cases b <;> rfl
theorem ok__turned_leaf (M : Mods w K mg) : Ok1 P w K mg base "_turned_leaf" 1 ["leaf", "letter"] F__turned_leaf := (raw__turned_leaf M).spec (fun _ _ => rfl) fun ⟨⟨a, b, f, u⟩, c⟩ ah _ => ⟨[], by
  rw [List.append_nil]
  cases hc : c.across with
  | true =>
    refine okd (eBodyR (eSeq (eAsg (eV rfl) rfl) (eSeq (eSIfF (eTr (eBin (eV rfl) eC (by rw [in_TB, hc]; rfl))) eNx) (eRet (eCall (eA (eV rfl) (eA (eV rfl) (eA (eBin eK (eV rfl) (other_face f _)) (eA (eV rfl) eA0)))) tup4))))) ?_
    simp [dLf, FM.flip, hc]
  | false =>
    refine okd (eBodyR (eSeq (eAsg (eV rfl) rfl) (eSeq (eSIfT (eTr (eBin (eV rfl) eC (by rw [in_TB, hc]; rfl))) (eAsg (eBin eK (eV rfl) (other_head u _)) rfl)) (eRet (eCall (eA (eV rfl) (eA (eV rfl) (eA (eBin eK (eV rfl) (other_face f _)) (eA (eV rfl) eA0)))) tup4))))) ?_
    simp [dLf, FM.flip, hc]⟩
theorem sc__turned : FnScope ["stack", "letter", "leaf"] ["stack", "letter"] (defScope s__turned) := ⟨rfl, rfl, rfl, by decide +kernel, rfl, by decide +kernel, by decide +kernel⟩
abbrev E1__turned : FE := (iDef F__turned_leaf [(iVar 2), (iVar 1)])
def B__turned : FS :=
  (sRet (iCall oTuple [(iLc (iRevI (iVar 0)) (ptB (.nm 2)) (fun _ ah => .ok true ah) E1__turned [2])]))
theorem raw__turned (M : Mods w K mg) (h__turned_leaf : Ok1 P w K mg base "_turned_leaf" 1 ["leaf", "letter"] F__turned_leaf) : Ok1 P w K mg base "_turned" 2 ["stack", "letter"] (iBody 3 B__turned) := by
  obtain ⟨f, fd, F, hm, hb⟩ := M.f__turned
  refine ⟨f, fd, hm, F.kp, hb, fn_ok (k := 1) F sc__turned fun cdv A outer s H E hr hn => ?_⟩
  have hr_turned_leaf := hr.mono (j := 1) (by decide)
  have hu65 := room65 hr
  have hu1 := room1 hr
  exact (s_one (s_ret (j_callT call_tuple_of ok_tuple (by exact rfl) M.nb_tuple boot_tuple (a_cons (j_lc rfl sc__turned.nd (i_rev rfl M.nb_reversed (j_var 0)) (own := [(("leaf" : Str), 2)]) (blk_of (by kernel_rfl)) (by decide) (fun _ _ _ _ _ => (g_nm 2 sc__turned.nd)) (fun _ _ _ _ _ => c_nil) (fun _ _ _ _ _ => (h__turned_leaf.jd hr_turned_leaf hn (by exact rfl) rfl (a_cons (j_var 2) (a_cons (j_var 1) a_nil))))) a_nil))))
def F__turned : List D → AH → Res D := specF (fun p : Stack × Lt => p.1.length ≤ 4096) (fun p => [dSt p.1, .str (ls p.2)]) fun p => dSt (turn p.2.across p.1)
theorem F__turned_eq {x : Stack} {c : Lt} {ah : AH} (h : x.length ≤ 4096) : F__turned [dSt x, .str (ls c)] ah = .ok (dSt (turn c.across x)) ah := specF_eq (x := (x, c)) (fun x y e => by
  simp only [List.cons.injEq, D.str.injEq] at e
  rw [inj_St _ _ e.1, ls_inj e.2.1]) h
theorem ok__turned (M : Mods w K mg) : Ok1 P w K mg base "_turned" 2 ["stack", "letter"] F__turned := (raw__turned M (ok__turned_leaf M)).spec (fun _ _ => pure_St _) fun ⟨s, c⟩ ah h => ⟨[], by
  have h : s.length ≤ 4096 := h
  rw [List.append_nil]
  refine okd (u := .tup ([] ++ s.reverse.map fun x => dLf (FM.flip c.across x))) (eBodyR (eRet (eCall (eA (eLc (ds := s.reverse.map dLf) (by rw [eRvT (eV rfl), List.map_reverse]) (compL_map (fun x _ => ⟨_, rfl, rfl, eDef (eA (eV rfl) (eA (eV rfl) eA0)) F__turned_leaf_eq⟩) ?_)) eA0) oTuple_lst))) ?_
  · rw [List.length_reverse]; exact small (by simp; omega)
  · simp [dT, turn]⟩
theorem sc__laid_on : FnScope ["over", "under", "letter", "upper", "lower"] ["over", "under", "letter"] (defScope s__laid_on) := ⟨rfl, rfl, rfl, by decide +kernel, rfl, by decide +kernel, by decide +kernel⟩
abbrev E1__laid_on : FE := (iBin oAdd (iDef F__turned [(iVar 3), (iVar 2)]) (iVar 4))
def B__laid_on : FS :=
  (sRet (iCall oTuple [(iLc (iZipI [(iVar 0), (iVar 1)]) (ptB (.tp [(.nm 3), (.nm 4)])) (fun _ ah => .ok true ah) E1__laid_on [3, 4])]))
theorem raw__laid_on (M : Mods w K mg) (h__turned : Ok1 P w K mg base "_turned" 2 ["stack", "letter"] F__turned) : Ok1 P w K mg base "_laid_on" 3 ["over", "under", "letter"] (iBody 5 B__laid_on) := by
  obtain ⟨f, fd, F, hm, hb⟩ := M.f__laid_on
  refine ⟨f, fd, hm, F.kp, hb, fn_ok (k := 2) F sc__laid_on fun cdv A outer s H E hr hn => ?_⟩
  have hr_turned := hr.mono (j := 2) (by decide)
  have hu65 := room65 hr
  have hu1 := room1 hr
  exact (s_one (s_ret (j_callT call_tuple_of ok_tuple (by exact rfl) M.nb_tuple boot_tuple (a_cons (j_lc rfl sc__laid_on.nd (i_zip rfl M.nb_zip (a_cons (j_var 0) (a_cons (j_var 1) a_nil))) (own := [(("upper" : Str), 3), (("lower" : Str), 4)]) (blk_of (by kernel_rfl)) (by decide) (fun _ _ _ _ _ => (g_tp rfl (gs_cons (g_nm 3 sc__laid_on.nd) (gs_cons (g_nm 4 sc__laid_on.nd) gs_nil)))) (fun _ _ _ _ _ => c_nil) (fun _ _ _ _ _ => (j_bin op_addA ok_add (h__turned.jd hr_turned hn (by exact rfl) rfl (a_cons (j_var 3) (a_cons (j_var 2) a_nil))) (j_var 4)))) a_nil))))
/-- stacks side by side, as a row or as a list -/
def dSs (b : Bool) (x : List Stack) : D := if b then dRow x else dL dSt x
theorem inj_Ss {b b2 : Bool} {x y : List Stack} (h : dSs b x = dSs b2 y) : x = y := by
  cases b <;> cases b2 <;> simp only [dSs, if_true, Bool.false_eq_true, if_false] at h
  · exact inj_dL inj_St _ _ h
  · exact absurd h (by intro z; cases z)
  · exact absurd h (by intro z; cases z)
  · exact inj_Row _ _ h
structure Laid where
  b : Bool
  o : List Stack
  u : List Stack
  c : Lt
def F__laid_on : List D → AH → Res D := specF (fun p : Laid => p.o.length ≤ 4096 ∧ (∀ s ∈ p.o, s.length ≤ 4096) ∧ ∀ s ∈ p.u, s.length ≤ 4096) (fun p => [dSs p.b p.o, dSs p.b p.u, .str (ls p.c)]) fun p => dRow (laidM p.c.across p.o p.u)
theorem F__laid_on_eq (b : Bool) {o u : List Stack} {c : Lt} {ah : AH} (h : o.length ≤ 4096) (h1 : ∀ s ∈ o, s.length ≤ 4096) (h2 : ∀ s ∈ u, s.length ≤ 4096) : F__laid_on [dSs b o, dSs b u, .str (ls c)] ah = .ok (dRow (laidM c.across o u)) ah := specF_eq (x := (⟨b, o, u, c⟩ : Laid)) (fun x y e => by
  simp only [List.cons.injEq, D.str.injEq] at e
  rw [inj_Ss e.1, inj_Ss e.2.1, ls_inj e.2.2.1]) ⟨h, h1, h2⟩
theorem ok__laid_on (M : Mods w K mg) : Ok1 P w K mg base "_laid_on" 3 ["over", "under", "letter"] F__laid_on := (raw__laid_on M (ok__turned M)).spec (fun _ _ => pure_Row _) fun ⟨b, o, u, c⟩ ah h => ⟨[], by
  obtain ⟨h0, h1, h2⟩ := h
  simp only at h0 h1 h2
  rw [List.append_nil]
  refine okd (u := .tup ([] ++ (o.zip u).map fun p => dSt (turn c.across p.1 ++ p.2))) (eBodyR (eRet (eCall (eA (eLc (ds := (o.zip u).map fun p => .tup [dSt p.1, dSt p.2]) ?_ (compL_map (fun p hp => ⟨_, rfl, rfl, ?_⟩) ?_)) eA0) oTuple_lst))) ?_
  · rw [← zipD_map]
    cases b with
    | true => exact eZpT (eA (eV rfl) (eA (eV rfl) eA0))
    | false => exact eZpL (eA (eV rfl) (eA (eV rfl) eA0))
  · obtain ⟨q1, q2⟩ := List.of_mem_zip (a := p.1) (b := p.2) hp
    have l1 := h1 _ q1
    have l2 := h2 _ q2
    refine okd (eBin (eDef (eA (eV rfl) (eA (eV rfl) eA0)) (F__turned_eq l1)) (eV rfl) (oAdd_tup ?_)) ?_
    · exact small (by simp [turn]; omega)
    · simp [dT]
  · rw [List.length_zip]; exact small (by simp; omega)
  · simp [dT, laidM]⟩
/-- a grid that can be folded at a letter -/
structure Fit (g : Grid) : Prop where
  n0 : 0 < g.length
  n : g.length ≤ 32
  ex : ∃ w, w ≤ 32 ∧ Rect w g
  st : ∀ row ∈ g, ∀ s ∈ row, s.length ≤ 32
theorem get_row {g : Grid} {i : Nat} (h : i < g.length) : (g.map dRow)[i]? = some (dRow (g.getD i [])) := by
  rw [List.getElem?_map, List.getElem?_eq_getElem h, List.getD_eq_getElem?_getD, List.getElem?_eq_getElem h]
  rfl
theorem sc__folded_across : FnScope ["rows", "letter", "pairs", "folded", "row", "over", "under", "upper", "_", "lower"] ["rows", "letter"] (defScope s__folded_across) := ⟨rfl, rfl, rfl, by decide +kernel, rfl, by decide +kernel, by decide +kernel⟩
abbrev E1__folded_across : FE := (iBin oIx (iVar 4) (iVar 7))
abbrev E2__folded_across : FE := (iBin oIx (iVar 4) (iVar 9))
abbrev L1__folded_across : FS := (sSeq (sAsg (ptB (.nm 5)) (iLc (iSeqS (iVar 2)) (ptB (.tp [(.nm 7), (.nm 8)])) (fun _ ah => .ok true ah) E1__folded_across [7, 8]))
  (sSeq (sAsg (ptB (.nm 6)) (iLc (iSeqS (iVar 2)) (ptB (.tp [(.nm 8), (.nm 9)])) (fun _ ah => .ok true ah) E2__folded_across [8, 9]))
  (sDrop (iApp (iVar 3) (iDef F__laid_on [(iVar 5), (iVar 6), (iVar 1)])))))
def B__folded_across : FS :=
  (sSeq (sAsg (ptB (.nm 2)) (iDef F__meeting [(iVar 1), (iCall oLen [(iBin oIx (iVar 0) (iC (.int 0)))])]))
  (sSeq (sAsg (ptB (.nm 3)) (iCall oLstM []))
  (sSeq (sFor (iSeqS (iVar 0)) (ptB (.nm 4)) L1__folded_across)
  (sRet (iCall oTuple [(iVar 3)])))))
theorem raw__folded_across (M : Mods w K mg) (h__meeting : Ok1 P w K mg base "_meeting" 1 ["letter", "many"] F__meeting) (h__laid_on : Ok1 P w K mg base "_laid_on" 3 ["over", "under", "letter"] F__laid_on) : Ok1 P w K mg base "_folded_across" 4 ["rows", "letter"] (iBody 10 B__folded_across) := by
  obtain ⟨f, fd, F, hm, hb⟩ := M.f__folded_across
  refine ⟨f, fd, hm, F.kp, hb, fn_ok (k := 3) F sc__folded_across fun cdv A outer s H E hr hn => ?_⟩
  have hr_meeting := hr.mono (j := 1) (by decide)
  have hr_laid_on := hr.mono (j := 3) (by decide)
  have hu65 := room65 hr
  have hu1 := room1 hr
  exact (s_cons (s_set 2 sc__folded_across.nd (h__meeting.jd hr_meeting hn (by exact rfl) rfl (a_cons (j_var 1) (a_cons (j_callB call_lenA ok_len (by exact rfl) M.nb_len boot_len (a_cons (j_ix hu1 (j_var 0) j_int) a_nil)) a_nil))))
  (s_cons (s_set 3 sc__folded_across.nd (j_lstM a_nil))
  (s_cons (s_for PassesOwn.never rfl (i_seqS (j_var 0)) (g_nm 4 sc__folded_across.nd) (s_cons (s_setLc 5 rfl sc__folded_across.nd (i_seqS (j_var 2)) (own := [(("upper" : Str), 7), (("_" : Str), 8)]) (blk_of (by kernel_rfl)) (by decide) (fun _ _ _ _ _ => (g_tp rfl (gs_cons (g_nm 7 sc__folded_across.nd) (gs_cons (g_nm 8 sc__folded_across.nd) gs_nil)))) (fun _ _ _ _ _ => c_nil) (fun _ _ _ _ _ => (j_ix hu1 (j_var 4) (j_var 7))))
  (s_cons (s_setLc 6 rfl sc__folded_across.nd (i_seqS (j_var 2)) (own := [(("_" : Str), 8), (("lower" : Str), 9)]) (blk_of (by kernel_rfl)) (by decide) (fun _ _ _ _ _ => (g_tp rfl (gs_cons (g_nm 8 sc__folded_across.nd) (gs_cons (g_nm 9 sc__folded_across.nd) gs_nil)))) (fun _ _ _ _ _ => c_nil) (fun _ _ _ _ _ => (j_ix hu1 (j_var 4) (j_var 9))))
  (s_one (s_drop (j_app (j_var 3) (h__laid_on.jd hr_laid_on hn (by exact rfl) rfl (a_cons (j_var 5) (a_cons (j_var 6) (a_cons (j_var 1) a_nil))))))))))
  (s_one (s_ret (j_callT call_tuple_of ok_tuple (by exact rfl) M.nb_tuple boot_tuple (a_cons (j_var 3) a_nil)))))))
def rowM (c : Lt) (row : List Stack) : List Stack := (pairsM c.near row.length).map fun p => turn true (row.getD p.1 []) ++ row.getD p.2 []
theorem step_across {c : Lt} {g : Grid} (hc : c.across = true) : stepM c g = g.map (rowM c) := by unfold stepM; rw [if_pos hc]; rfl
theorem get_st {row : List Stack} {i : Nat} (h : i < row.length) : (row.map dSt)[i]? = some (dSt (row.getD i [])) := by
  rw [List.getElem?_map, List.getElem?_eq_getElem h, List.getD_eq_getElem?_getD, List.getElem?_eq_getElem h]
  rfl
def F__folded_across : List D → AH → Res D := specF (fun p : Grid × Lt => Fit p.1 ∧ p.2.across = true) (fun p => [dGr p.1, .str (ls p.2)]) fun p => dGr (stepM p.2 p.1)
theorem F__folded_across_eq {g : Grid} {c : Lt} {ah : AH} (h : Fit g) (hc : c.across = true) : F__folded_across [dGr g, .str (ls c)] ah = .ok (dGr (stepM c g)) ah := specF_eq (x := (g, c)) (fun x y e => by
  simp only [List.cons.injEq, D.str.injEq] at e
  rw [inj_Gr _ _ e.1, ls_inj e.2.1]) ⟨h, hc⟩
theorem ok__folded_across (M : Mods w K mg) : Ok1 P w K mg base "_folded_across" 4 ["rows", "letter"] F__folded_across := (raw__folded_across M (ok__meeting M) (ok__laid_on M)).spec (fun _ _ => pure_Gr _) fun ⟨g, c⟩ ah h => by
  obtain ⟨F, hc⟩ := h
  simp only at F hc
  have hn := F.n
  obtain ⟨wd, hw, hr⟩ := F.ex
  have h0 : (g.getD 0 []).length = wd := hr _ (getD_in F.n0)
  have e1 : oLen [dRow (g.getD 0 [])] ah = .ok (dI wd) ah := by
    show oLen [.tup ((g.getD 0 []).map dSt)] ah = _
    rw [oLen_tup, List.length_map, h0]
    rfl
  have loop := forL_inv (g := ptB (.nm 4)) (body := (sSeq (sAsg (ptB (.nm 5)) (iLc (iSeqS (iVar 2)) (ptB (.tp [(.nm 7), (.nm 8)])) (fun _ ah => .ok true ah) (iBin oIx (iVar 4) (iVar 7)) [7, 8]))
      (sSeq (sAsg (ptB (.nm 6)) (iLc (iSeqS (iVar 2)) (ptB (.tp [(.nm 8), (.nm 9)])) (fun _ ah => .ok true ah) (iBin oIx (iVar 4) (iVar 9)) [8, 9])) (sDrop (iApp (iVar 3) (iDef F__laid_on [(iVar 5), (iVar 6), (iVar 1)]))))))
    (I := fun i env a => ∃ e4 e5 e6, env = [some (dGr g), some (.str (ls c)), some (dL dPr (pairsM c.near wd)), some (.ref ah.length), e4, e5, e6, none, none, none] ∧ a = ah ++ [.lst ((g.take i).map fun row => dRow (rowM c row))])
    (ds := g.map dRow) (k := 0) (env := [some (dGr g), some (.str (ls c)), some (dL dPr (pairsM c.near wd)), some (.ref ah.length), none, none, none, none, none, none]) (ah := ah ++ [.lst []]) ⟨none, none, none, rfl, by simp⟩ ?_
  · obtain ⟨env', ah', l1, e4, e5, e6, rfl, rfl⟩ := loop
    rw [Nat.zero_add, List.length_map, List.take_length] at l1
    refine ⟨[.lst (g.map fun row => dRow (rowM c row))], ?_⟩
    refine okd (eBodyR (eSeq (eAsg (eDef (eA (eV rfl) (eA (eCall (eA (eBin (eV rfl) eC (ix_tup (n := 0) (get_row F.n0) rfl)) eA0) e1) eA0)) (F__meeting_eq (by omega))) rfl) (eSeq (eAsg (eCall eA0 lstM0) rfl)
      (eSeq (eFor (eSqT (eV rfl)) l1) (eRet (eCall (eA (eV rfl) eA0) (oTuple_ref last_at))))))) ?_
    rw [step_across hc]
    simp [dT]
  · rintro i d env a hd ⟨e4, e5, e6, rfl, rfl⟩
    rw [Nat.zero_add]
    rw [List.getElem?_map] at hd
    obtain ⟨row, hrow, rfl⟩ := Option.map_eq_some_iff.mp hd
    have mem := List.mem_of_getElem? hrow
    have lw := hr _ mem
    have sz : ∀ acc : List D, acc = [] → acc.length + (pairsM c.near wd).length ≤ sizeLine := fun acc e => by rw [e, FM.pairs_len]; exact small (by simp; omega)
    have laid : laidM c.across ((pairsM c.near wd).map fun p => row.getD p.1 []) ((pairsM c.near wd).map fun p => row.getD p.2 []) = rowM c row := by
      unfold laidM rowM
      rw [zip_maps, List.map_map, hc, lw]
      rfl
    refine ⟨_, .nx, _, _, rfl, .inl rfl, eSeq (eAsg (eLc (ds := (pairsM c.near wd).map dPr) (eSqL (eV rfl)) (compL_map (o := fun p => dSt (row.getD p.1 [])) (fun p hp => ⟨_, rfl, rfl, ?_⟩) (sz _ rfl))) rfl)
      (eSeq (eAsg (eLc (ds := (pairsM c.near wd).map dPr) (eSqL (eV rfl)) (compL_map (o := fun p => dSt (row.getD p.2 [])) (fun p hp => ⟨_, rfl, rfl, ?_⟩) (sz _ rfl))) rfl)
        (eDrop (eApp (eV rfl) last_at (eDef (xs := [dSs false ((pairsM c.near wd).map fun p => row.getD p.1 []), dSs false ((pairsM c.near wd).map fun p => row.getD p.2 []), .str (ls c)]) ?_ (F__laid_on_eq false ?_ ?_ ?_)) (last_at (o := .lst ((g.take i).map fun row => dRow (rowM c row)))) ?_))), ?_⟩
    · exact eBin (eV rfl) (eV rfl) (ix_tup (get_st (by rw [lw]; exact (pairs_lt hp).1)) rfl)
    · exact eBin (eV rfl) (eV rfl) (ix_tup (get_st (by rw [lw]; exact (pairs_lt hp).2)) rfl)
    · refine eA (eV ?_) (eA (eV ?_) (eA (eV rfl) eA0)) <;> simp [dSs, dL]
    · rw [List.length_map, FM.pairs_len]; omega
    · intro s hs
      obtain ⟨p, hp, rfl⟩ := List.mem_map.mp hs
      exact Nat.le_trans (F.st _ mem _ (getD_in (by rw [lw]; exact (pairs_lt hp).1))) (by omega)
    · intro s hs
      obtain ⟨p, hp, rfl⟩ := List.mem_map.mp hs
      exact Nat.le_trans (F.st _ mem _ (getD_in (by rw [lw]; exact (pairs_lt hp).2))) (by omega)
    · have := (List.getElem?_eq_some_iff.mp hrow).1
      rw [List.length_map, List.length_take, sizeLine_eq]
      omega
    · refine ⟨_, _, _, rfl, ?_⟩
      rw [set_last, laid, List.take_add_one, hrow]
      simp
theorem sc__folded_down : FnScope ["rows", "letter", "pairs", "upper", "lower"] ["rows", "letter"] (defScope s__folded_down) := ⟨rfl, rfl, rfl, by decide +kernel, rfl, by decide +kernel, by decide +kernel⟩
abbrev E1__folded_down : FE := (iDef F__laid_on [(iBin oIx (iVar 0) (iVar 3)), (iBin oIx (iVar 0) (iVar 4)), (iVar 1)])
def B__folded_down : FS :=
  (sSeq (sAsg (ptB (.nm 2)) (iDef F__meeting [(iVar 1), (iCall oLen [(iVar 0)])]))
  (sRet (iCall oTuple [(iLc (iSeqS (iVar 2)) (ptB (.tp [(.nm 3), (.nm 4)])) (fun _ ah => .ok true ah) E1__folded_down [3, 4])])))
theorem raw__folded_down (M : Mods w K mg) (h__meeting : Ok1 P w K mg base "_meeting" 1 ["letter", "many"] F__meeting) (h__laid_on : Ok1 P w K mg base "_laid_on" 3 ["over", "under", "letter"] F__laid_on) : Ok1 P w K mg base "_folded_down" 4 ["rows", "letter"] (iBody 5 B__folded_down) := by
  obtain ⟨f, fd, F, hm, hb⟩ := M.f__folded_down
  refine ⟨f, fd, hm, F.kp, hb, fn_ok (k := 3) F sc__folded_down fun cdv A outer s H E hr hn => ?_⟩
  have hr_meeting := hr.mono (j := 1) (by decide)
  have hr_laid_on := hr.mono (j := 3) (by decide)
  have hu65 := room65 hr
  have hu1 := room1 hr
  exact (s_cons (s_set 2 sc__folded_down.nd (h__meeting.jd hr_meeting hn (by exact rfl) rfl (a_cons (j_var 1) (a_cons (j_callB call_lenA ok_len (by exact rfl) M.nb_len boot_len (a_cons (j_var 0) a_nil)) a_nil))))
  (s_one (s_ret (j_callT call_tuple_of ok_tuple (by exact rfl) M.nb_tuple boot_tuple (a_cons (j_lc rfl sc__folded_down.nd (i_seqS (j_var 2)) (own := [(("upper" : Str), 3), (("lower" : Str), 4)]) (blk_of (by kernel_rfl)) (by decide) (fun _ _ _ _ _ => (g_tp rfl (gs_cons (g_nm 3 sc__folded_down.nd) (gs_cons (g_nm 4 sc__folded_down.nd) gs_nil)))) (fun _ _ _ _ _ => c_nil) (fun _ _ _ _ _ => (h__laid_on.jd hr_laid_on hn (by exact rfl) rfl (a_cons (j_ix hu1 (j_var 0) (j_var 3)) (a_cons (j_ix hu1 (j_var 0) (j_var 4)) (a_cons (j_var 1) a_nil)))))) a_nil)))))
def F__folded_down : List D → AH → Res D := specF (fun p : Grid × Lt => Fit p.1 ∧ p.2.across = false) (fun p => [dGr p.1, .str (ls p.2)]) fun p => dGr (stepM p.2 p.1)
theorem F__folded_down_eq {g : Grid} {c : Lt} {ah : AH} (h : Fit g) (hc : c.across = false) : F__folded_down [dGr g, .str (ls c)] ah = .ok (dGr (stepM c g)) ah := specF_eq (x := (g, c)) (fun x y e => by
  simp only [List.cons.injEq, D.str.injEq] at e
  rw [inj_Gr _ _ e.1, ls_inj e.2.1]) ⟨h, hc⟩
theorem ok__folded_down (M : Mods w K mg) : Ok1 P w K mg base "_folded_down" 4 ["rows", "letter"] F__folded_down := (raw__folded_down M (ok__meeting M) (ok__laid_on M)).spec (fun _ _ => pure_Gr _) fun ⟨g, c⟩ ah h => ⟨[], by
  obtain ⟨F, hc⟩ := h
  simp only at F hc
  have hn := F.n
  obtain ⟨wd, hw, hr⟩ := F.ex
  have e1 : oLen [dGr g] ah = .ok (dI g.length) ah := by
    show oLen [.tup (g.map dRow)] ah = _
    rw [oLen_tup, List.length_map]
    rfl
  rw [List.append_nil]
  refine okd (u := .tup ([] ++ (pairsM c.near g.length).map fun p => dRow (laidM c.across (g.getD p.1 []) (g.getD p.2 [])))) (eBodyR (eSeq (eAsg (eDef (eA (eV rfl) (eA (eCall (eA (eV rfl) eA0) e1) eA0)) (F__meeting_eq (by omega))) rfl)
    (eRet (eCall (eA (eLc (ds := (pairsM c.near g.length).map dPr) (eSqL (eV rfl)) (compL_map (fun p hp => ⟨_, rfl, rfl, ?_⟩) ?_)) eA0) oTuple_lst)))) ?_
  · obtain ⟨l1, l2⟩ := pairs_lt hp
    have i1 := getD_in (d := []) l1
    have i2 := getD_in (d := []) l2
    refine eDef (eA (eBin (eV rfl) (eV rfl) (ix_tup (get_row l1) rfl)) (eA (eBin (eV rfl) (eV rfl) (ix_tup (get_row l2) rfl)) (eA (eV rfl) eA0))) (F__laid_on_eq true ?_ ?_ ?_)
    · rw [hr _ i1]; omega
    · exact fun s hs => Nat.le_trans (F.st _ i1 s hs) (by omega)
    · exact fun s hs => Nat.le_trans (F.st _ i2 s hs) (by omega)
  · rw [FM.pairs_len]; exact small (by simp; omega)
  · simp [dT, stepM, hc]⟩
theorem sc_states : FnScope ["folding", "now", "told", "letter"] ["folding"] (defScope s_states) := ⟨rfl, rfl, rfl, by decide +kernel, rfl, by decide +kernel, by decide +kernel⟩
abbrev L1_states : FS := (sSeq (sAsg (ptB (.nm 1)) (iIf (iTr (iBin oIn (iVar 3) (iC (.str ⟨#[76, 82]⟩)))) (iDef F__folded_across [(iVar 1), (iVar 3)]) (iDef F__folded_down [(iVar 1), (iVar 3)])))
  (sDrop (iApp (iVar 2) (iVar 1))))
def B_states : FS :=
  (sSeq (sAsg (ptB (.nm 1)) (iDef F__flat_sheet [(iDef F_sheet_size [(iVar 0)])]))
  (sSeq (sAsg (ptB (.nm 2)) (iCall oLstM [(iVar 1)]))
  (sSeq (sFor (iSeqS (iVar 0)) (ptB (.nm 3)) L1_states)
  (sRet (iCall oTuple [(iVar 2)])))))
theorem raw_states (M : Mods w K mg) (h__flat_sheet : Ok1 P w K mg base "_flat_sheet" 2 ["size"] F__flat_sheet) (h_sheet_size : Ok1 P w K mg base "sheet_size" 1 ["folding"] F_sheet_size) (h__folded_across : Ok1 P w K mg base "_folded_across" 4 ["rows", "letter"] F__folded_across) (h__folded_down : Ok1 P w K mg base "_folded_down" 4 ["rows", "letter"] F__folded_down) : Ok1 P w K mg base "states" 5 ["folding"] (iBody 4 B_states) := by
  obtain ⟨f, fd, F, hm, hb⟩ := M.f_states
  refine ⟨f, fd, hm, F.kp, hb, fn_ok (k := 4) F sc_states fun cdv A outer s H E hr hn => ?_⟩
  have hr_flat_sheet := hr.mono (j := 2) (by decide)
  have hrsheet_size := hr.mono (j := 1) (by decide)
  have hr_folded_across := hr.mono (j := 4) (by decide)
  have hr_folded_down := hr.mono (j := 4) (by decide)
  have hu65 := room65 hr
  have hu1 := room1 hr
  exact (s_cons (s_set 1 sc_states.nd (h__flat_sheet.jd hr_flat_sheet hn (by exact rfl) rfl (a_cons (h_sheet_size.jd hrsheet_size hn (by exact rfl) rfl (a_cons (j_var 0) a_nil)) a_nil)))
  (s_cons (s_set 2 sc_states.nd (j_lstM (a_cons (j_var 1) a_nil)))
  (s_cons (s_for PassesOwn.never rfl (i_seqS (j_var 0)) (g_nm 3 sc_states.nd) (s_cons (s_set 1 sc_states.nd (j_if (t_cmp (j_pc (op_inA hu65) ok_in (j_var 3) (j_str ⟨#[76, 82]⟩ (by kernel_rfl)))) (h__folded_across.jd hr_folded_across hn (by exact rfl) rfl (a_cons (j_var 1) (a_cons (j_var 3) a_nil))) (h__folded_down.jd hr_folded_down hn (by exact rfl) rfl (a_cons (j_var 1) (a_cons (j_var 3) a_nil)))))
  (s_one (s_drop (j_app (j_var 2) (j_var 1))))))
  (s_one (s_ret (j_callT call_tuple_of ok_tuple (by exact rfl) M.nb_tuple boot_tuple (a_cons (j_var 2) a_nil)))))))
theorem fit_at {l : List Lt} {i : Nat} (h : l.length ≤ 5) (hi : i ≤ l.length) : Fit (stAt l i) := by
  have G := good_at hi
  have ad := across_down (l.drop i)
  rw [List.length_drop] at ad
  have b1 := pow5 (n := downM (l.drop i)) (by omega)
  have b2 := pow5 (n := acrossM (l.drop i)) (by omega)
  have b3 := pow5 (n := i) (by omega)
  refine ⟨by rw [G.len]; exact Nat.pow_pos (by decide), by rw [G.len]; exact b1, ⟨_, b2, G.rect⟩, fun row hr s hs => by rw [G.even row hr s hs]; exact b3⟩
def F_states : List D → AH → Res D := specF (fun l : List Lt => l.length ≤ 5) (fun l => [.str (fs l)]) fun l => dT dGr (statesM l)
theorem F_states_eq {l : List Lt} {ah : AH} (h : l.length ≤ 5) : F_states [.str (fs l)] ah = .ok (dT dGr (statesM l)) ah := specF_eq (x := l) (fun x y e => by
  simp only [List.cons.injEq, D.str.injEq] at e
  rw [fs_inj e.1]) h
theorem str_ls (l : List Lt) : ((fs l).cps.toList.map fun c => D.str ⟨#[c]⟩) = l.map fun c => D.str (ls c) := by rw [fs_cps, List.map_map]; rfl
theorem size_le {l : List Lt} (h : l.length ≤ 5) : (sizeM l).1 ≤ 32 ∧ (sizeM l).2 ≤ 32 := by
  have := across_down l
  exact ⟨pow5 (by omega), pow5 (by omega)⟩
theorem ok_states (M : Mods w K mg) : Ok1 P w K mg base "states" 5 ["folding"] F_states := (raw_states M (ok__flat_sheet M) (ok_sheet_size M) (ok__folded_across M) (ok__folded_down M)).spec (fun _ _ => pure_dT pure_Gr _) fun l ah h => by
  have h : l.length ≤ 5 := h
  obtain ⟨s1, s2⟩ := size_le h
  have loop := forL_inv (g := ptB (.nm 3)) (body := (sSeq (sAsg (ptB (.nm 1)) (iIf (iTr (iBin oIn (iVar 3) (iC (.str ⟨#[76, 82]⟩)))) (iDef F__folded_across [(iVar 1), (iVar 3)]) (iDef F__folded_down [(iVar 1), (iVar 3)]))) (sDrop (iApp (iVar 2) (iVar 1)))))
    (I := fun i env a => ∃ e3, env = [some (.str (fs l)), some (dGr (stAt l i)), some (.ref ah.length), e3] ∧ a = ah ++ [.lst ((List.range (i + 1)).map fun j => dGr (stAt l j))])
    (ds := l.map fun c => D.str (ls c)) (k := 0) (env := [some (.str (fs l)), some (dGr (stAt l 0)), some (.ref ah.length), none]) (ah := ah ++ [.lst [dGr (stAt l 0)]]) ⟨none, rfl, rfl⟩ ?_
  · obtain ⟨env', ah', l1, e3, rfl, rfl⟩ := loop
    rw [Nat.zero_add, List.length_map] at l1
    refine ⟨[.lst ((List.range (l.length + 1)).map fun j => dGr (stAt l j))], ?_⟩
    refine okd (eBodyR (eSeq (eAsg (eDef (eA (eDef (eA (eV rfl) eA0) (F_sheet_size_eq (by omega))) eA0) (F__flat_sheet_eq (by omega) (by omega))) rfl) (eSeq (eAsg (eCall (eA (eV rfl) eA0) lstM1) rfl)
      (eSeq (eFor (eSqS (eV rfl)) (by rw [str_ls]; exact l1)) (eRet (eCall (eA (eV rfl) eA0) (oTuple_ref last_at))))))) ?_
    simp [dT, statesM]
  · rintro i d env a hd ⟨e3, rfl, rfl⟩
    rw [Nat.zero_add]
    rw [List.getElem?_map] at hd
    obtain ⟨c, hcl, rfl⟩ := Option.map_eq_some_iff.mp hd
    have hi := (List.getElem?_eq_some_iff.mp hcl).1
    have F := fit_at h (i := i) (by omega)
    have step : (iIf (iTr (iBin oIn (iVar 3) (iC (.str ⟨#[76, 82]⟩)))) (iDef F__folded_across [(iVar 1), (iVar 3)]) (iDef F__folded_down [(iVar 1), (iVar 3)])) [some (.str (fs l)), some (dGr (stAt l i)), some (.ref ah.length), some (.str (ls c))] (ah ++ [.lst ((List.range (i + 1)).map fun j => dGr (stAt l j))]) = .ok (dGr (stAt l (i + 1))) (ah ++ [.lst ((List.range (i + 1)).map fun j => dGr (stAt l j))]) := by
      rw [stAt_succ hcl]
      cases hc : c.across with
      | true => exact eIfT (eTr (eBin (eV rfl) eC (by rw [in_LR, hc]))) (eDef (eA (eV rfl) (eA (eV rfl) eA0)) (F__folded_across_eq F hc))
      | false => exact eIfF (eTr (eBin (eV rfl) eC (by rw [in_LR, hc]))) (eDef (eA (eV rfl) (eA (eV rfl) eA0)) (F__folded_down_eq F hc))
    have lim : ((List.range (i + 1)).map fun j => dGr (stAt l j)).length < sizeLine := by rw [List.length_map, List.length_range, sizeLine_eq]; omega
    refine ⟨_, .nx, _, _, rfl, .inl rfl, eSeq (eAsg step rfl) (eDrop (eApp (eV rfl) last_at (eV rfl) last_at lim)), _, rfl, ?_⟩
    rw [set_last, List.range_succ (n := i + 1), List.map_append]
    rfl
theorem sc_fold : FnScope ["folding"] ["folding"] (defScope s_fold) := ⟨rfl, rfl, rfl, by decide +kernel, rfl, by decide +kernel, by decide +kernel⟩
def B_fold : FS :=
  (sRet (iBin oIx (iBin oIx (iBin oIx (iDef F_states [(iVar 0)]) (iUn oNeg (iC (.int 1)))) (iC (.int 0))) (iC (.int 0))))
theorem raw_fold (M : Mods w K mg) (h_states : Ok1 P w K mg base "states" 5 ["folding"] F_states) : Ok1 P w K mg base "fold" 6 ["folding"] (iBody 1 B_fold) := by
  obtain ⟨f, fd, F, hm, hb⟩ := M.f_fold
  refine ⟨f, fd, hm, F.kp, hb, fn_ok (k := 5) F sc_fold fun cdv A outer s H E hr hn => ?_⟩
  have hrstates := hr.mono (j := 5) (by decide)
  have hu65 := room65 hr
  have hu1 := room1 hr
  exact (s_one (s_ret (j_ix hu1 (j_ix hu1 (j_ix hu1 (h_states.jd hrstates hn (by exact rfl) rfl (a_cons (j_var 0) a_nil)) (j_un un_neg ok_neg j_int)) j_int) j_int)))
theorem at_neg1 {xs : List D} {d : D} (h : xs[xs.length - 1]? = some d) : atI xs (-1) = some d := by
  have hl := (List.getElem?_eq_some_iff.mp h).1
  unfold atI ixN
  rw [if_neg (by omega), if_pos (by omega)]
  simp only [Option.bind_some]
  rw [show (-1 + (xs.length : Int)).toNat = xs.length - 1 by omega]
  exact h
def F_fold : List D → AH → Res D := specF (fun l : List Lt => l.length ≤ 5) (fun l => [.str (fs l)]) fun l => dSt (foldM l)
theorem F_fold_eq {l : List Lt} {ah : AH} (h : l.length ≤ 5) : F_fold [.str (fs l)] ah = .ok (dSt (foldM l)) ah := specF_eq (x := l) (fun x y e => by
  simp only [List.cons.injEq, D.str.injEq] at e
  rw [fs_inj e.1]) h
theorem ok_fold (M : Mods w K mg) : Ok1 P w K mg base "fold" 6 ["folding"] F_fold := (raw_fold M (ok_states M)).spec (fun _ _ => pure_St _) fun l ah h => ⟨[], by
  have h : l.length ≤ 5 := h
  rw [List.append_nil]
  have G := good_at (l := l) (Nat.le_refl _)
  rw [List.drop_length] at G
  have l1 : (stAt l l.length).length = 1 := G.len
  have l2 : ((stAt l l.length).getD 0 []).length = 1 := G.rect _ (getD_in (by omega))
  have e1 : ((statesM l).map dGr)[((statesM l).map dGr).length - 1]? = some (dGr (stAt l l.length)) := by
    unfold statesM
    simp
  exact eBodyR (eRet (eBin (eBin (eBin (eDef (eA (eV rfl) eA0) (F_states_eq h)) (eUn eC rfl) (oIx_tup (at_neg1 e1))) eC (ix_tup (n := 0) (get_row (by omega)) rfl)) eC (ix_tup (n := 0) (get_st (by omega)) rfl)))⟩
theorem sc__law_cell : FnScope ["script", "k"] ["script", "k"] (defScope s__law_cell) := ⟨rfl, rfl, rfl, by decide +kernel, rfl, by decide +kernel, by decide +kernel⟩
def B__law_cell : FS :=
  (sSeq (sIf (iTr (iBin oLt (iVar 1) (iCall oLen [(iVar 0)]))) (sRet (iBin oIx (iVar 0) (iVar 1))) sNx)
  (sRet (iC (.int 0))))
theorem raw__law_cell (M : Mods w K mg) : Ok1 P w K mg base "_law_cell" 1 ["script", "k"] (iBody 2 B__law_cell) := by
  obtain ⟨f, fd, F, hm, hb⟩ := M.f__law_cell
  refine ⟨f, fd, hm, F.kp, hb, fn_ok (k := 0) F sc__law_cell fun cdv A outer s H E hr hn => ?_⟩
  have hu65 := room65 hr
  have hu1 := room1 hr
  exact (s_cons (s_if (t_cmp (j_pc op_ltA ok_cmp (j_var 1) (j_callB call_lenA ok_len (by exact rfl) M.nb_len boot_len (a_cons (j_var 0) a_nil)))) (s_one (s_ret (j_ix hu1 (j_var 0) (j_var 1)))) s_nil)
  (s_one (s_ret j_int)))
def F__law_cell : List D → AH → Res D := iBody 2 B__law_cell
theorem cell_ex (ns : List Int) (k : Nat) (ah : AH) : ∃ v : Int, F__law_cell [.lst (ns.map D.int), dI k] ah = .ok (.int v) ah := by
  by_cases h : k < ns.length
  · exact ⟨ns[k], eBodyR (eSeqR (eSIfT (eTr (eBin (eV rfl) (eCall (eA (eV rfl) eA0) oLen_lstI) (by rw [show dI k = D.int (k : Int) from rfl, oLtI, decide_eq_true (by omega)]))) (eRet (eBin (eV rfl) (eV rfl) (ix_lst (atI_map h) rfl)))))⟩
  · exact ⟨0, eBodyR (eSeq (eSIfF (eTr (eBin (eV rfl) (eCall (eA (eV rfl) eA0) oLen_lstI) (by rw [show dI k = D.int (k : Int) from rfl, oLtI, decide_eq_false (by omega)]))) eNx) (eRet eC))⟩
theorem sc__law_digits : FnScope ["script", "first", "last", "digits", "k", "cell", "lap", "seed"] ["script", "first", "last"] (defScope s__law_digits) := ⟨rfl, rfl, rfl, by decide +kernel, rfl, by decide +kernel, by decide +kernel⟩
abbrev L1__law_digits : FS := (sIf (iTr (iBin oGt (iVar 5) (iC (.int 0)))) (sSeq (sDrop (iApp (iVar 3) (iBin oMod (iCall oInt [(iVar 5)]) (iC (.int 1000)))))
  (sAsg (ptB (.nm 5)) (iBin oDiv (iVar 5) (iC (.int 1000))))) sNx)
abbrev L2__law_digits : FS := (sSeq (sAsg (ptB (.nm 7)) (iBin oMod (iCall oInt [(iBin oAdd (iBin oAdd (iBin oMul (iVar 7) (iC (.int 16807))) (iBin oMul (iC (.int 7)) (iVar 6))) (iC (.int 1)))]) (iC (.int 2147483647))))
  (sDrop (iApp (iVar 3) (iBin oMod (iCall oInt [(iBin oDiv (iVar 7) (iC (.int 997)))]) (iC (.int 1000))))))
abbrev L3__law_digits : FS := (sSeq (sAsg (ptB (.nm 5)) (iDef F__law_cell [(iVar 0), (iVar 4)]))
  (sSeq (sIf (iTr (iBin oLt (iVar 5) (iC (.int 0)))) (sAsg (ptB (.nm 5)) (iBin oSub (iC (.int 1)) (iBin oMul (iC (.int 2)) (iVar 5)))) sNx)
  (sIf (iTr (iBin oGe (iVar 5) (iBin oPow (iC (.int 10)) (iC (.int 18))))) (sFor (iRange1 [(iC (.int 60))]) (ptB (.nm 6)) L1__law_digits) (sSeq (sAsg (ptB (.nm 7)) (iBin oMod (iCall oInt [(iBin oAdd (iBin oAdd (iBin oMul (iVar 5) (iC (.int 48271))) (iBin oMul (iVar 4) (iC (.int 69621)))) (iC (.int 11)))]) (iC (.int 2147483647))))
  (sFor (iRange1 [(iC (.int 12))]) (ptB (.nm 6)) L2__law_digits)))))
def B__law_digits : FS :=
  (sSeq (sAsg (ptB (.nm 3)) (iCall oLstM []))
  (sSeq (sFor (iRange2 [(iVar 1), (iVar 2)]) (ptB (.nm 4)) L3__law_digits)
  (sRet (iFz (iVar 3)))))
theorem raw__law_digits (M : Mods w K mg) (h__law_cell : Ok1 P w K mg base "_law_cell" 1 ["script", "k"] F__law_cell) : Ok1 P w K mg base "_law_digits" 2 ["script", "first", "last"] (iBody 8 B__law_digits) := by
  obtain ⟨f, fd, F, hm, hb⟩ := M.f__law_digits
  refine ⟨f, fd, hm, F.kp, hb, fn_ok (k := 1) F sc__law_digits fun cdv A outer s H E hr hn => ?_⟩
  have hr_law_cell := hr.mono (j := 1) (by decide)
  have hu65 := room65 hr
  have hu1 := room1 hr
  exact (s_cons (s_set 3 sc__law_digits.nd (j_lstM a_nil))
  (s_cons (s_for PassesOwn.never rfl (i_range2 (by exact rfl) M.nb_range (a_cons (j_var 1) (a_cons (j_var 2) a_nil))) (g_nm 4 sc__law_digits.nd) (s_cons (s_set 5 sc__law_digits.nd (h__law_cell.jd hr_law_cell hn (by exact rfl) rfl (a_cons (j_var 0) (a_cons (j_var 4) a_nil))))
  (s_cons (s_if (t_cmp (j_pc op_ltA ok_cmp (j_var 5) j_int)) (s_one (s_set 5 sc__law_digits.nd (j_bin op_sub ok_sub j_int (j_bin op_mulA ok_mul j_int (j_var 5))))) s_nil)
  (s_one (s_if (t_cmp (j_pc op_geA ok_cmp (j_var 5) (j_bin op_pow ok_i j_int j_int))) (s_one (s_for PassesOwn.never rfl (i_range1 (by exact rfl) M.nb_range (a_cons j_int a_nil)) (g_nm 6 sc__law_digits.nd) (s_one (s_if (t_cmp (j_pc op_gtA ok_cmp (j_var 5) j_int)) (s_cons (s_drop (j_app (j_var 3) (j_bin op_mod ok_i (j_callT call_int1 ok_int (by exact rfl) M.nb_int boot_int (a_cons (j_var 5) a_nil)) j_int)))
  (s_one (s_set 5 sc__law_digits.nd (j_bin op_fdiv ok_i (j_var 5) j_int)))) s_nil)))) (s_cons (s_set 7 sc__law_digits.nd (j_bin op_mod ok_i (j_callT call_int1 ok_int (by exact rfl) M.nb_int boot_int (a_cons (j_bin op_addA ok_add (j_bin op_addA ok_add (j_bin op_mulA ok_mul (j_var 5) j_int) (j_bin op_mulA ok_mul (j_var 4) j_int)) j_int) a_nil)) j_int))
  (s_one (s_for PassesOwn.never rfl (i_range1 (by exact rfl) M.nb_range (a_cons j_int a_nil)) (g_nm 6 sc__law_digits.nd) (s_cons (s_set 7 sc__law_digits.nd (j_bin op_mod ok_i (j_callT call_int1 ok_int (by exact rfl) M.nb_int boot_int (a_cons (j_bin op_addA ok_add (j_bin op_addA ok_add (j_bin op_mulA ok_mul (j_var 7) j_int) (j_bin op_mulA ok_mul j_int (j_var 6))) j_int) a_nil)) j_int))
  (s_one (s_drop (j_app (j_var 3) (j_bin op_mod ok_i (j_callT call_int1 ok_int (by exact rfl) M.nb_int boot_int (a_cons (j_bin op_fdiv ok_i (j_var 7) j_int) a_nil)) j_int)))))))))))))
  (s_one (s_ret (j_fz (j_var 3))))))
def F__law_digits : List D → AH → Res D := iBody 8 B__law_digits
/-- the digits so far: at most n -/
def Dg (ah : AH) (n : Nat) (a : AH) : Prop := ∃ ds : List Int, ds.length ≤ n ∧ a = ah ++ [.lst (ds.map D.int)]
theorem Dg.app {ah a : AH} {n : Nat} (h : Dg ah n a) (hn : n ≤ 4000) (env : AE) (f : FE) (v : Int) (h3 : env[3]? = some (some (.ref ah.length))) (hf : f env a = .ok (.int v) a) : ∃ a', sDrop (iApp (iVar 3) f) env a = .ok (.nx, env) a' ∧ Dg ah (n + 1) a' := by
  obtain ⟨ds, h1, rfl⟩ := h
  refine ⟨_, eDrop (eApp (eV h3) last_at hf last_at (by rw [List.length_map, sizeLine_eq]; omega)), ds ++ [v], by simp; omega, ?_⟩
  rw [set_last, List.map_append]
  rfl
theorem digits_ex (ns : List Int) (ah : AH) (z : Nat) (hz : z ≤ 60) : ∃ (ds : List Int) (u : AH), F__law_digits [.lst (ns.map D.int), .int 0, .int (z : Int)] ah = .ok (.lst (ds.map D.int)) (ah ++ u) ∧ ds.length ≤ 4000 := by
  let S : D := .lst (ns.map D.int)
  let E (e4 e5 e6 e7 : Option D) : AE := [some S, some (.int 0), some (.int (z : Int)), some (.ref ah.length), e4, e5, e6, e7]
  have big : ∀ (v : Int) (m : Nat), m ≤ 3900 → ∀ (e4 e6 e7 : Option D) (a : AH), Dg ah m a → ∃ e5' e6' a', sFor (iRange1 [(iC (.int 60))]) (ptB (.nm 6)) (sIf (iTr (iBin oGt (iVar 5) (iC (.int 0)))) (sSeq (sDrop (iApp (iVar 3) (iBin oMod (iCall oInt [(iVar 5)]) (iC (.int 1000))))) (sAsg (ptB (.nm 5)) (iBin oDiv (iVar 5) (iC (.int 1000))))) sNx)
      (E e4 (some (.int v)) e6 e7) a = .ok (.nx, E e4 e5' e6' e7) a' ∧ Dg ah (m + 60) a' := by
    intro v m hm e4 e6 e7 a ha
    have loop := forL_inv (g := ptB (.nm 6)) (body := (sIf (iTr (iBin oGt (iVar 5) (iC (.int 0)))) (sSeq (sDrop (iApp (iVar 3) (iBin oMod (iCall oInt [(iVar 5)]) (iC (.int 1000))))) (sAsg (ptB (.nm 5)) (iBin oDiv (iVar 5) (iC (.int 1000))))) sNx))
      (I := fun i env a => ∃ (v : Int) (e6 : Option D), env = E e4 (some (.int v)) e6 e7 ∧ i ≤ 60 ∧ Dg ah (m + i) a) (ds := (List.range 60).map dI) (k := 0) (env := E e4 (some (.int v)) e6 e7) (ah := a) ⟨v, e6, rfl, by omega, ha⟩ ?_
    · obtain ⟨env', a', l1, v', e6', rfl, _, k⟩ := loop
      rw [List.length_map, List.length_range, Nat.zero_add] at k
      exact ⟨_, _, a', eFor (eRg1 (n := 60) eC (by omega)) l1, k⟩
    · rintro i d env a hd ⟨v, e6, rfl, hi, k⟩
      have hl := (List.getElem?_eq_some_iff.mp hd).1
      rw [List.length_map, List.length_range] at hl
      rw [Nat.zero_add] at *
      by_cases h0 : 0 < v
      · obtain ⟨a2, s1, s2⟩ := k.app (by omega) (E e4 (some (.int v)) (some d) e7) (iBin oMod (iCall oInt [(iVar 5)]) (iC (.int 1000))) (v % 1000) rfl (eBin (eCall (eA (eV rfl) eA0) oInt_int) eC (oMod_int (by decide)))
        exact ⟨_, .nx, _, a2, rfl, .inl rfl, eSIfT (eTr (eBin (eV rfl) eC (by rw [oGt_int, decide_eq_true h0]))) (eSeq s1 (eAsg (eBin (eV rfl) eC (oDiv_int (by decide))) rfl)), _, _, rfl, by omega, s2⟩
      · obtain ⟨ds, z1, z2⟩ := k
        exact ⟨_, .nx, _, a, rfl, .inl rfl, eSIfF (eTr (eBin (eV rfl) eC (by rw [oGt_int, decide_eq_false h0]))) eNx, v, some d, rfl, by omega, ds, by omega, z2⟩
  have small' : ∀ (v : Int) (m : Nat), m ≤ 3900 → ∀ (e4 e5 e6 : Option D) (a : AH), Dg ah m a → ∃ e6' e7' a', sFor (iRange1 [(iC (.int 12))]) (ptB (.nm 6)) (sSeq (sAsg (ptB (.nm 7)) (iBin oMod (iCall oInt [(iBin oAdd (iBin oAdd (iBin oMul (iVar 7) (iC (.int 16807))) (iBin oMul (iC (.int 7)) (iVar 6))) (iC (.int 1)))]) (iC (.int 2147483647))))
      (sDrop (iApp (iVar 3) (iBin oMod (iCall oInt [(iBin oDiv (iVar 7) (iC (.int 997)))]) (iC (.int 1000)))))) (E e4 e5 e6 (some (.int v))) a = .ok (.nx, E e4 e5 e6' e7') a' ∧ Dg ah (m + 60) a' := by
    intro v m hm e4 e5 e6 a ha
    have loop := forL_inv (g := ptB (.nm 6)) (body := (sSeq (sAsg (ptB (.nm 7)) (iBin oMod (iCall oInt [(iBin oAdd (iBin oAdd (iBin oMul (iVar 7) (iC (.int 16807))) (iBin oMul (iC (.int 7)) (iVar 6))) (iC (.int 1)))]) (iC (.int 2147483647))))
        (sDrop (iApp (iVar 3) (iBin oMod (iCall oInt [(iBin oDiv (iVar 7) (iC (.int 997)))]) (iC (.int 1000)))))))
      (I := fun i env a => ∃ (v : Int) (e6 : Option D), env = E e4 e5 e6 (some (.int v)) ∧ i ≤ 12 ∧ Dg ah (m + i) a) (ds := (List.range 12).map dI) (k := 0) (env := E e4 e5 e6 (some (.int v))) (ah := a) ⟨v, e6, rfl, by omega, ha⟩ ?_
    · obtain ⟨env', a', l1, v', e6', rfl, _, ds, z1, z2⟩ := loop
      rw [List.length_map, List.length_range, Nat.zero_add] at z1
      exact ⟨_, _, a', eFor (eRg1 (n := 12) eC (by omega)) l1, ds, by omega, z2⟩
    · rintro i d env a hd ⟨v, e6, rfl, hi, k⟩
      have hl := (List.getElem?_eq_some_iff.mp hd).1
      rw [List.length_map, List.length_range] at hl
      rw [Nat.zero_add] at *
      rw [List.getElem?_map, List.getElem?_range hl] at hd
      obtain rfl : dI i = d := by simpa using hd
      have e1 : (iBin oMod (iCall oInt [(iBin oAdd (iBin oAdd (iBin oMul (iVar 7) (iC (.int 16807))) (iBin oMul (iC (.int 7)) (iVar 6))) (iC (.int 1)))]) (iC (.int 2147483647))) (E e4 e5 (some (dI i)) (some (.int v))) a = .ok (.int ((v * 16807 + 7 * (i : Int) + 1) % 2147483647)) a :=
        eBin (eCall (eA (eBin (eBin (eBin (eV rfl) eC (oMulR (by decide) (by decide))) (eBin eC (eV (d := .int (i : Int)) rfl) (eMulSmall (by decide) (by decide))) oAdd_int) eC oAdd_int) eA0) oInt_int) eC (oMod_int (by decide))
      obtain ⟨a2, s1, s2⟩ := k.app (by omega) (E e4 e5 (some (dI i)) (some (.int ((v * 16807 + 7 * (i : Int) + 1) % 2147483647)))) (iBin oMod (iCall oInt [(iBin oDiv (iVar 7) (iC (.int 997)))]) (iC (.int 1000))) _ rfl
        (eBin (eCall (eA (eBin (eV rfl) eC (oDiv_int (by decide))) eA0) oInt_int) eC (oMod_int (by decide)))
      exact ⟨_, .nx, _, a2, rfl, .inl rfl, eSeq (eAsg e1 rfl) s1, _, _, rfl, by omega, s2⟩
  have loop := forL_inv (g := ptB (.nm 4)) (body := (sSeq (sAsg (ptB (.nm 5)) (iDef F__law_cell [(iVar 0), (iVar 4)]))
      (sSeq (sIf (iTr (iBin oLt (iVar 5) (iC (.int 0)))) (sAsg (ptB (.nm 5)) (iBin oSub (iC (.int 1)) (iBin oMul (iC (.int 2)) (iVar 5)))) sNx)
      (sIf (iTr (iBin oGe (iVar 5) (iBin oPow (iC (.int 10)) (iC (.int 18))))) (sFor (iRange1 [(iC (.int 60))]) (ptB (.nm 6)) (sIf (iTr (iBin oGt (iVar 5) (iC (.int 0)))) (sSeq (sDrop (iApp (iVar 3) (iBin oMod (iCall oInt [(iVar 5)]) (iC (.int 1000))))) (sAsg (ptB (.nm 5)) (iBin oDiv (iVar 5) (iC (.int 1000))))) sNx))
      (sSeq (sAsg (ptB (.nm 7)) (iBin oMod (iCall oInt [(iBin oAdd (iBin oAdd (iBin oMul (iVar 5) (iC (.int 48271))) (iBin oMul (iVar 4) (iC (.int 69621)))) (iC (.int 11)))]) (iC (.int 2147483647))))
      (sFor (iRange1 [(iC (.int 12))]) (ptB (.nm 6)) (sSeq (sAsg (ptB (.nm 7)) (iBin oMod (iCall oInt [(iBin oAdd (iBin oAdd (iBin oMul (iVar 7) (iC (.int 16807))) (iBin oMul (iC (.int 7)) (iVar 6))) (iC (.int 1)))]) (iC (.int 2147483647))))
      (sDrop (iApp (iVar 3) (iBin oMod (iCall oInt [(iBin oDiv (iVar 7) (iC (.int 997)))]) (iC (.int 1000))))))))))))
      (I := fun i env a => ∃ e4 e5 e6 e7, env = E e4 e5 e6 e7 ∧ i ≤ z ∧ Dg ah (60 * i) a) (ds := (List.range z).map dI) (k := 0) (env := E none none none none) (ah := ah ++ [.lst []]) ⟨none, none, none, none, rfl, by omega, [], by simp, rfl⟩ ?_
  · obtain ⟨env', a', l1, e4, e5, e6, e7, rfl, _, ds, z1, rfl⟩ := loop
    rw [List.length_map, List.length_range] at z1
    exact ⟨ds, [.fz (.lst (ds.map D.int))], eBodyR (eSeq (eAsg (eCall eA0 lstM0) rfl) (eSeq (eFor (eRg2 (n := z) (eV rfl) (eV rfl) (by omega)) l1) (eRet (eFz (eV rfl) fz_last)))), by omega⟩
  · rintro i d env a hd ⟨e4, e5, e6, e7, rfl, hi, k⟩
    have hl := (List.getElem?_eq_some_iff.mp hd).1
    rw [List.length_map, List.length_range] at hl
    rw [Nat.zero_add] at *
    rw [List.getElem?_map, List.getElem?_range hl] at hd
    obtain rfl : dI i = d := by simpa using hd
    obtain ⟨v, hv⟩ := cell_ex ns i a
    obtain ⟨v2, hv2⟩ : ∃ v2 : Int, (sIf (iTr (iBin oLt (iVar 5) (iC (.int 0)))) (sAsg (ptB (.nm 5)) (iBin oSub (iC (.int 1)) (iBin oMul (iC (.int 2)) (iVar 5)))) sNx) (E (some (dI i)) (some (.int v)) e6 e7) a = .ok (.nx, E (some (dI i)) (some (.int v2)) e6 e7) a := by
      by_cases h0 : v < 0
      · exact ⟨1 - 2 * v, eSIfT (eTr (eBin (eV rfl) eC (by rw [oLtI, decide_eq_true h0]))) (eAsg (eBin eC (eBin eC (eV rfl) (eMulSmall (by decide) (by decide))) oSub_int) rfl)⟩
      · exact ⟨v, eSIfF (eTr (eBin (eV rfl) eC (by rw [oLtI, decide_eq_false h0]))) eNx⟩
    have pw : ∀ (env : AE) (a : AH), (iBin oPow (iC (.int 10)) (iC (.int 18))) env a = .ok (.int (10 ^ (18 : Int).toNat)) a := fun env a => eBin eC eC (oPow_int ⟨by decide, by decide, by decide⟩)
    by_cases h1 : (10 : Int) ^ (18 : Int).toNat ≤ v2
    · obtain ⟨e5', e6', a', q1, q2⟩ := big v2 (60 * i) (by omega) (some (dI i)) e6 e7 a k
      exact ⟨_, .nx, _, a', rfl, .inl rfl, eSeq (eAsg (eDef (eA (eV rfl) (eA (eV rfl) eA0)) hv) rfl) (eSeq hv2 (eSIfT (eTr (eBin (eV rfl) (pw _ _) (by rw [oGe_int, decide_eq_true h1]))) q1)), _, _, _, _, rfl, by omega, by rw [Nat.mul_add]; exact q2⟩
    · have e1 : (iBin oMod (iCall oInt [(iBin oAdd (iBin oAdd (iBin oMul (iVar 5) (iC (.int 48271))) (iBin oMul (iVar 4) (iC (.int 69621)))) (iC (.int 11)))]) (iC (.int 2147483647))) (E (some (dI i)) (some (.int v2)) e6 e7) a = .ok (.int ((v2 * 48271 + (i : Int) * 69621 + 11) % 2147483647)) a :=
        eBin (eCall (eA (eBin (eBin (eBin (eV rfl) eC (oMulR (by decide) (by decide))) (eBin (eV (d := .int (i : Int)) rfl) eC (oMulR (by decide) (by decide))) oAdd_int) eC oAdd_int) eA0) oInt_int) eC (oMod_int (by decide))
      obtain ⟨e6', e7', a', q1, q2⟩ := small' ((v2 * 48271 + (i : Int) * 69621 + 11) % 2147483647) (60 * i) (by omega) (some (dI i)) (some (.int v2)) e6 a k
      exact ⟨_, .nx, _, a', rfl, .inl rfl, eSeq (eAsg (eDef (eA (eV rfl) (eA (eV rfl) eA0)) hv) rfl) (eSeq hv2 (eSIfF (eTr (eBin (eV rfl) (pw _ _) (by rw [oGe_int, decide_eq_false h1]))) (eSeq (eAsg e1 rfl) q1))), _, _, _, _, rfl, by omega, by rw [Nat.mul_add]; exact q2⟩
theorem sc__law_draw : FnScope ["box", "many", "at"] ["box", "many"] (defScope s__law_draw) := ⟨rfl, rfl, rfl, by decide +kernel, rfl, by decide +kernel, by decide +kernel⟩
def B__law_draw : FS :=
  (sSeq (sAsg (ptB (.nm 2)) (iBin oIx (iVar 0) (iC (.int 1))))
  (sSeq (sPut (iVar 0) (iC (.int 1)) (iBin oAdd (iVar 2) (iC (.int 1))))
  (sSeq (sIf (iTr (iBin oLt (iVar 2) (iCall oLen [(iBin oIx (iVar 0) (iC (.int 0)))]))) (sRet (iBin oMod (iCall oInt [(iBin oIx (iBin oIx (iVar 0) (iC (.int 0))) (iVar 2))]) (iVar 1))) sNx)
  (sRet (iBin oMod (iCall oInt [(iBin oAdd (iBin oMul (iVar 2) (iC (.int 7))) (iC (.int 3)))]) (iVar 1))))))
theorem raw__law_draw (M : Mods w K mg) : Ok1 P w K mg base "_law_draw" 1 ["box", "many"] (iBody 3 B__law_draw) := by
  obtain ⟨f, fd, F, hm, hb⟩ := M.f__law_draw
  refine ⟨f, fd, hm, F.kp, hb, fn_ok (k := 0) F sc__law_draw fun cdv A outer s H E hr hn => ?_⟩
  have hu65 := room65 hr
  have hu1 := room1 hr
  exact (s_cons (s_set 2 sc__law_draw.nd (j_ix hu1 (j_var 0) j_int))
  (s_cons (s_put hu1 (j_var 0) j_int (j_bin op_addA ok_add (j_var 2) j_int))
  (s_cons (s_if (t_cmp (j_pc op_ltA ok_cmp (j_var 2) (j_callB call_lenA ok_len (by exact rfl) M.nb_len boot_len (a_cons (j_ix hu1 (j_var 0) j_int) a_nil)))) (s_one (s_ret (j_bin op_mod ok_i (j_callT call_int1 ok_int (by exact rfl) M.nb_int boot_int (a_cons (j_ix hu1 (j_ix hu1 (j_var 0) j_int) (j_var 2)) a_nil)) (j_var 1)))) s_nil)
  (s_one (s_ret (j_bin op_mod ok_i (j_callT call_int1 ok_int (by exact rfl) M.nb_int boot_int (a_cons (j_bin op_addA ok_add (j_bin op_mulA ok_mul (j_var 2) j_int) j_int) a_nil)) (j_var 1)))))))
def F__law_draw : List D → AH → Res D := iBody 3 B__law_draw
/-- the box: digits, and how many of them are drawn -/
def Box (b : Nat) (a : AH) : Prop := ∃ (ds : List Int) (n : Nat), ds.length ≤ 4000 ∧ a[b]? = some (.lst [.lst (ds.map D.int), dI n])
theorem ix_ref {b : Nat} {a : AH} {xs : List D} {i : Nat} {d : D} (h : a[b]? = some (.lst xs)) (hd : xs[i]? = some d) : oIx (.ref b) (.int (i : Int)) a = .ok d a := by
  have e : atI xs (i : Int) = some d := by rw [at_nat, hd]
  unfold oIx seqD
  simp only [h, e]
theorem draw_ex {b : Nat} {a : AH} {m : Nat} (h : Box b a) (hm : 0 < m) : ∃ (r : Nat) (o : AO), r < m ∧ F__law_draw [.ref b, dI m] a = .ok (dI r) (a.set b o) ∧ Box b (a.set b o) := by
  obtain ⟨ds, n, hz, hb⟩ := h
  have hlt := (List.getElem?_eq_some_iff.mp hb).1
  have put : putD (.ref b) (.int 1) (.int ((n : Int) + 1)) a = some (a.set b (.lst [.lst (ds.map D.int), dI (n + 1)])) := by
    unfold putD
    simp only [hb]
    rfl
  have hb2 : (a.set b (.lst [.lst (ds.map D.int), dI (n + 1)]))[b]? = some (.lst [.lst (ds.map D.int), dI (n + 1)]) := List.getElem?_set_self hlt
  have res : ∀ v : Int, ∃ r : Nat, r < m ∧ v % (m : Int) = (r : Int) := fun v => by
    have h1 := Int.emod_nonneg v (b := (m : Int)) (by omega)
    have h2 := Int.emod_lt_of_pos v (b := (m : Int)) (by omega)
    exact ⟨(v % (m : Int)).toNat, by omega, by omega⟩
  by_cases hn : n < ds.length
  · obtain ⟨r, hr, e⟩ := res ds[n]
    refine ⟨r, _, hr, okd (u := .int (ds[n] % (m : Int))) ?_ (by rw [e]; rfl), ds, n + 1, hz, hb2⟩
    exact eBodyR (eSeq (eAsg (eBin (eV rfl) eC (ix_ref (i := 1) hb rfl)) rfl) (eSeq (ePut (eBin (eV (d := .int (n : Int)) rfl) eC oAdd_int) (eV rfl) eC put)
      (eSeqR (eSIfT (eTr (eBin (eV (d := .int (n : Int)) rfl) (eCall (eA (eBin (eV rfl) eC (ix_ref (i := 0) hb2 rfl)) eA0) oLen_lstI) (by rw [oLtI, decide_eq_true (by omega)])))
        (eRet (eBin (eCall (eA (eBin (eBin (eV rfl) eC (ix_ref (i := 0) hb2 rfl)) (eV (d := .int (n : Int)) rfl) (ix_lst (atI_map hn) rfl)) eA0) oInt_int) (eV (d := .int (m : Int)) rfl) (oMod_int (by omega))))))))
  · obtain ⟨r, hr, e⟩ := res ((n : Int) * 7 + 3)
    refine ⟨r, _, hr, okd (u := .int (((n : Int) * 7 + 3) % (m : Int))) ?_ (by rw [e]; rfl), ds, n + 1, hz, hb2⟩
    exact eBodyR (eSeq (eAsg (eBin (eV rfl) eC (ix_ref (i := 1) hb rfl)) rfl) (eSeq (ePut (eBin (eV (d := .int (n : Int)) rfl) eC oAdd_int) (eV rfl) eC put)
      (eSeq (eSIfF (eTr (eBin (eV (d := .int (n : Int)) rfl) (eCall (eA (eBin (eV rfl) eC (ix_ref (i := 0) hb2 rfl)) eA0) oLen_lstI) (by rw [oLtI, decide_eq_false (by omega)]))) eNx)
        (eRet (eBin (eCall (eA (eBin (eBin (eV (d := .int (n : Int)) rfl) eC (oMulR (by decide) (by decide))) eC oAdd_int) eA0) oInt_int) (eV (d := .int (m : Int)) rfl) (oMod_int (by omega)))))))
/-- nothing but the box has changed -/
def Upd (b : Nat) (a a' : AH) : Prop := a'.length = a.length ∧ ∀ j, j ≠ b → a'[j]? = a[j]?
theorem Upd.refl {b : Nat} {a : AH} : Upd b a a := ⟨rfl, fun _ _ => rfl⟩
theorem Upd.trans {b : Nat} {a a1 a2 : AH} (h : Upd b a a1) (k : Upd b a1 a2) : Upd b a a2 := ⟨k.1.trans h.1, fun j n => (k.2 j n).trans (h.2 j n)⟩
theorem draw_up {b : Nat} {a : AH} (m : Nat) (h : Box b a) (hm : 0 < m) : ∃ (r : Nat) (a' : AH), r < m ∧ F__law_draw [.ref b, dI m] a = .ok (dI r) a' ∧ Box b a' ∧ Upd b a a' := by
  obtain ⟨r, o, h1, h2, h3⟩ := draw_ex h hm
  exact ⟨r, _, h1, h2, h3, by simp, fun j n => List.getElem?_set_ne (Ne.symm n)⟩
theorem pick_at {xs : List Nat} {r : Nat} (h : r < xs.length) : ∃ v, v ∈ xs ∧ ∀ a : AH, oIx (.lst (xs.map dI)) (dI r) a = .ok (dI v) a :=
  ⟨xs[r], List.getElem_mem h, fun a => ix_lst (n := r) (by rw [List.getElem?_map, List.getElem?_eq_getElem h]; rfl) rfl⟩
theorem Box.app {b : Nat} {a : AH} {o : AO} (h : Box b a) : Box b (a ++ [o]) := by
  obtain ⟨ds, n, z1, z2⟩ := h
  exact ⟨ds, n, z1, by rw [List.getElem?_append_left (List.getElem?_eq_some_iff.mp z2).1]; exact z2⟩
theorem Box.set {b n : Nat} {a : AH} {o : AO} (h : Box b a) (hn : n ≠ b) : Box b (a.set n o) := by
  obtain ⟨ds, k, z1, z2⟩ := h
  exact ⟨ds, k, z1, by rw [List.getElem?_set_ne hn]; exact z2⟩
theorem Box.lt {b : Nat} {a : AH} (h : Box b a) : b < a.length := by
  obtain ⟨ds, k, z1, z2⟩ := h
  exact (List.getElem?_eq_some_iff.mp z2).1
theorem sc__law_folding : FnScope ["box", "k"] ["box"] (defScope s__law_folding) := ⟨rfl, rfl, rfl, by decide +kernel, rfl, by decide +kernel, by decide +kernel⟩
abbrev E1__law_folding : FE := (iBin oIx (iC (.str ⟨#[76, 82, 84, 66]⟩)) (iDef F__law_draw [(iVar 0), (iC (.int 4))]))
def B__law_folding : FS :=
  (sRet (iJoin (iC (.str ⟨#[]⟩)) (iLc (iRange1 [(iBin oAdd (iC (.int 1)) (iDef F__law_draw [(iVar 0), (iC (.int 5))]))]) (ptB (.nm 1)) (fun _ ah => .ok true ah) E1__law_folding [1])))
theorem raw__law_folding (M : Mods w K mg) (h__law_draw : Ok1 P w K mg base "_law_draw" 1 ["box", "many"] F__law_draw) : Ok1 P w K mg base "_law_folding" 2 ["box"] (iBody 2 B__law_folding) := by
  obtain ⟨f, fd, F, hm, hb⟩ := M.f__law_folding
  refine ⟨f, fd, hm, F.kp, hb, fn_ok (k := 1) F sc__law_folding fun cdv A outer s H E hr hn => ?_⟩
  have hr_law_draw := hr.mono (j := 1) (by decide)
  have hu65 := room65 hr
  have hu1 := room1 hr
  exact (s_one (s_ret (j_join (j_str ⟨#[]⟩ (by kernel_rfl)) (j_lc rfl sc__law_folding.nd (i_range1 (by exact rfl) M.nb_range (a_cons (j_bin op_addA ok_add j_int (h__law_draw.jd hr_law_draw hn (by exact rfl) rfl (a_cons (j_var 0) (a_cons j_int a_nil)))) a_nil)) (own := [(("k" : Str), 1)]) (blk_of (by kernel_rfl)) (by decide) (fun _ _ _ _ _ => (g_nm 1 sc__law_folding.nd)) (fun _ _ _ _ _ => c_nil) (fun _ _ _ _ _ => (j_ix hu1 (j_str ⟨#[76, 82, 84, 66]⟩ (by kernel_rfl)) (h__law_draw.jd hr_law_draw hn (by exact rfl) rfl (a_cons (j_var 0) (a_cons j_int a_nil)))))))))
def F__law_folding : List D → AH → Res D := iBody 2 B__law_folding
theorem eJoin {fo f : FE} {env : AE} {ah a1 a2 : AH} {a : Str} {y : D} {z : D} (h1 : fo env ah = .ok (.str a) a1) (h2 : f env a1 = .ok y a2) (h3 : mJoin a y a2 = .ok z a2) : iJoin fo f env ah = .ok z a2 := by
  unfold iJoin iM1
  rw [h1, Res.bind_ok]
  simp only
  rw [h2, Res.bind_ok, h3]
theorem letter_ix {r : Nat} (h : r < 4) (a : AH) : ∃ c : Lt, oIx (.str ⟨#[76, 82, 84, 66]⟩) (.int (r : Int)) a = .ok (.str (ls c)) a := by
  have : r = 0 ∨ r = 1 ∨ r = 2 ∨ r = 3 := by omega
  rcases this with e | e | e | e <;> subst e
  · exact ⟨.L, rfl⟩
  · exact ⟨.R, rfl⟩
  · exact ⟨.T, rfl⟩
  · exact ⟨.B, rfl⟩
theorem sum_ls (l : List Lt) : ((l.map ls).map (·.length)).sum = l.length := by
  induction l with
  | nil => rfl
  | cons c l ih =>
    simp only [List.map_cons, List.sum_cons, List.length_cons]
    rw [ih]
    show 1 + l.length = l.length + 1
    omega
theorem join_ls (l : List Lt) (h : l.length ≤ 4096) (a : AH) : mJoin ⟨#[]⟩ (.lst (l.map fun c => D.str (ls c))) a = .ok (.str (fs l)) a := by
  have e : (l.map fun c => D.str (ls c)) = (l.map ls).map D.str := by rw [List.map_map]; rfl
  have j : Txt.join ⟨#[]⟩ (l.map ls) = fs l := by
    rw [show Txt.join ⟨#[]⟩ (l.map ls) = Str.join ⟨#[]⟩ (l.map ls) from TL.join_eq _ _]
    have := PyProof.Rows.join_nil_signs (fs l)
    rw [show PyProof.Rows.signs (fs l) = l.map ls by
      unfold PyProof.Rows.signs
      rw [fs_cps, List.map_map]
      rfl] at this
    exact this
  have sm := sum_ls l
  unfold mJoin
  simp only [seqD]
  rw [e]
  simp only [strsD_map]
  rw [if_pos (by rw [sm, List.length_map]; show l.length + l.length * 0 ≤ 16777216; omega), j]
theorem box_len {b : Nat} {a : AH} (h : Box b a) : b < a.length := by
  obtain ⟨_, _, _, h⟩ := h
  exact (List.getElem?_eq_some_iff.mp h).1
theorem folding_ex {b : Nat} {a : AH} (h : Box b a) : ∃ (l : List Lt) (a' : AH), 1 ≤ l.length ∧ l.length ≤ 5 ∧ F__law_folding [.ref b] a = .ok (.str (fs l)) a' ∧ Box b a' ∧ a'.length = a.length := by
  obtain ⟨r, o, hr, e1, h1⟩ := draw_ex (m := 5) h (by omega)
  obtain ⟨ys, a', k1, k2, k3, k4, k5⟩ := compL_ex (g := ptB (.nm 1)) (f := iBin oIx (iC (.str ⟨#[76, 82, 84, 66]⟩)) (iDef F__law_draw [(iVar 0), (iC (.int 4))])) (env := [some (.ref b), none]) (e := dI) (P := fun x => Box b x ∧ x.length = a.length) (Q := fun y => ∃ c : Lt, y = .str (ls c)) (xs := List.range (1 + r)) (acc := []) (ah := a.set b o) ⟨h1, by simp⟩
    (fun x _ a1 ⟨p1, p2⟩ => by
      obtain ⟨r, o, hr, e1, q1⟩ := draw_ex (m := 4) p1 (by omega)
      obtain ⟨c, hc⟩ := letter_ix hr (a1.set b o)
      exact ⟨_, _, _, rfl, eBin eC (eDef (eA (eV rfl) (eA eC eA0)) e1) hc, ⟨c, rfl⟩, q1, by rw [List.length_set]; exact p2⟩) (by rw [List.length_range]; exact small (by simp; omega))
  rw [List.length_range] at k2
  obtain ⟨l, rfl⟩ : ∃ l : List Lt, ys = l.map fun c => D.str (ls c) := by
    clear k1 k2
    induction ys with
    | nil => exact ⟨[], rfl⟩
    | cons y ys ih =>
      obtain ⟨c, rfl⟩ := k3 y List.mem_cons_self
      obtain ⟨l, rfl⟩ := ih fun z hz => k3 z (List.mem_cons_of_mem _ hz)
      exact ⟨c :: l, rfl⟩
  rw [List.length_map] at k2
  refine ⟨l, a', by omega, by omega, eBodyR (eRet (eJoin eC (eLc (eRg1 (n := 1 + r) (okd (eBin eC (eDef (eA (eV rfl) (eA eC eA0)) e1) oAdd_int) (by congr 1)) (by omega)) k1) (join_ls l (by omega) _))), k4, k5⟩
theorem folding_up {b : Nat} {a : AH} (h : Box b a) : ∃ (l : List Lt) (a' : AH), 1 ≤ l.length ∧ l.length ≤ 5 ∧ F__law_folding [.ref b] a = .ok (.str (fs l)) a' ∧ Box b a' ∧ Upd b a a' := by
  obtain ⟨r, a0, hr, e1, h1, u1⟩ := draw_up 5 h (by omega)
  obtain ⟨ys, a', k1, k2, k3, ⟨k4, k5⟩⟩ := compL_ex (g := ptB (.nm 1)) (f := iBin oIx (iC (.str ⟨#[76, 82, 84, 66]⟩)) (iDef F__law_draw [(iVar 0), (iC (.int 4))])) (env := [some (.ref b), none]) (e := dI) (P := fun x => Box b x ∧ Upd b a x) (Q := fun y => ∃ c : Lt, y = .str (ls c)) (xs := List.range (1 + r)) (acc := []) (ah := a0) ⟨h1, u1⟩
    (fun x _ a1 ⟨p1, p2⟩ => by
      obtain ⟨r, a2, hr, e1, q1, u2⟩ := draw_up 4 p1 (by omega)
      obtain ⟨c, hc⟩ := letter_ix hr a2
      exact ⟨_, _, _, rfl, eBin eC (eDef (eA (eV rfl) (eA eC eA0)) e1) hc, ⟨c, rfl⟩, q1, p2.trans u2⟩) (by rw [List.length_range]; exact small (by simp; omega))
  rw [List.length_range] at k2
  obtain ⟨l, rfl⟩ : ∃ l : List Lt, ys = l.map fun c => D.str (ls c) := by
    clear k1 k2
    induction ys with
    | nil => exact ⟨[], rfl⟩
    | cons y ys ih =>
      obtain ⟨c, rfl⟩ := k3 y List.mem_cons_self
      obtain ⟨l, rfl⟩ := ih fun z hz => k3 z (List.mem_cons_of_mem _ hz)
      exact ⟨c :: l, rfl⟩
  rw [List.length_map] at k2
  refine ⟨l, a', by omega, by omega, eBodyR (eRet (eJoin eC (eLc (eRg1 (n := 1 + r) (okd (eBin eC (eDef (eA (eV rfl) (eA eC eA0)) e1) oAdd_int) (by congr 1)) (by omega)) k1) (join_ls l (by omega) _))), k4, k5⟩
theorem sc__law_size : FnScope ["folding", "across", "letter"] ["folding"] (defScope s__law_size) := ⟨rfl, rfl, rfl, by decide +kernel, rfl, by decide +kernel, by decide +kernel⟩
abbrev T1__law_size : FT := (iTr (iBin oIn (iVar 2) (iC (.str ⟨#[76, 82]⟩))))
abbrev E1__law_size : FE := (iVar 2)
def B__law_size : FS :=
  (sSeq (sAsg (ptB (.nm 1)) (iCall oLen [(iLc (iSeqS (iVar 0)) (ptB (.nm 2)) T1__law_size E1__law_size [2])]))
  (sRet (iCall oLst [(iBin oIx (iCall oLst [(iC (.int 1)), (iC (.int 2)), (iC (.int 4)), (iC (.int 8)), (iC (.int 16)), (iC (.int 32))]) (iVar 1)), (iBin oIx (iCall oLst [(iC (.int 1)), (iC (.int 2)), (iC (.int 4)), (iC (.int 8)), (iC (.int 16)), (iC (.int 32))]) (iBin oSub (iCall oLen [(iVar 0)]) (iVar 1)))])))
theorem raw__law_size (M : Mods w K mg) : Ok1 P w K mg base "_law_size" 1 ["folding"] (iBody 3 B__law_size) := by
  obtain ⟨f, fd, F, hm, hb⟩ := M.f__law_size
  refine ⟨f, fd, hm, F.kp, hb, fn_ok (k := 0) F sc__law_size fun cdv A outer s H E hr hn => ?_⟩
  have hu65 := room65 hr
  have hu1 := room1 hr
  exact (s_cons (s_set 1 sc__law_size.nd (j_callB call_lenA ok_len (by exact rfl) M.nb_len boot_len (a_cons (j_lc rfl sc__law_size.nd (i_seqS (j_var 0)) (own := [(("letter" : Str), 2)]) (blk_of (by kernel_rfl)) (by decide) (fun _ _ _ _ _ => (g_nm 2 sc__law_size.nd)) (fun _ _ _ _ _ => (c_one (t_cmp (j_pc (op_inA hu65) ok_in (j_var 2) (j_str ⟨#[76, 82]⟩ (by kernel_rfl)))))) (fun _ _ _ _ _ => (j_var 2))) a_nil)))
  (s_one (s_ret (j_lst (a_cons (j_ix hu1 (j_lst (a_cons j_int (a_cons j_int (a_cons j_int (a_cons j_int (a_cons j_int (a_cons j_int a_nil))))))) (j_var 1)) (a_cons (j_ix hu1 (j_lst (a_cons j_int (a_cons j_int (a_cons j_int (a_cons j_int (a_cons j_int (a_cons j_int a_nil))))))) (j_bin op_sub ok_sub (j_callB call_lenA ok_len (by exact rfl) M.nb_len boot_len (a_cons (j_var 0) a_nil)) (j_var 1))) a_nil))))))
theorem pw6 {n : Nat} {ah : AH} (h : n ≤ 5) : oIx (.lst [.int 1, .int 2, .int 4, .int 8, .int 16, .int 32]) (.int (n : Int)) ah = .ok (dI (2 ^ n)) ah := by
  have : n = 0 ∨ n = 1 ∨ n = 2 ∨ n = 3 ∨ n = 4 ∨ n = 5 := by omega
  rcases this with e | e | e | e | e | e <;> subst e <;> rfl
theorem lst6 {a b c d e f : D} {ah : AH} : oLst [a, b, c, d, e, f] ah = .ok (.lst [a, b, c, d, e, f]) ah := oLst_eq (small (by simp))
def F__law_size : List D → AH → Res D := specF (fun l : List Lt => l.length ≤ 5) (fun l => [.str (fs l)]) fun l => .lst [dI (sizeM l).1, dI (sizeM l).2]
theorem F__law_size_eq {l : List Lt} {ah : AH} (h : l.length ≤ 5) : F__law_size [.str (fs l)] ah = .ok (.lst [dI (sizeM l).1, dI (sizeM l).2]) ah := specF_eq (x := l) (fun x y e => by
  simp only [List.cons.injEq, D.str.injEq] at e
  rw [fs_inj e.1]) h
theorem ok__law_size (M : Mods w K mg) : Ok1 P w K mg base "_law_size" 1 ["folding"] F__law_size := (raw__law_size M).spec (fun _ _ => rfl) fun l ah h => ⟨[], by
  have h : l.length ≤ 5 := h
  have ad := across_down l
  have e2 : oLen [.str (fs l)] ah = .ok (.int ((l.length : Nat) : Int)) ah := by
    unfold oLen
    simp only [fs_len]
    rw [if_pos (small (by omega))]
  have e3 : oLen [.lst ((l.filter Lt.across).map fun c => D.str (ls c))] ah = .ok (.int ((acrossM l : Nat) : Int)) ah := by rw [oLen_lst, List.length_map]; rfl
  have e4 : ((l.length : Nat) : Int) - ((acrossM l : Nat) : Int) = ((l.length - acrossM l : Nat) : Int) := by omega
  have six : ∀ env : AE, iCall oLst [(iC (.int 1)), (iC (.int 2)), (iC (.int 4)), (iC (.int 8)), (iC (.int 16)), (iC (.int 32))] env ah = .ok (.lst [.int 1, .int 2, .int 4, .int 8, .int 16, .int 32]) ah := fun env => eCall (eA eC (eA eC (eA eC (eA eC (eA eC (eA eC eA0)))))) lst6
  have comp : compL (ptB (.nm 2)) (iTr (iBin oIn (iVar 2) (iC (.str ⟨#[76, 82]⟩)))) (iVar 2) [some (.str (fs l)), none, none] (l.map fun c => D.str (ls c)) [] ah = .ok ([] ++ (l.filter Lt.across).map fun c => D.str (ls c)) ah :=
    compL_if (fun c _ => ⟨_, rfl, eTr (eBin (eV rfl) eC (in_LR c _)), fun _ => eV rfl⟩) (by simp; exact small (by omega))
  rw [List.append_nil]
  refine eBodyR (eSeq (eAsg (eCall (eA (eLc (by rw [eSqS (eV rfl), str_ls]) comp) eA0) e3) rfl) (eRet (eCall (eA (eBin (six _) (eV rfl) (pw6 (by omega))) (eA (eBin (six _) (eBin (eCall (eA (eV rfl) eA0) e2) (eV rfl) (by rw [oSub_int, e4])) (pw6 (by omega))) eA0)) lst2)))⟩
theorem sc__law_over : FnScope ["stack", "is_across", "found", "column", "row", "face", "head", "other"] ["stack", "is_across"] (defScope s__law_over) := ⟨rfl, rfl, rfl, by decide +kernel, rfl, by decide +kernel, by decide +kernel⟩
abbrev L1__law_over : FS := (sSeq (sAsg (ptB (.nm 7)) (iBin oIx (iDict [((iC (.str ⟨#[102, 114, 111, 110, 116]⟩)), (iC (.str ⟨#[98, 97, 99, 107]⟩))), ((iC (.str ⟨#[98, 97, 99, 107]⟩)), (iC (.str ⟨#[102, 114, 111, 110, 116]⟩)))]) (iVar 5)))
  (sSeq (sIf (bNot (iTru (iVar 1))) (sAsg (ptB (.nm 6)) (iBin oIx (iDict [((iC (.str ⟨#[117, 112]⟩)), (iC (.str ⟨#[100, 111, 119, 110]⟩))), ((iC (.str ⟨#[100, 111, 119, 110]⟩)), (iC (.str ⟨#[117, 112]⟩)))]) (iVar 6))) sNx)
  (sDrop (iApp (iVar 2) (iCall oTup [(iVar 3), (iVar 4), (iVar 7), (iVar 6)])))))
def B__law_over : FS :=
  (sSeq (sAsg (ptB (.nm 2)) (iCall oLstM []))
  (sSeq (sFor (iSeqS (iUn oDown (iVar 0))) (ptB (.tp [(.nm 3), (.nm 4), (.nm 5), (.nm 6)])) L1__law_over)
  (sRet (iFz (iVar 2)))))
theorem raw__law_over (M : Mods w K mg) : Ok1 P w K mg base "_law_over" 1 ["stack", "is_across"] (iBody 8 B__law_over) := by
  obtain ⟨f, fd, F, hm, hb⟩ := M.f__law_over
  refine ⟨f, fd, hm, F.kp, hb, fn_ok (k := 0) F sc__law_over fun cdv A outer s H E hr hn => ?_⟩
  have hu65 := room65 hr
  have hu1 := room1 hr
  exact (s_cons (s_set 2 sc__law_over.nd (j_lstM a_nil))
  (s_cons (s_for PassesOwn.never rfl (i_seqS (j_down (j_var 0))) (g_tp rfl (gs_cons (g_nm 3 sc__law_over.nd) (gs_cons (g_nm 4 sc__law_over.nd) (gs_cons (g_nm 5 sc__law_over.nd) (gs_cons (g_nm 6 sc__law_over.nd) gs_nil))))) (s_cons (s_set 7 sc__law_over.nd (j_ix hu1 (j_dict (d_cons (j_str ⟨#[102, 114, 111, 110, 116]⟩ (by kernel_rfl)) (j_str ⟨#[98, 97, 99, 107]⟩ (by kernel_rfl)) (d_cons (j_str ⟨#[98, 97, 99, 107]⟩ (by kernel_rfl)) (j_str ⟨#[102, 114, 111, 110, 116]⟩ (by kernel_rfl)) d_nil))) (j_var 5)))
  (s_cons (s_if (t_not (t_tru (j_var 1))) (s_one (s_set 6 sc__law_over.nd (j_ix hu1 (j_dict (d_cons (j_str ⟨#[117, 112]⟩ (by kernel_rfl)) (j_str ⟨#[100, 111, 119, 110]⟩ (by kernel_rfl)) (d_cons (j_str ⟨#[100, 111, 119, 110]⟩ (by kernel_rfl)) (j_str ⟨#[117, 112]⟩ (by kernel_rfl)) d_nil))) (j_var 6)))) s_nil)
  (s_one (s_drop (j_app (j_var 2) (j_tup (a_cons (j_var 3) (a_cons (j_var 4) (a_cons (j_var 7) (a_cons (j_var 6) a_nil)))))))))))
  (s_one (s_ret (j_fz (j_var 2))))))
abbrev dLs : Stack → D := dL dLf
abbrev dLr : List Stack → D := dL dLs
abbrev dLg : Grid → D := dL dLr
theorem inj_Ls : Inj dLs := inj_dL inj_Lf
theorem inj_Lr : Inj dLr := inj_dL inj_Ls
theorem inj_Lg : Inj dLg := inj_dL inj_Lr
theorem pure_Ls (x : Stack) : pureD (dLs x) = true := pure_dL pure_Lf x
theorem pure_Lr (x : List Stack) : pureD (dLr x) = true := pure_dL pure_Ls x
theorem pure_Lg (x : Grid) : pureD (dLg x) = true := pure_dL pure_Lr x
def dkF : D := .dk [.inr ⟨#[102, 114, 111, 110, 116]⟩, .inr ⟨#[98, 97, 99, 107]⟩] [.str ⟨#[98, 97, 99, 107]⟩, .str ⟨#[102, 114, 111, 110, 116]⟩]
def dkH : D := .dk [.inr ⟨#[117, 112]⟩, .inr ⟨#[100, 111, 119, 110]⟩] [.str ⟨#[100, 111, 119, 110]⟩, .str ⟨#[117, 112]⟩]
theorem ev_dkF {env : AE} {ah : AH} : iDict [((iC (.str ⟨#[102, 114, 111, 110, 116]⟩)), (iC (.str ⟨#[98, 97, 99, 107]⟩))), ((iC (.str ⟨#[98, 97, 99, 107]⟩)), (iC (.str ⟨#[102, 114, 111, 110, 116]⟩)))] env ah = .ok dkF ah :=
  okd (eDict (eP eC eC (eP eC eC eP0 rfl) rfl) (by decide)) (by kernel_rfl)
theorem ev_dkH {env : AE} {ah : AH} : iDict [((iC (.str ⟨#[117, 112]⟩)), (iC (.str ⟨#[100, 111, 119, 110]⟩))), ((iC (.str ⟨#[100, 111, 119, 110]⟩)), (iC (.str ⟨#[117, 112]⟩)))] env ah = .ok dkH ah :=
  okd (eDict (eP eC eC (eP eC eC eP0 rfl) rfl) (by decide)) (by kernel_rfl)
theorem ix_dkF (b : Bool) (ah : AH) : oIx dkF (.str (face b)) ah = .ok (.str (face (!b))) ah := by cases b <;> kernel_rfl
theorem ix_dkH (b : Bool) (ah : AH) : oIx dkH (.str (head b)) ah = .ok (.str (head (!b))) ah := by cases b <;> kernel_rfl
def F__law_over : List D → AH → Res D := specF (fun p : Stack × Bool => p.1.length ≤ 4096) (fun p => [dLs p.1, .bl p.2]) fun p => dLs (turn p.2 p.1)
theorem F__law_over_eq {s : Stack} {a : Bool} {ah : AH} (h : s.length ≤ 4096) : F__law_over [dLs s, .bl a] ah = .ok (dLs (turn a s)) ah := specF_eq (x := (s, a)) (fun x y e => by
  simp only [List.cons.injEq, D.bl.injEq] at e
  rw [inj_Ls _ _ e.1, e.2.1]) h
theorem ok__law_over (M : Mods w K mg) : Ok1 P w K mg base "_law_over" 1 ["stack", "is_across"] F__law_over := (raw__law_over M).spec (fun _ _ => pure_Ls _) fun ⟨s, ac⟩ ah h => by
  have h : s.length ≤ 4096 := h
  have loop := forL_inv (g := ptB (.tp [(.nm 3), (.nm 4), (.nm 5), (.nm 6)])) (body := (sSeq (sAsg (ptB (.nm 7)) (iBin oIx (iDict [((iC (.str ⟨#[102, 114, 111, 110, 116]⟩)), (iC (.str ⟨#[98, 97, 99, 107]⟩))), ((iC (.str ⟨#[98, 97, 99, 107]⟩)), (iC (.str ⟨#[102, 114, 111, 110, 116]⟩)))]) (iVar 5)))
    (sSeq (sIf (bNot (iTru (iVar 1))) (sAsg (ptB (.nm 6)) (iBin oIx (iDict [((iC (.str ⟨#[117, 112]⟩)), (iC (.str ⟨#[100, 111, 119, 110]⟩))), ((iC (.str ⟨#[100, 111, 119, 110]⟩)), (iC (.str ⟨#[117, 112]⟩)))]) (iVar 6))) sNx)
    (sDrop (iApp (iVar 2) (iCall oTup [(iVar 3), (iVar 4), (iVar 7), (iVar 6)]))))))
    (I := fun i env a => ∃ e3 e4 e5 e6 e7, env = [some (dLs s), some (.bl ac), some (.ref ah.length), e3, e4, e5, e6, e7] ∧ a = ah ++ [.lst (((s.reverse.take i).map (FM.flip ac)).map dLf)])
    (ds := s.reverse.map dLf) (k := 0) (env := [some (dLs s), some (.bl ac), some (.ref ah.length), none, none, none, none, none]) (ah := ah ++ [.lst []]) ⟨none, none, none, none, none, rfl, rfl⟩ ?_
  · obtain ⟨env', ah', l1, e3, e4, e5, e6, e7, rfl, rfl⟩ := loop
    rw [Nat.zero_add, List.length_map, List.take_length] at l1
    refine ⟨[.fz (dLs (turn ac s))], ?_⟩
    refine okd (eBodyR (eSeq (eAsg (eCall eA0 lstM0) rfl) (eSeq (eFor (eSqL (eUn (eV rfl) eDown_lst)) (by rw [← List.map_reverse]; exact l1)) (eRet (eFz (eV rfl) fz_last))))) rfl
  · rintro i d env a hd ⟨e3, e4, e5, e6, e7, rfl, rfl⟩
    rw [Nat.zero_add]
    rw [List.getElem?_map] at hd
    obtain ⟨x, hx, rfl⟩ := Option.map_eq_some_iff.mp hd
    have hi := (List.getElem?_eq_some_iff.mp hx).1
    rw [List.length_reverse] at hi
    have lim : (((s.reverse.take i).map (FM.flip ac)).map dLf).length < sizeLine := by rw [List.length_map, List.length_map, List.length_take, sizeLine_eq]; omega
    have fin : ah ++ [.lst ((((s.reverse.take i).map (FM.flip ac)).map dLf) ++ [dLf (FM.flip ac x)])] = ah ++ [.lst (((s.reverse.take (i + 1)).map (FM.flip ac)).map dLf)] := by
      rw [List.take_add_one, hx]
      simp
    cases hac : ac with
    | true =>
      subst hac
      refine ⟨_, .nx, _, _, rfl, .inl rfl, eSeq (eAsg (eBin ev_dkF (eV (d := .str (face x.f)) rfl) (ix_dkF _ _)) rfl) (eSeq (eSIfF (eNotT (b := true) (eTru (eV rfl) rfl)) eNx) (eDrop (eApp (eV rfl) last_at (eCall (eA (eV rfl) (eA (eV rfl) (eA (eV rfl) (eA (eV rfl) eA0)))) tup4) last_at lim))), _, _, _, _, _, rfl, ?_⟩
      rw [set_last]
      exact fin
    | false =>
      subst hac
      refine ⟨_, .nx, _, _, rfl, .inl rfl, eSeq (eAsg (eBin ev_dkF (eV (d := .str (face x.f)) rfl) (ix_dkF _ _)) rfl) (eSeq (eSIfT (eNotT (b := false) (eTru (eV rfl) rfl)) (eAsg (eBin ev_dkH (eV (d := .str (head x.u)) rfl) (ix_dkH _ _)) rfl)) (eDrop (eApp (eV rfl) last_at (eCall (eA (eV rfl) (eA (eV rfl) (eA (eV rfl) (eA (eV rfl) eA0)))) tup4) last_at lim))), _, _, _, _, _, rfl, ?_⟩
      rw [set_last]
      exact fin
theorem sc__law_folded : FnScope ["grid", "letter", "found", "line", "many", "pairs", "i", "j", "above", "below"] ["grid", "letter"] (defScope s__law_folded) := ⟨rfl, rfl, rfl, by decide +kernel, rfl, by decide +kernel, by decide +kernel⟩
abbrev E1__law_folded : FE := (iCall oTup [(iBin oIx (iVar 0) (iBin oSub (iBin oSub (iVar 4) (iC (.int 1))) (iVar 6))), (iBin oIx (iVar 0) (iBin oAdd (iVar 4) (iVar 6)))])
abbrev E2__law_folded : FE := (iCall oTup [(iBin oIx (iVar 0) (iBin oSub (iBin oSub (iBin oMul (iC (.int 2)) (iVar 4)) (iC (.int 1))) (iVar 6))), (iBin oIx (iVar 0) (iVar 6))])
abbrev E3__law_folded : FE := (iBin oAdd (iDef F__law_over [(iBin oIx (iVar 8) (iVar 7)), (iC (.bl false))]) (iBin oIx (iVar 9) (iVar 7)))
abbrev E4__law_folded : FE := (iLc (iRange1 [(iCall oLen [(iVar 8)])]) (ptB (.nm 7)) (fun _ ah => .ok true ah) E3__law_folded [7])
abbrev E5__law_folded : FE := (iBin oAdd (iDef F__law_over [(iBin oIx (iVar 3) (iBin oSub (iBin oSub (iVar 4) (iC (.int 1))) (iVar 7))), (iC (.bl true))]) (iBin oIx (iVar 3) (iBin oAdd (iVar 4) (iVar 7))))
abbrev E6__law_folded : FE := (iBin oAdd (iDef F__law_over [(iBin oIx (iVar 3) (iBin oSub (iBin oSub (iBin oMul (iC (.int 2)) (iVar 4)) (iC (.int 1))) (iVar 7))), (iC (.bl true))]) (iBin oIx (iVar 3) (iVar 7)))
abbrev L1__law_folded : FS := (sSeq (sAsg (ptB (.nm 4)) (iBin oDiv (iCall oLen [(iVar 3)]) (iC (.int 2))))
  (sIf (iTr (iBin oEq (iVar 1) (iC (.str ⟨#[76]⟩)))) (sDrop (iApp (iVar 2) (iLc (iRange1 [(iVar 4)]) (ptB (.nm 7)) (fun _ ah => .ok true ah) E5__law_folded [7]))) (sDrop (iApp (iVar 2) (iLc (iRange1 [(iVar 4)]) (ptB (.nm 7)) (fun _ ah => .ok true ah) E6__law_folded [7])))))
def B__law_folded : FS :=
  (sSeq (sIf (iTr (iBin oIn (iVar 1) (iC (.str ⟨#[84, 66]⟩)))) (sSeq (sAsg (ptB (.nm 4)) (iBin oDiv (iCall oLen [(iVar 0)]) (iC (.int 2))))
  (sSeq (sIf (iTr (iBin oEq (iVar 1) (iC (.str ⟨#[84]⟩)))) (sAsg (ptB (.nm 5)) (iLc (iRange1 [(iVar 4)]) (ptB (.nm 6)) (fun _ ah => .ok true ah) E1__law_folded [6])) (sAsg (ptB (.nm 5)) (iLc (iRange1 [(iVar 4)]) (ptB (.nm 6)) (fun _ ah => .ok true ah) E2__law_folded [6])))
  (sRet (iLc (iSeqS (iVar 5)) (ptB (.tp [(.nm 8), (.nm 9)])) (fun _ ah => .ok true ah) E4__law_folded [8, 9])))) sNx)
  (sSeq (sAsg (ptB (.nm 2)) (iCall oLstM []))
  (sSeq (sFor (iSeqS (iVar 0)) (ptB (.nm 3)) L1__law_folded)
  (sRet (iFz (iVar 2))))))
theorem raw__law_folded (M : Mods w K mg) (h__law_over : Ok1 P w K mg base "_law_over" 1 ["stack", "is_across"] F__law_over) : Ok1 P w K mg base "_law_folded" 2 ["grid", "letter"] (iBody 10 B__law_folded) := by
  obtain ⟨f, fd, F, hm, hb⟩ := M.f__law_folded
  refine ⟨f, fd, hm, F.kp, hb, fn_ok (k := 1) F sc__law_folded fun cdv A outer s H E hr hn => ?_⟩
  have hr_law_over := hr.mono (j := 1) (by decide)
  have hu65 := room65 hr
  have hu1 := room1 hr
  exact (s_cons (s_if (t_cmp (j_pc (op_inA hu65) ok_in (j_var 1) (j_str ⟨#[84, 66]⟩ (by kernel_rfl)))) (s_cons (s_set 4 sc__law_folded.nd (j_bin op_fdiv ok_i (j_callB call_lenA ok_len (by exact rfl) M.nb_len boot_len (a_cons (j_var 0) a_nil)) j_int))
  (s_cons (s_if (t_cmp (j_pc (op_eqA hr.units) ok_eq (j_var 1) (j_str ⟨#[84]⟩ (by kernel_rfl)))) (s_one (s_setLc 5 rfl sc__law_folded.nd (i_range1 (by exact rfl) M.nb_range (a_cons (j_var 4) a_nil)) (own := [(("i" : Str), 6)]) (blk_of (by kernel_rfl)) (by decide) (fun _ _ _ _ _ => (g_nm 6 sc__law_folded.nd)) (fun _ _ _ _ _ => c_nil) (fun _ _ _ _ _ => (j_tup (a_cons (j_ix hu1 (j_var 0) (j_bin op_sub ok_sub (j_bin op_sub ok_sub (j_var 4) j_int) (j_var 6))) (a_cons (j_ix hu1 (j_var 0) (j_bin op_addA ok_add (j_var 4) (j_var 6))) a_nil)))))) (s_one (s_setLc 5 rfl sc__law_folded.nd (i_range1 (by exact rfl) M.nb_range (a_cons (j_var 4) a_nil)) (own := [(("i" : Str), 6)]) (blk_of (by kernel_rfl)) (by decide) (fun _ _ _ _ _ => (g_nm 6 sc__law_folded.nd)) (fun _ _ _ _ _ => c_nil) (fun _ _ _ _ _ => (j_tup (a_cons (j_ix hu1 (j_var 0) (j_bin op_sub ok_sub (j_bin op_sub ok_sub (j_bin op_mulA ok_mul j_int (j_var 4)) j_int) (j_var 6))) (a_cons (j_ix hu1 (j_var 0) (j_var 6)) a_nil)))))))
  (s_one (s_ret (j_lc rfl sc__law_folded.nd (i_seqS (j_var 5)) (own := [(("above" : Str), 8), (("below" : Str), 9)]) (blk_of (by kernel_rfl)) (by decide) (fun _ _ _ _ _ => (g_tp rfl (gs_cons (g_nm 8 sc__law_folded.nd) (gs_cons (g_nm 9 sc__law_folded.nd) gs_nil)))) (fun _ _ _ _ _ => c_nil) (fun _ _ _ _ _ => (j_lc rfl sc__law_folded.nd (i_range1 (by exact rfl) M.nb_range (a_cons (j_callB call_lenA ok_len (by exact rfl) M.nb_len boot_len (a_cons (j_var 8) a_nil)) a_nil)) (own := [(("j" : Str), 7)]) (blk_of (by kernel_rfl)) (by decide) (fun _ _ _ _ _ => (g_nm 7 sc__law_folded.nd)) (fun _ _ _ _ _ => c_nil) (fun _ _ _ _ _ => (j_bin op_addA ok_add (h__law_over.jd hr_law_over hn (by exact rfl) rfl (a_cons (j_ix hu1 (j_var 8) (j_var 7)) (a_cons j_bl a_nil))) (j_ix hu1 (j_var 9) (j_var 7))))))))))) s_nil)
  (s_cons (s_set 2 sc__law_folded.nd (j_lstM a_nil))
  (s_cons (s_for PassesOwn.never rfl (i_seqS (j_var 0)) (g_nm 3 sc__law_folded.nd) (s_cons (s_set 4 sc__law_folded.nd (j_bin op_fdiv ok_i (j_callB call_lenA ok_len (by exact rfl) M.nb_len boot_len (a_cons (j_var 3) a_nil)) j_int))
  (s_one (s_if (t_cmp (j_pc (op_eqA hr.units) ok_eq (j_var 1) (j_str ⟨#[76]⟩ (by kernel_rfl)))) (s_one (s_drop (j_app (j_var 2) (j_lc rfl sc__law_folded.nd (i_range1 (by exact rfl) M.nb_range (a_cons (j_var 4) a_nil)) (own := [(("j" : Str), 7)]) (blk_of (by kernel_rfl)) (by decide) (fun _ _ _ _ _ => (g_nm 7 sc__law_folded.nd)) (fun _ _ _ _ _ => c_nil) (fun _ _ _ _ _ => (j_bin op_addA ok_add (h__law_over.jd hr_law_over hn (by exact rfl) rfl (a_cons (j_ix hu1 (j_var 3) (j_bin op_sub ok_sub (j_bin op_sub ok_sub (j_var 4) j_int) (j_var 7))) (a_cons j_bl a_nil))) (j_ix hu1 (j_var 3) (j_bin op_addA ok_add (j_var 4) (j_var 7))))))))) (s_one (s_drop (j_app (j_var 2) (j_lc rfl sc__law_folded.nd (i_range1 (by exact rfl) M.nb_range (a_cons (j_var 4) a_nil)) (own := [(("j" : Str), 7)]) (blk_of (by kernel_rfl)) (by decide) (fun _ _ _ _ _ => (g_nm 7 sc__law_folded.nd)) (fun _ _ _ _ _ => c_nil) (fun _ _ _ _ _ => (j_bin op_addA ok_add (h__law_over.jd hr_law_over hn (by exact rfl) rfl (a_cons (j_ix hu1 (j_var 3) (j_bin op_sub ok_sub (j_bin op_sub ok_sub (j_bin op_mulA ok_mul j_int (j_var 4)) j_int) (j_var 7))) (a_cons j_bl a_nil))) (j_ix hu1 (j_var 3) (j_var 7))))))))))))
  (s_one (s_ret (j_fz (j_var 2)))))))
theorem eq_T (c : Lt) (ah : AH) : oEq (.str (ls c)) (.str ⟨#[84]⟩) ah = .ok (.bl (decide (c = .T))) ah := by cases c <;> rfl
theorem eq_L (c : Lt) (ah : AH) : oEq (.str (ls c)) (.str ⟨#[76]⟩) ah = .ok (.bl (decide (c = .L))) ah := by cases c <;> rfl
theorem get_lrow {g : Grid} {i : Nat} (h : i < g.length) : (g.map dLr)[i]? = some (dLr (g.getD i [])) := by
  rw [List.getElem?_map, List.getElem?_eq_getElem h, List.getD_eq_getElem?_getD, List.getElem?_eq_getElem h]
  rfl
theorem get_lst {row : List Stack} {i : Nat} (h : i < row.length) : (row.map dLs)[i]? = some (dLs (row.getD i [])) := by
  rw [List.getElem?_map, List.getElem?_eq_getElem h, List.getD_eq_getElem?_getD, List.getElem?_eq_getElem h]
  rfl
def dPp (p : List Stack × List Stack) : D := .tup [dLr p.1, dLr p.2]
theorem zip_getD {α β : Type} (a : α) (b : β) : ∀ (xs : List α) (ys : List β), xs.length = ys.length → xs.zip ys = (List.range xs.length).map fun j => (xs.getD j a, ys.getD j b)
  | [], [], _ => rfl
  | [], _ :: _, h => nomatch h
  | _ :: _, [], h => nomatch h
  | x :: xs, y :: ys, h => by
    rw [List.zip_cons_cons, zip_getD a b xs ys (by simpa using h), List.length_cons, List.range_succ_eq_map, List.map_cons, List.map_map]
    rfl
def F__law_folded : List D → AH → Res D := specF (fun p : Grid × Lt => Fit p.1 ∧ (p.2.across = false → p.1.length % 2 = 0) ∧ (p.2.across = true → ∀ row ∈ p.1, row.length % 2 = 0)) (fun p => [dLg p.1, .str (ls p.2)]) fun p => dLg (stepM p.2 p.1)
theorem F__law_folded_eq {g : Grid} {c : Lt} {ah : AH} (h : Fit g ∧ (c.across = false → g.length % 2 = 0) ∧ (c.across = true → ∀ row ∈ g, row.length % 2 = 0)) : F__law_folded [dLg g, .str (ls c)] ah = .ok (dLg (stepM c g)) ah := specF_eq (x := (g, c)) (fun x y e => by
  simp only [List.cons.injEq, D.str.injEq] at e
  rw [inj_Lg _ _ e.1, ls_inj e.2.1]) h
theorem mul2 {n : Nat} {ah : AH} : oMul (.int 2) (.int (n : Int)) ah = .ok (.int ((2 * n : Nat) : Int)) ah := by
  rw [eMulSmall (by decide) (by decide)]
  rfl
theorem ok__law_folded (M : Mods w K mg) : Ok1 P w K mg base "_law_folded" 2 ["grid", "letter"] F__law_folded := (raw__law_folded M (ok__law_over M)).spec (fun _ _ => pure_Lg _) fun ⟨g, c⟩ ah ⟨F, ev1, ev2⟩ => by
  replace F : Fit g := F
  replace ev1 : c.across = false → g.length % 2 = 0 := ev1
  replace ev2 : c.across = true → ∀ row ∈ g, row.length % 2 = 0 := ev2
  have hn := F.n
  obtain ⟨wd, hw, hr⟩ := F.ex
  cases hc : c.across with
  | false =>
    have lg : oLen [dLg g] ah = .ok (.int ((g.length : Nat) : Int)) ah := by
      show oLen [.lst (g.map dLr)] ah = _
      rw [oLen_lst, List.length_map]
    have sz : ([] : List D).length + (List.range (g.length / 2)).length ≤ sizeLine := by rw [List.length_range]; exact small (by simp; omega)
    have get : ∀ i, i < g.length → ∀ (env : AE) (f : FE) (a : AH), env[0]? = some (some (dLg g)) → f env a = .ok (.int (i : Int)) a → iBin oIx (iVar 0) f env a = .ok (dLr (g.getD i [])) a := fun i hi env f a h0 hf => eBin (eV h0) hf (ix_lst (get_lrow hi) rfl)
    have pairs : (sIf (iTr (iBin oEq (iVar 1) (iC (.str ⟨#[84]⟩)))) (sAsg (ptB (.nm 5)) (iLc (iRange1 [(iVar 4)]) (ptB (.nm 6)) (fun _ ah => .ok true ah) (iCall oTup [(iBin oIx (iVar 0) (iBin oSub (iBin oSub (iVar 4) (iC (.int 1))) (iVar 6))), (iBin oIx (iVar 0) (iBin oAdd (iVar 4) (iVar 6)))]) [6])) (sAsg (ptB (.nm 5)) (iLc (iRange1 [(iVar 4)]) (ptB (.nm 6)) (fun _ ah => .ok true ah) (iCall oTup [(iBin oIx (iVar 0) (iBin oSub (iBin oSub (iBin oMul (iC (.int 2)) (iVar 4)) (iC (.int 1))) (iVar 6))), (iBin oIx (iVar 0) (iVar 6))]) [6])))
        [some (dLg g), some (.str (ls c)), none, none, some (.int ((g.length / 2 : Nat) : Int)), none, none, none, none, none] ah = .ok (.nx, [some (dLg g), some (.str (ls c)), none, none, some (.int ((g.length / 2 : Nat) : Int)), some (dL dPp ((pairsM c.near (2 * (g.length / 2))).map fun p => (g.getD p.1 [], g.getD p.2 []))), none, none, none, none]) ah := by
      have hh : 2 * (g.length / 2) / 2 = g.length / 2 := by omega
      cases ht : c.near with
      | true =>
        have e : c = .T := by cases c <;> first | rfl | (exact absurd hc (by decide)) | (exact absurd ht (by decide))
        refine eSIfT (eTr (eBin (eV (d := .str (ls c)) rfl) eC (by rw [eq_T, e]; rfl))) (eAsg (okd (eLc (eRg1 (n := g.length / 2) (eV rfl) (by omega)) (compL_map (o := fun i => dPp (g.getD (g.length / 2 - 1 - i) [], g.getD (g.length / 2 + i) [])) (fun i hi => ⟨_, rfl, rfl, ?_⟩) sz)) ?_) rfl)
        · have hi := List.mem_range.mp hi
          exact eCall (eA (get (g.length / 2 - 1 - i) (by omega) _ _ _ rfl (okd (eBin (eBin (eV rfl) eC oSub_int) (eV rfl) oSub_int) (by congr 1; omega))) (eA (get (g.length / 2 + i) (by omega) _ _ _ rfl (okd (eBin (eV rfl) (eV rfl) oAdd_int) (by congr 1))) eA0)) tup2
        · unfold pairsM dL
          rw [if_pos rfl, hh, List.nil_append, List.map_map, List.map_map]
          rfl
      | false =>
        have e : c = .B := by cases c <;> first | rfl | (exact absurd hc (by decide)) | (exact absurd ht (by decide))
        refine eSIfF (eTr (eBin (eV (d := .str (ls c)) rfl) eC (by rw [eq_T, e]; rfl))) (eAsg (okd (eLc (eRg1 (n := g.length / 2) (eV rfl) (by omega)) (compL_map (o := fun i => dPp (g.getD (2 * (g.length / 2) - 1 - i) [], g.getD i [])) (fun i hi => ⟨_, rfl, rfl, ?_⟩) sz)) ?_) rfl)
        · have hi := List.mem_range.mp hi
          exact eCall (eA (get (2 * (g.length / 2) - 1 - i) (by omega) _ _ _ rfl (okd (eBin (eBin (eBin eC (eV rfl) mul2) eC oSub_int) (eV rfl) oSub_int) (by congr 1; omega))) (eA (get i (by omega) _ _ _ rfl (eV rfl)) eA0)) tup2
        · unfold pairsM dL
          rw [if_neg Bool.false_ne_true, hh, List.nil_append, List.map_map, List.map_map]
          rfl
    have ev := ev1 hc
    have two : 2 * (g.length / 2) = g.length := by omega
    rw [two] at pairs
    have out : stepM c g = (pairsM c.near g.length).map fun p => laidM false (g.getD p.1 []) (g.getD p.2 []) := by unfold stepM; rw [hc, if_neg Bool.false_ne_true]
    refine ⟨[], ?_⟩
    rw [List.append_nil]
    refine okd (u := .lst ([] ++ (pairsM c.near g.length).map fun p => dLr (laidM false (g.getD p.1 []) (g.getD p.2 [])))) (eBodyR (eSeqR (eSIfT (eTr (eBin (eV (d := .str (ls c)) rfl) eC (by rw [in_TB, hc]; rfl))) (eSeq (eAsg (eBin (eCall (eA (eV (d := dLg g) rfl) eA0) lg) eC div2) rfl) (eSeq pairs
      (eRet (eLc (ds := (pairsM c.near g.length).map fun p => dPp (g.getD p.1 [], g.getD p.2 [])) (by rw [eSqL (eV rfl), List.map_map]; rfl) (compL_map (fun p hp => ⟨_, rfl, rfl, ?_⟩) ?_)))))))) ?_
    · obtain ⟨l1, l2⟩ := pairs_lt hp
      have i1 := getD_in (d := []) l1
      have i2 := getD_in (d := []) l2
      generalize hA : g.getD p.1 [] = A at *
      generalize hB : g.getD p.2 [] = B at *
      have lA := hr _ i1
      have lB := hr _ i2
      have la : oLen [dLr A] ah = .ok (.int ((A.length : Nat) : Int)) ah := by
        show oLen [.lst (A.map dLs)] ah = _
        rw [oLen_lst, List.length_map]
      refine okd (u := .lst ([] ++ (List.range A.length).map fun j => dLs (turn false (A.getD j []) ++ B.getD j []))) (eLc (eRg1 (n := A.length) (eCall (eA (eV rfl) eA0) la) (by omega)) (compL_map (fun j hj => ⟨_, rfl, rfl, ?_⟩) ?_)) ?_
      · have hj := List.mem_range.mp hj
        have sA := F.st _ i1 _ (getD_in (d := []) hj)
        have sB := F.st _ i2 _ (getD_in (d := []) (show j < B.length by omega))
        have hjB : j < B.length := by omega
        refine okd (eBin (eDef (eA (eBin (eV (d := dLr A) rfl) (eV rfl) (ix_lst (get_lst (row := A) hj) rfl)) (eA eC eA0)) (F__law_over_eq (s := A.getD j []) (by omega))) (eBin (eV (d := dLr B) rfl) (eV rfl) (ix_lst (get_lst (row := B) hjB) rfl)) (oAdd_lst ?_)) ?_
        · refine small ?_
          rw [List.length_map, List.length_map]
          unfold turn
          rw [List.length_map, List.length_reverse]
          omega
        · simp [dL]
      · rw [List.length_range]; exact small (by simp; omega)
      · unfold laidM
        rw [zip_getD [] [] A B (by omega), List.map_map]
        simp [dL]
    · rw [FM.pairs_len]; exact small (by simp; omega)
    · show _ = dLg (stepM c g)
      rw [out]
      simp [dL]
  | true =>
    have ev := ev2 hc
    have loop := forL_inv (g := ptB (.nm 3)) (body := (sSeq (sAsg (ptB (.nm 4)) (iBin oDiv (iCall oLen [(iVar 3)]) (iC (.int 2))))
      (sIf (iTr (iBin oEq (iVar 1) (iC (.str ⟨#[76]⟩)))) (sDrop (iApp (iVar 2) (iLc (iRange1 [(iVar 4)]) (ptB (.nm 7)) (fun _ ah => .ok true ah) (iBin oAdd (iDef F__law_over [(iBin oIx (iVar 3) (iBin oSub (iBin oSub (iVar 4) (iC (.int 1))) (iVar 7))), (iC (.bl true))]) (iBin oIx (iVar 3) (iBin oAdd (iVar 4) (iVar 7)))) [7]))) (sDrop (iApp (iVar 2) (iLc (iRange1 [(iVar 4)]) (ptB (.nm 7)) (fun _ ah => .ok true ah) (iBin oAdd (iDef F__law_over [(iBin oIx (iVar 3) (iBin oSub (iBin oSub (iBin oMul (iC (.int 2)) (iVar 4)) (iC (.int 1))) (iVar 7))), (iC (.bl true))]) (iBin oIx (iVar 3) (iVar 7))) [7]))))))
      (I := fun i env a => ∃ e3 e4, env = [some (dLg g), some (.str (ls c)), some (.ref ah.length), e3, e4, none, none, none, none, none] ∧ a = ah ++ [.lst ((g.take i).map fun row => dLr (rowM c row))])
      (ds := g.map dLr) (k := 0) (env := [some (dLg g), some (.str (ls c)), some (.ref ah.length), none, none, none, none, none, none, none]) (ah := ah ++ [.lst []]) ⟨none, none, rfl, rfl⟩ ?_
    · obtain ⟨env', ah', l1, e3, e4, rfl, rfl⟩ := loop
      rw [Nat.zero_add, List.length_map, List.take_length] at l1
      refine ⟨[.fz (.lst (g.map fun row => dLr (rowM c row)))], ?_⟩
      refine okd (eBodyR (eSeq (eSIfF (eTr (eBin (eV (d := .str (ls c)) rfl) eC (by rw [in_TB, hc]; rfl))) eNx) (eSeq (eAsg (eCall eA0 lstM0) rfl) (eSeq (eFor (eSqL (eV rfl)) l1) (eRet (eFz (eV rfl) fz_last)))))) ?_
      show _ = dLg (stepM c g)
      rw [step_across hc]
      simp [dL]
    · rintro i d env a hd ⟨e3, e4, rfl, rfl⟩
      rw [Nat.zero_add]
      rw [List.getElem?_map] at hd
      obtain ⟨row, hrow, rfl⟩ := Option.map_eq_some_iff.mp hd
      have mem := List.mem_of_getElem? hrow
      have lw := hr _ mem
      have evr := ev row mem
      have lr : ∀ a : AH, oLen [dLr row] a = .ok (.int ((row.length : Nat) : Int)) a := fun a => by
        show oLen [.lst (row.map dLs)] a = _
        rw [oLen_lst, List.length_map]
      have lim : ((g.take i).map fun row => dLr (rowM c row)).length < sizeLine := by rw [List.length_map, List.length_take, sizeLine_eq]; omega
      have sz : ([] : List D).length + (List.range (row.length / 2)).length ≤ sizeLine := by rw [List.length_range]; exact small (by simp; omega)
      have fin : ah ++ [.lst (((g.take i).map fun row => dLr (rowM c row)) ++ [dLr (rowM c row)])] = ah ++ [.lst ((g.take (i + 1)).map fun row => dLr (rowM c row))] := by
        rw [List.take_add_one, hrow]
        simp
      have one : ∀ (u v : Nat), u < row.length → v < row.length → ∀ (env : AE) (fu fv : FE) (a : AH), env[3]? = some (some (dLr row)) → fu env a = .ok (.int (u : Int)) a → fv env a = .ok (.int (v : Int)) a →
          (iBin oAdd (iDef F__law_over [(iBin oIx (iVar 3) fu), (iC (.bl true))]) (iBin oIx (iVar 3) fv)) env a = .ok (dLs (turn true (row.getD u []) ++ row.getD v [])) a := by
        intro u v hu hv env fu fv a h3 hfu hfv
        have sA := F.st _ mem _ (getD_in (d := []) hu)
        have sB := F.st _ mem _ (getD_in (d := []) hv)
        refine okd (eBin (eDef (eA (eBin (eV h3) hfu (ix_lst (get_lst hu) rfl)) (eA eC eA0)) (F__law_over_eq (by omega))) (eBin (eV h3) hfv (ix_lst (get_lst hv) rfl)) (oAdd_lst ?_)) ?_
        · refine small ?_
          rw [List.length_map, List.length_map]
          unfold turn
          rw [List.length_map, List.length_reverse]
          omega
        · simp [dL]
      cases ht : c.near with
      | true =>
        have e : c = .L := by cases c <;> first | rfl | (exact absurd hc (by decide)) | (exact absurd ht (by decide))
        have comp : ∀ a : AH, iLc (iRange1 [(iVar 4)]) (ptB (.nm 7)) (fun _ ah => .ok true ah) (iBin oAdd (iDef F__law_over [(iBin oIx (iVar 3) (iBin oSub (iBin oSub (iVar 4) (iC (.int 1))) (iVar 7))), (iC (.bl true))]) (iBin oIx (iVar 3) (iBin oAdd (iVar 4) (iVar 7)))) [7]
            [some (dLg g), some (.str (ls c)), some (.ref ah.length), some (dLr row), some (.int ((row.length / 2 : Nat) : Int)), none, none, none, none, none] a = .ok (dLr (rowM c row)) a := by
          intro a
          refine okd (eLc (eRg1 (n := row.length / 2) (eV rfl) (by omega)) (compL_map (o := fun i => dLs (turn true (row.getD (row.length / 2 - 1 - i) []) ++ row.getD (row.length / 2 + i) [])) (fun i hi => ⟨_, rfl, rfl, ?_⟩) sz)) ?_
          · have hi := List.mem_range.mp hi
            exact one (row.length / 2 - 1 - i) (row.length / 2 + i) (by omega) (by omega) _ _ _ _ rfl (okd (eBin (eBin (eV rfl) eC oSub_int) (eV rfl) oSub_int) (by congr 1; omega)) (okd (eBin (eV rfl) (eV rfl) oAdd_int) (by congr 1))
          · unfold rowM pairsM
            rw [ht, if_pos rfl, List.nil_append, List.map_map]
            show _ = D.lst (List.map dLs _)
            rw [List.map_map]
            rfl
        refine ⟨_, .nx, _, _, rfl, .inl rfl, eSeq (eAsg (eBin (eCall (eA (eV (d := dLr row) rfl) eA0) (lr _)) eC div2) rfl) (eSIfT (eTr (eBin (eV (d := .str (ls c)) rfl) eC (by rw [eq_L, e]; rfl))) (eDrop (eApp (eV rfl) last_at (comp _) last_at lim))), _, _, rfl, ?_⟩
        rw [set_last]
        exact fin
      | false =>
        have e : c = .R := by cases c <;> first | rfl | (exact absurd hc (by decide)) | (exact absurd ht (by decide))
        have comp : ∀ a : AH, iLc (iRange1 [(iVar 4)]) (ptB (.nm 7)) (fun _ ah => .ok true ah) (iBin oAdd (iDef F__law_over [(iBin oIx (iVar 3) (iBin oSub (iBin oSub (iBin oMul (iC (.int 2)) (iVar 4)) (iC (.int 1))) (iVar 7))), (iC (.bl true))]) (iBin oIx (iVar 3) (iVar 7))) [7]
            [some (dLg g), some (.str (ls c)), some (.ref ah.length), some (dLr row), some (.int ((row.length / 2 : Nat) : Int)), none, none, none, none, none] a = .ok (dLr (rowM c row)) a := by
          intro a
          refine okd (eLc (eRg1 (n := row.length / 2) (eV rfl) (by omega)) (compL_map (o := fun i => dLs (turn true (row.getD (row.length - 1 - i) []) ++ row.getD i [])) (fun i hi => ⟨_, rfl, rfl, ?_⟩) sz)) ?_
          · have hi := List.mem_range.mp hi
            exact one (row.length - 1 - i) i (by omega) (by omega) _ _ _ _ rfl (okd (eBin (eBin (eBin eC (eV rfl) mul2) eC oSub_int) (eV rfl) oSub_int) (by congr 1; omega)) (eV rfl)
          · unfold rowM pairsM
            rw [ht, if_neg Bool.false_ne_true, List.nil_append, List.map_map]
            show _ = D.lst (List.map dLs _)
            rw [List.map_map]
            rfl
        refine ⟨_, .nx, _, _, rfl, .inl rfl, eSeq (eAsg (eBin (eCall (eA (eV (d := dLr row) rfl) eA0) (lr _)) eC div2) rfl) (eSIfF (eTr (eBin (eV (d := .str (ls c)) rfl) eC (by rw [eq_L, e]; rfl))) (eDrop (eApp (eV rfl) last_at (comp _) last_at lim))), _, _, rfl, ?_⟩
        rw [set_last]
        exact fin
theorem sc__law_states : FnScope ["folding", "grid", "found", "letter", "columns", "rows", "r", "c"] ["folding"] (defScope s__law_states) := ⟨rfl, rfl, rfl, by decide +kernel, rfl, by decide +kernel, by decide +kernel⟩
abbrev E1__law_states : FE := (iCall oLst [(iCall oTup [(iCall oInt [(iVar 7)]), (iCall oInt [(iVar 6)]), (iC (.str ⟨#[102, 114, 111, 110, 116]⟩)), (iC (.str ⟨#[117, 112]⟩))])])
abbrev E2__law_states : FE := (iLc (iRange1 [(iVar 4)]) (ptB (.nm 7)) (fun _ ah => .ok true ah) E1__law_states [7])
abbrev L1__law_states : FS := (sDrop (iApp (iVar 2) (iDef F__law_folded [(iBin oIx (iVar 2) (iUn oNeg (iC (.int 1)))), (iVar 3)])))
def B__law_states : FS :=
  (sSeq (sAsg (ptB (.tp [(.nm 4), (.nm 5)])) (iDef F__law_size [(iVar 0)]))
  (sSeq (sAsg (ptB (.nm 1)) (iLc (iRange1 [(iVar 5)]) (ptB (.nm 6)) (fun _ ah => .ok true ah) E2__law_states [6]))
  (sSeq (sAsg (ptB (.nm 2)) (iCall oLstM [(iVar 1)]))
  (sSeq (sFor (iSeqS (iVar 0)) (ptB (.nm 3)) L1__law_states)
  (sRet (iFz (iVar 2)))))))
theorem raw__law_states (M : Mods w K mg) (h__law_size : Ok1 P w K mg base "_law_size" 1 ["folding"] F__law_size) (h__law_folded : Ok1 P w K mg base "_law_folded" 2 ["grid", "letter"] F__law_folded) : Ok1 P w K mg base "_law_states" 3 ["folding"] (iBody 8 B__law_states) := by
  obtain ⟨f, fd, F, hm, hb⟩ := M.f__law_states
  refine ⟨f, fd, hm, F.kp, hb, fn_ok (k := 2) F sc__law_states fun cdv A outer s H E hr hn => ?_⟩
  have hr_law_size := hr.mono (j := 1) (by decide)
  have hr_law_folded := hr.mono (j := 2) (by decide)
  have hu65 := room65 hr
  have hu1 := room1 hr
  exact (s_cons (s_asg (h__law_size.jd hr_law_size hn (by exact rfl) rfl (a_cons (j_var 0) a_nil)) (g_tp rfl (gs_cons (g_nm 4 sc__law_states.nd) (gs_cons (g_nm 5 sc__law_states.nd) gs_nil))))
  (s_cons (s_setLc 1 rfl sc__law_states.nd (i_range1 (by exact rfl) M.nb_range (a_cons (j_var 5) a_nil)) (own := [(("r" : Str), 6)]) (blk_of (by kernel_rfl)) (by decide) (fun _ _ _ _ _ => (g_nm 6 sc__law_states.nd)) (fun _ _ _ _ _ => c_nil) (fun _ _ _ _ _ => (j_lc rfl sc__law_states.nd (i_range1 (by exact rfl) M.nb_range (a_cons (j_var 4) a_nil)) (own := [(("c" : Str), 7)]) (blk_of (by kernel_rfl)) (by decide) (fun _ _ _ _ _ => (g_nm 7 sc__law_states.nd)) (fun _ _ _ _ _ => c_nil) (fun _ _ _ _ _ => (j_lst (a_cons (j_tup (a_cons (j_callT call_int1 ok_int (by exact rfl) M.nb_int boot_int (a_cons (j_var 7) a_nil)) (a_cons (j_callT call_int1 ok_int (by exact rfl) M.nb_int boot_int (a_cons (j_var 6) a_nil)) (a_cons (j_str ⟨#[102, 114, 111, 110, 116]⟩ (by kernel_rfl)) (a_cons (j_str ⟨#[117, 112]⟩ (by kernel_rfl)) a_nil))))) a_nil))))))
  (s_cons (s_set 2 sc__law_states.nd (j_lstM (a_cons (j_var 1) a_nil)))
  (s_cons (s_for PassesOwn.never rfl (i_seqS (j_var 0)) (g_nm 3 sc__law_states.nd) (s_one (s_drop (j_app (j_var 2) (h__law_folded.jd hr_law_folded hn (by exact rfl) rfl (a_cons (j_ix hu1 (j_var 2) (j_un un_neg ok_neg j_int)) (a_cons (j_var 3) a_nil)))))))
  (s_one (s_ret (j_fz (j_var 2))))))))
def F__law_states : List D → AH → Res D := specF (fun l : List Lt => l.length ≤ 5) (fun l => [.str (fs l)]) fun l => dL dLg (statesM l)
theorem F__law_states_eq {l : List Lt} {ah : AH} (h : l.length ≤ 5) : F__law_states [.str (fs l)] ah = .ok (dL dLg (statesM l)) ah := specF_eq (x := l) (fun x y e => by
  simp only [List.cons.injEq, D.str.injEq] at e
  rw [fs_inj e.1]) h
theorem pow_even (n : Nat) : 2 ^ (n + 1) % 2 = 0 := by rw [Nat.pow_succ]; omega
theorem even_at {l : List Lt} {i : Nat} {c : Lt} (hc : l[i]? = some c) : (c.across = false → (stAt l i).length % 2 = 0) ∧ (c.across = true → ∀ row ∈ stAt l i, row.length % 2 = 0) := by
  have hi := (List.getElem?_eq_some_iff.mp hc).1
  have G := good_at (l := l) (i := i) (by omega)
  have e : l.drop i = c :: l.drop (i + 1) := by
    rw [List.drop_eq_getElem_cons hi, (List.getElem?_eq_some_iff.mp hc).2]
  rw [e] at G
  refine ⟨fun h => ?_, fun h row hr => ?_⟩
  · have e1 : downM (c :: l.drop (i + 1)) = downM (l.drop (i + 1)) + 1 := by simp [downM, h]
    rw [G.len, e1]
    exact pow_even _
  · have e1 : acrossM (c :: l.drop (i + 1)) = acrossM (l.drop (i + 1)) + 1 := by simp [acrossM, h]
    rw [G.rect row hr, e1]
    exact pow_even _
theorem int_dI {n : Nat} {ah : AH} : oInt [dI n] ah = .ok (dI n) ah := rfl
theorem ok__law_states (M : Mods w K mg) : Ok1 P w K mg base "_law_states" 3 ["folding"] F__law_states := (raw__law_states M (ok__law_size M) (ok__law_folded M)).spec (fun _ _ => pure_dL pure_Lg _) fun l ah h => by
  have h : l.length ≤ 5 := h
  obtain ⟨s1, s2⟩ := size_le h
  have loop := forL_inv (g := ptB (.nm 3)) (body := (sDrop (iApp (iVar 2) (iDef F__law_folded [(iBin oIx (iVar 2) (iUn oNeg (iC (.int 1)))), (iVar 3)]))))
    (I := fun i env a => ∃ e3, env = [some (.str (fs l)), some (dLg (stAt l 0)), some (.ref ah.length), e3, some (dI (sizeM l).1), some (dI (sizeM l).2), none, none] ∧ a = ah ++ [.lst ((List.range (i + 1)).map fun j => dLg (stAt l j))])
    (ds := l.map fun c => D.str (ls c)) (k := 0) (env := [some (.str (fs l)), some (dLg (stAt l 0)), some (.ref ah.length), none, some (dI (sizeM l).1), some (dI (sizeM l).2), none, none]) (ah := ah ++ [.lst [dLg (stAt l 0)]]) ⟨none, rfl, rfl⟩ ?_
  · obtain ⟨env', ah', l1, e3, rfl, rfl⟩ := loop
    rw [Nat.zero_add, List.length_map] at l1
    refine ⟨[.fz (.lst ((List.range (l.length + 1)).map fun j => dLg (stAt l j)))], ?_⟩
    have grid : ∀ env : AE, env[4]? = some (some (dI (sizeM l).1)) → env[5]? = some (some (dI (sizeM l).2)) → env.length = 8 → iLc (iRange1 [(iVar 5)]) (ptB (.nm 6)) (fun _ ah => .ok true ah) (iLc (iRange1 [(iVar 4)]) (ptB (.nm 7)) (fun _ ah => .ok true ah) (iCall oLst [(iCall oTup [(iCall oInt [(iVar 7)]), (iCall oInt [(iVar 6)]), (iC (.str ⟨#[102, 114, 111, 110, 116]⟩)), (iC (.str ⟨#[117, 112]⟩))])]) [7]) [6] env ah = .ok (dLg (stAt l 0)) ah := by
      intro env h4 h5 he
      obtain ⟨a0, a1, a2, a3, a4, a5, a6, a7, rfl⟩ : ∃ a0 a1 a2 a3 a4 a5 a6 a7, env = [a0, a1, a2, a3, a4, a5, a6, a7] := by
        match env, he with
        | [a0, a1, a2, a3, a4, a5, a6, a7], _ => exact ⟨a0, a1, a2, a3, a4, a5, a6, a7, rfl⟩
      refine okd (eLc (eRg1 (n := (sizeM l).2) (eV h5) (by omega)) (compL_map (o := fun r => dLr (flatRow (sizeM l).1 r)) (fun r hr => ⟨_, rfl, rfl, ?_⟩) ?_)) ?_
      · refine okd (eLc (eRg1 (n := (sizeM l).1) (eV h4) (by omega)) (compL_map (o := fun c => dLs [⟨c, r, true, true⟩]) (fun c hc => ⟨_, rfl, rfl, ?_⟩) ?_)) ?_
        · exact eCall (eA (eCall (eA (eCall (eA (eV rfl) eA0) int_dI) (eA (eCall (eA (eV rfl) eA0) int_dI) (eA eC (eA eC eA0)))) tup4) eA0) lst1
        · rw [List.length_range]; exact small (by simp; omega)
        · simp [dL, flatRow]
      · rw [List.length_range]; exact small (by simp; omega)
      · simp [dL, stAt, flatM]
    refine okd (eBodyR (eSeq (eAsg (eDef (eA (eV rfl) eA0) (F__law_size_eq h)) rfl) (eSeq (eAsg (grid _ rfl rfl rfl) rfl) (eSeq (eAsg (eCall (eA (eV rfl) eA0) lstM1) rfl) (eSeq (eFor (eSqS (eV rfl)) (by rw [str_ls]; exact l1)) (eRet (eFz (eV rfl) fz_last))))))) ?_
    simp [dL, statesM]
  · rintro i d env a hd ⟨e3, rfl, rfl⟩
    rw [Nat.zero_add]
    rw [List.getElem?_map] at hd
    obtain ⟨c, hcl, rfl⟩ := Option.map_eq_some_iff.mp hd
    have hi := (List.getElem?_eq_some_iff.mp hcl).1
    have F := fit_at h (i := i) (by omega)
    have lim : ((List.range (i + 1)).map fun j => dLg (stAt l j)).length < sizeLine := by rw [List.length_map, List.length_range, sizeLine_eq]; omega
    have last : oIx (.ref ah.length) (.int (-1)) (ah ++ [.lst ((List.range (i + 1)).map fun j => dLg (stAt l j))]) = .ok (dLg (stAt l i)) (ah ++ [.lst ((List.range (i + 1)).map fun j => dLg (stAt l j))]) := by
      have e : atI ((List.range (i + 1)).map fun j => dLg (stAt l j)) (-1) = some (dLg (stAt l i)) := at_neg1 (by simp)
      unfold oIx seqD
      simp only [last_at, e]
    refine ⟨_, .nx, _, _, rfl, .inl rfl, eDrop (eApp (eV rfl) last_at (eDef (eA (eBin (eV rfl) (eUn eC rfl) last) (eA (eV rfl) eA0)) (F__law_folded_eq ⟨F, even_at hcl⟩)) (last_at (o := .lst ((List.range (i + 1)).map fun j => dLg (stAt l j)))) lim), _, rfl, ?_⟩
    rw [set_last, List.range_succ (n := i + 1), List.map_append, ← stAt_succ hcl]
    rfl
theorem sc__law_parts : FnScope ["grid", "letter", "turned", "pairs", "half", "line", "c", "over", "stack", "k", "leaf"] ["grid", "letter"] (defScope s__law_parts) := ⟨rfl, rfl, rfl, by decide +kernel, rfl, by decide +kernel, by decide +kernel⟩
abbrev E1__law_parts : FE := (iSl oSl (iVar 10) iNoP (iPart (iC (.int 2))))
abbrev L1__law_parts : FS := (sAsg (ptB (.nm 2)) (iBin oAdd (iVar 2) (iLc (iSeqS (iVar 8)) (ptB (.nm 10)) (fun _ ah => .ok true ah) E1__law_parts [10])))
abbrev E2__law_parts : FE := (iCall oTup [(iSl oSl (iBin oIx (iBin oIx (iVar 5) (iBin oSub (iVar 4) (iC (.int 1)))) (iVar 9)) iNoP (iPart (iC (.int 2)))), (iSl oSl (iBin oIx (iBin oIx (iVar 5) (iVar 4)) (iVar 9)) iNoP (iPart (iC (.int 2))))])
abbrev L2__law_parts : FS := (sSeq (sAsg (ptB (.nm 7)) (iBin oIx (iCall oLst [(iSl oSl (iVar 5) (iPart (iVar 4)) iNoP), (iSl oSl (iVar 5) iNoP (iPart (iVar 4)))]) (iCall oInt [(iBin oEq (iVar 1) (iC (.str ⟨#[76]⟩)))])))
  (sSeq (sFor (iSeqS (iVar 7)) (ptB (.nm 8)) L1__law_parts)
  (sAsg (ptB (.nm 3)) (iBin oAdd (iVar 3) (iLc (iRange1 [(iCall oLen [(iBin oIx (iVar 5) (iVar 4))])]) (ptB (.nm 9)) (fun _ ah => .ok true ah) E2__law_parts [9])))))
abbrev L3__law_parts : FS := (sFor (iSeqS (iVar 5)) (ptB (.nm 8)) L1__law_parts)
abbrev E3__law_parts : FE := (iCall oTup [(iSl oSl (iBin oIx (iBin oIx (iBin oIx (iVar 0) (iBin oSub (iVar 4) (iC (.int 1)))) (iVar 6)) (iVar 9)) iNoP (iPart (iC (.int 2)))), (iSl oSl (iBin oIx (iBin oIx (iBin oIx (iVar 0) (iVar 4)) (iVar 6)) (iVar 9)) iNoP (iPart (iC (.int 2))))])
abbrev L4__law_parts : FS := (sAsg (ptB (.nm 3)) (iBin oAdd (iVar 3) (iLc (iRange1 [(iCall oLen [(iBin oIx (iBin oIx (iVar 0) (iVar 4)) (iVar 6))])]) (ptB (.nm 9)) (fun _ ah => .ok true ah) E3__law_parts [9])))
def B__law_parts : FS :=
  (sSeq (sAsg (ptB (.nm 2)) (iCall oLst []))
  (sSeq (sAsg (ptB (.nm 3)) (iCall oLst []))
  (sSeq (sIf (iTr (iBin oIn (iVar 1) (iC (.str ⟨#[76, 82]⟩)))) (sSeq (sAsg (ptB (.nm 4)) (iBin oDiv (iCall oLen [(iBin oIx (iVar 0) (iC (.int 0)))]) (iC (.int 2))))
  (sFor (iSeqS (iVar 0)) (ptB (.nm 5)) L2__law_parts)) (sSeq (sAsg (ptB (.nm 4)) (iBin oDiv (iCall oLen [(iVar 0)]) (iC (.int 2))))
  (sSeq (sFor (iSeqS (iBin oIx (iCall oLst [(iSl oSl (iVar 0) (iPart (iVar 4)) iNoP), (iSl oSl (iVar 0) iNoP (iPart (iVar 4)))]) (iCall oInt [(iBin oEq (iVar 1) (iC (.str ⟨#[84]⟩)))]))) (ptB (.nm 5)) L3__law_parts)
  (sFor (iRange1 [(iCall oLen [(iBin oIx (iVar 0) (iC (.int 0)))])]) (ptB (.nm 6)) L4__law_parts))))
  (sRet (iCall oLst [(iVar 2), (iVar 3)])))))
theorem raw__law_parts (M : Mods w K mg) : Ok1 P w K mg base "_law_parts" 1 ["grid", "letter"] (iBody 11 B__law_parts) := by
  obtain ⟨f, fd, F, hm, hb⟩ := M.f__law_parts
  refine ⟨f, fd, hm, F.kp, hb, fn_ok (k := 0) F sc__law_parts fun cdv A outer s H E hr hn => ?_⟩
  have hu65 := room65 hr
  have hu1 := room1 hr
  exact (s_cons (s_set 2 sc__law_parts.nd (j_lst a_nil))
  (s_cons (s_set 3 sc__law_parts.nd (j_lst a_nil))
  (s_cons (s_if (t_cmp (j_pc (op_inA hu65) ok_in (j_var 1) (j_str ⟨#[76, 82]⟩ (by kernel_rfl)))) (s_cons (s_set 4 sc__law_parts.nd (j_bin op_fdiv ok_i (j_callB call_lenA ok_len (by exact rfl) M.nb_len boot_len (a_cons (j_ix hu1 (j_var 0) j_int) a_nil)) j_int))
  (s_one (s_for PassesOwn.never rfl (i_seqS (j_var 0)) (g_nm 5 sc__law_parts.nd) (s_cons (s_set 7 sc__law_parts.nd (j_ix hu1 (j_lst (a_cons (j_sl (j_var 5) (j_part (j_var 4)) j_noP) (a_cons (j_sl (j_var 5) j_noP (j_part (j_var 4))) a_nil))) (j_callT call_int1 ok_int (by exact rfl) M.nb_int boot_int (a_cons (j_cmp (j_pc (op_eqA hr.units) ok_eq (j_var 1) (j_str ⟨#[76]⟩ (by kernel_rfl)))) a_nil))))
  (s_cons (s_for PassesOwn.never rfl (i_seqS (j_var 7)) (g_nm 8 sc__law_parts.nd) (s_one (s_set 2 sc__law_parts.nd (j_bin op_addA ok_add (j_var 2) (j_lc rfl sc__law_parts.nd (i_seqS (j_var 8)) (own := [(("leaf" : Str), 10)]) (blk_of (by kernel_rfl)) (by decide) (fun _ _ _ _ _ => (g_nm 10 sc__law_parts.nd)) (fun _ _ _ _ _ => c_nil) (fun _ _ _ _ _ => (j_sl (j_var 10) j_noP (j_part j_int))))))))
  (s_one (s_set 3 sc__law_parts.nd (j_bin op_addA ok_add (j_var 3) (j_lc rfl sc__law_parts.nd (i_range1 (by exact rfl) M.nb_range (a_cons (j_callB call_lenA ok_len (by exact rfl) M.nb_len boot_len (a_cons (j_ix hu1 (j_var 5) (j_var 4)) a_nil)) a_nil)) (own := [(("k" : Str), 9)]) (blk_of (by kernel_rfl)) (by decide) (fun _ _ _ _ _ => (g_nm 9 sc__law_parts.nd)) (fun _ _ _ _ _ => c_nil) (fun _ _ _ _ _ => (j_tup (a_cons (j_sl (j_ix hu1 (j_ix hu1 (j_var 5) (j_bin op_sub ok_sub (j_var 4) j_int)) (j_var 9)) j_noP (j_part j_int)) (a_cons (j_sl (j_ix hu1 (j_ix hu1 (j_var 5) (j_var 4)) (j_var 9)) j_noP (j_part j_int)) a_nil))))))))))))) (s_cons (s_set 4 sc__law_parts.nd (j_bin op_fdiv ok_i (j_callB call_lenA ok_len (by exact rfl) M.nb_len boot_len (a_cons (j_var 0) a_nil)) j_int))
  (s_cons (s_for PassesOwn.never rfl (i_seqS (j_ix hu1 (j_lst (a_cons (j_sl (j_var 0) (j_part (j_var 4)) j_noP) (a_cons (j_sl (j_var 0) j_noP (j_part (j_var 4))) a_nil))) (j_callT call_int1 ok_int (by exact rfl) M.nb_int boot_int (a_cons (j_cmp (j_pc (op_eqA hr.units) ok_eq (j_var 1) (j_str ⟨#[84]⟩ (by kernel_rfl)))) a_nil)))) (g_nm 5 sc__law_parts.nd) (s_one (s_for PassesOwn.never rfl (i_seqS (j_var 5)) (g_nm 8 sc__law_parts.nd) (s_one (s_set 2 sc__law_parts.nd (j_bin op_addA ok_add (j_var 2) (j_lc rfl sc__law_parts.nd (i_seqS (j_var 8)) (own := [(("leaf" : Str), 10)]) (blk_of (by kernel_rfl)) (by decide) (fun _ _ _ _ _ => (g_nm 10 sc__law_parts.nd)) (fun _ _ _ _ _ => c_nil) (fun _ _ _ _ _ => (j_sl (j_var 10) j_noP (j_part j_int))))))))))
  (s_one (s_for PassesOwn.never rfl (i_range1 (by exact rfl) M.nb_range (a_cons (j_callB call_lenA ok_len (by exact rfl) M.nb_len boot_len (a_cons (j_ix hu1 (j_var 0) j_int) a_nil)) a_nil)) (g_nm 6 sc__law_parts.nd) (s_one (s_set 3 sc__law_parts.nd (j_bin op_addA ok_add (j_var 3) (j_lc rfl sc__law_parts.nd (i_range1 (by exact rfl) M.nb_range (a_cons (j_callB call_lenA ok_len (by exact rfl) M.nb_len boot_len (a_cons (j_ix hu1 (j_ix hu1 (j_var 0) (j_var 4)) (j_var 6)) a_nil)) a_nil)) (own := [(("k" : Str), 9)]) (blk_of (by kernel_rfl)) (by decide) (fun _ _ _ _ _ => (g_nm 9 sc__law_parts.nd)) (fun _ _ _ _ _ => c_nil) (fun _ _ _ _ _ => (j_tup (a_cons (j_sl (j_ix hu1 (j_ix hu1 (j_ix hu1 (j_var 0) (j_bin op_sub ok_sub (j_var 4) j_int)) (j_var 6)) (j_var 9)) j_noP (j_part j_int)) (a_cons (j_sl (j_ix hu1 (j_ix hu1 (j_ix hu1 (j_var 0) (j_var 4)) (j_var 6)) (j_var 9)) j_noP (j_part j_int)) a_nil)))))))))))))
  (s_one (s_ret (j_lst (a_cons (j_var 2) (a_cons (j_var 3) a_nil))))))))
def F__law_parts : List D → AH → Res D := iBody 11 B__law_parts
def dNN (p : EM.NN) : D := .tup [dI p.1, dI p.2]
def dP2 (p : EM.NN × EM.NN) : D := .tup [dNN p.1, dNN p.2]
def posL (x : FM.Leaf) : EM.NN := (x.c, x.r)
theorem leaf_cut {x : FM.Leaf} {f : FE} {env : AE} {a : AH} (h : f env a = .ok (dLf x) a) : (iSl oSl f iNoP (iPart (iC (.int 2)))) env a = .ok (dNN (posL x)) a :=
  eSl h eNoP (ePart (i := 2) eC) (sliceToT (xs := [dI x.c, dI x.r, .str (face x.f), .str (head x.u)]) (n := 2))
theorem parts_turn {G L p3 h4 l5 c6 o7 e9 : Option D} {a : AH} {T : List EM.NN} {s : Stack} (hz : T.length + s.length ≤ 100000) :
    L1__law_parts [G, L, some (dL dNN T), p3, h4, l5, c6, o7, some (dLs s), e9, none] a = .ok (.nx, [G, L, some (dL dNN (T ++ s.map posL)), p3, h4, l5, c6, o7, some (dLs s), e9, none]) a := by
  have cp : (iLc (iSeqS (iVar 8)) (ptB (.nm 10)) (fun _ ah => .ok true ah) E1__law_parts [10]) [G, L, some (dL dNN T), p3, h4, l5, c6, o7, some (dLs s), e9, none] a = .ok (dL dNN (s.map posL)) a :=
    okd (eLc (eSqL (eV rfl)) (compL_map (o := fun x => dNN (posL x)) (fun x _ => ⟨_, rfl, rfl, leaf_cut (eV rfl)⟩) (by rw [List.length_nil, Nat.zero_add]; exact small (by omega)))) (by rw [List.nil_append]; unfold dL; rw [List.map_map]; rfl)
  refine eAsg (okd (eBin (eV rfl) cp (oAdd_lst (by rw [List.length_map, List.length_map, List.length_map]; exact small (by omega)))) ?_) rfl
  show D.lst _ = D.lst _
  rw [List.map_append]
theorem parts_stacks {G L p3 h4 l5 c6 o7 e9 : Option D} {a : AH} : ∀ (ss : List Stack) (T : List EM.NN) (e8 : Option D), T.length + (ss.flatMap fun s => s.map posL).length ≤ 100000 → ∃ f8,
    forL (ptB (.nm 8)) L1__law_parts (ss.map dLs) [G, L, some (dL dNN T), p3, h4, l5, c6, o7, e8, e9, none] a = .ok (.nx, [G, L, some (dL dNN (T ++ ss.flatMap fun s => s.map posL)), p3, h4, l5, c6, o7, f8, e9, none]) a
  | [], T, e8, _ => ⟨e8, by rw [List.flatMap_nil, List.append_nil]; exact forL_nil⟩
  | s :: ss, T, e8, hz => by
    rw [List.flatMap_cons, List.length_append, List.length_map] at hz
    obtain ⟨f8, h⟩ := parts_stacks (G := G) (L := L) (p3 := p3) (h4 := h4) (l5 := l5) (c6 := c6) (o7 := o7) (e9 := e9) (a := a) ss (T ++ s.map posL) (some (dLs s)) (by rw [List.length_append, List.length_map]; omega)
    refine ⟨f8, forL_cons rfl (parts_turn (by omega)) ?_⟩
    rw [h, List.flatMap_cons, List.append_assoc]
def pairsAt (x y : Stack) : List (EM.NN × EM.NN) := (List.range y.length).map fun i => (posL (x.getD i ⟨0, 0, true, true⟩), posL (y.getD i ⟨0, 0, true, true⟩))
theorem get_leaf {s : Stack} {i : Nat} (h : i < s.length) : (s.map dLf)[i]? = some (dLf (s.getD i ⟨0, 0, true, true⟩)) := by
  rw [List.getElem?_map, List.getElem?_eq_getElem h, List.getD_eq_getElem?_getD, List.getElem?_eq_getElem h]
  rfl
/-- a line that lies across a fold -/
structure LineOk (row : List Stack) (m : Nat) : Prop where
  h : 0 < row.length / 2
  w : row.length ≤ 32
  s : ∀ s ∈ row, s.length = m
theorem parts_line {G e6 o7 e8 : Option D} {k : Lt} {a : AH} {T : List EM.NN} {Q : List (EM.NN × EM.NN)} {row : List Stack} {m h : Nat} (hl : LineOk row m) (hm : m ≤ 32) (hh : h = row.length / 2) (hT : T.length ≤ 40000) (hQ : Q.length ≤ 40000) : ∃ f7 f8,
    L2__law_parts [G, some (.str (ls k)), some (dL dNN T), some (dL dP2 Q), some (dI h), some (dLr row), e6, o7, e8, none, none] a =
      .ok (.nx, [G, some (.str (ls k)), some (dL dNN (T ++ (if k = .L then row.take h else row.drop h).flatMap fun s => s.map posL)), some (dL dP2 (Q ++ pairsAt (row.getD (h - 1) []) (row.getD h []))), some (dI h), some (dLr row), e6, f7, f8, none, none]) a := by
  subst hh
  obtain ⟨h0, hw, hs⟩ := hl
  have c1 : (sAsg (ptB (.nm 7)) (iBin oIx (iCall oLst [(iSl oSl (iVar 5) (iPart (iVar 4)) iNoP), (iSl oSl (iVar 5) iNoP (iPart (iVar 4)))]) (iCall oInt [(iBin oEq (iVar 1) (iC (.str ⟨#[76]⟩)))]))) [G, some (.str (ls k)), some (dL dNN T), some (dL dP2 Q), some (dI (row.length / 2)), some (dLr row), e6, o7, e8, none, none] a =
      .ok (.nx, [G, some (.str (ls k)), some (dL dNN T), some (dL dP2 Q), some (dI (row.length / 2)), some (dLr row), e6, some (dLr (if k = .L then row.take (row.length / 2) else row.drop (row.length / 2))), e8, none, none]) a := by
    refine eAsg (okd (eBin (eCall (eA (eSl (eV rfl) (ePartN (eV rfl)) eNoP sliceFromL) (eA (eSl (eV rfl) eNoP (ePartN (eV rfl)) sliceToL) eA0)) lst2) (eCall (eA (eBin (eV rfl) eC (eq_L k a)) eA0) (show oInt [.bl (decide (k = .L))] a = .ok (dI (if k = .L then 1 else 0)) a by by_cases c : k = .L <;> simp [c] <;> rfl)) (ix_lst (n := if k = .L then 1 else 0) (d := dLr (if k = .L then row.take (row.length / 2) else row.drop (row.length / 2))) ?_ rfl)) rfl) rfl
    by_cases c : k = .L
    · rw [if_pos c, if_pos c, ← List.map_take]; rfl
    · rw [if_neg c, if_neg c, ← List.map_drop]; rfl
  generalize hP : (if k = .L then row.take (row.length / 2) else row.drop (row.length / 2)) = P at c1
  have pm : ∀ s ∈ P, s ∈ row := fun s hs => by
    rw [← hP] at hs
    split at hs
    · exact List.mem_of_mem_take hs
    · exact List.mem_of_mem_drop hs
  have pn : P.length ≤ 32 := by rw [← hP]; split <;> simp <;> omega
  have pt : (P.flatMap fun s => s.map posL).length ≤ 32 * 32 := by
    have : ∀ P : List Stack, (∀ s ∈ P, s ∈ row) → (P.flatMap fun s => s.map posL).length ≤ 32 * P.length := fun P => by
      induction P with
      | nil => intro _; simp
      | cons s P ih =>
        intro hp
        have h1 := hs s (hp s List.mem_cons_self)
        have h2 := ih fun t ht => hp t (List.mem_cons_of_mem _ ht)
        rw [List.flatMap_cons, List.length_append, List.length_map, List.length_cons]
        omega
    have := this P pm
    omega
  obtain ⟨f8, c2⟩ := parts_stacks (G := G) (L := some (.str (ls k))) (p3 := some (dL dP2 Q)) (h4 := some (dI (row.length / 2))) (l5 := some (dLr row)) (c6 := e6) (o7 := some (dLr P)) (e9 := none) (a := a) P T e8 (by omega)
  have i1 : row.length / 2 - 1 < row.length := by omega
  have i2 : row.length / 2 < row.length := by omega
  have m1 : (row.getD (row.length / 2 - 1) []).length = m := hs _ (getD_in i1)
  have m2 : (row.getD (row.length / 2) []).length = m := hs _ (getD_in i2)
  have get : ∀ i, i < row.length → ∀ (env : AE) (f : FE), env[5]? = some (some (dLr row)) → f env a = .ok (dI i) a → iBin oIx (iVar 5) f env a = .ok (dLs (row.getD i [])) a := fun i hi env f h0 hf => eBin (eV h0) hf (ix_lst (get_lst hi) rfl)
  have c3 : (iLc (iRange1 [(iCall oLen [(iBin oIx (iVar 5) (iVar 4))])]) (ptB (.nm 9)) (fun _ ah => .ok true ah) E2__law_parts [9]) [G, some (.str (ls k)), some (dL dNN (T ++ P.flatMap fun s => s.map posL)), some (dL dP2 Q), some (dI (row.length / 2)), some (dLr row), e6, some (dLr P), f8, none, none] a = .ok (dL dP2 (pairsAt (row.getD (row.length / 2 - 1) []) (row.getD (row.length / 2) []))) a := by
    refine okd (eLc (eRg1N (n := m) (eCall (eA (get _ i2 _ _ rfl (eV rfl)) eA0) (okd lenL (by rw [m2]))) (by omega)) (compL_map (o := fun i => dP2 (posL ((row.getD (row.length / 2 - 1) []).getD i ⟨0, 0, true, true⟩), posL ((row.getD (row.length / 2) []).getD i ⟨0, 0, true, true⟩))) (fun i hi => ⟨_, rfl, rfl, ?_⟩) (by rw [List.length_nil, List.length_range]; exact small (by omega)))) ?_
    · have hi := List.mem_range.mp hi
      exact eCall (eA (leaf_cut (eBin (get _ i1 _ _ rfl (eBin (eV rfl) (eN 1) (subN h0))) (eV rfl) (ix_lst (get_leaf (by omega)) rfl))) (eA (leaf_cut (eBin (get _ i2 _ _ rfl (eV rfl)) (eV rfl) (ix_lst (get_leaf (by omega)) rfl))) eA0)) tup2
    · rw [List.nil_append]
      unfold dL pairsAt
      rw [m2, List.map_map]
      rfl
  have c4 : (sAsg (ptB (.nm 3)) (iBin oAdd (iVar 3) (iLc (iRange1 [(iCall oLen [(iBin oIx (iVar 5) (iVar 4))])]) (ptB (.nm 9)) (fun _ ah => .ok true ah) E2__law_parts [9]))) [G, some (.str (ls k)), some (dL dNN (T ++ P.flatMap fun s => s.map posL)), some (dL dP2 Q), some (dI (row.length / 2)), some (dLr row), e6, some (dLr P), f8, none, none] a =
      .ok (.nx, [G, some (.str (ls k)), some (dL dNN (T ++ P.flatMap fun s => s.map posL)), some (dL dP2 (Q ++ pairsAt (row.getD (row.length / 2 - 1) []) (row.getD (row.length / 2) []))), some (dI (row.length / 2)), some (dLr row), e6, some (dLr P), f8, none, none]) a := by
    refine eAsg (okd (eBin (eV rfl) c3 (oAdd_lst (by rw [List.length_map, List.length_map]; unfold pairsAt; rw [List.length_map, List.length_range, m2]; exact small (by omega)))) ?_) rfl
    show D.lst _ = D.lst _
    rw [List.map_append]
  exact ⟨some (dLr P), f8, eSeq c1 (eSeq (eFor (eSqL (eV rfl)) c2) c4)⟩
theorem flat_le {n m : Nat} : ∀ {P : List Stack}, (∀ s ∈ P, s.length ≤ m) → (P.flatMap fun s => s.map posL).length ≤ P.length * m
  | [], _ => Nat.zero_le _
  | s :: P, h => by
    have h1 := h s List.mem_cons_self
    have h2 := flat_le (n := n) (m := m) (P := P) fun t ht => h t (List.mem_cons_of_mem _ ht)
    rw [List.flatMap_cons, List.length_append, List.length_map, List.length_cons, Nat.succ_mul]
    omega
theorem parts_down {G L p3 h4 c6 o7 e9 : Option D} {a : AH} : ∀ (gs : Grid) (T : List EM.NN) (l5 e8 : Option D), (∀ row ∈ gs, row.length ≤ 32 ∧ ∀ s ∈ row, s.length ≤ 32) → T.length + gs.length * 1024 ≤ 100000 → ∃ f5 f8,
    forL (ptB (.nm 5)) L3__law_parts (gs.map dLr) [G, L, some (dL dNN T), p3, h4, l5, c6, o7, e8, e9, none] a = .ok (.nx, [G, L, some (dL dNN (T ++ gs.flatMap fun row => row.flatMap fun s => s.map posL)), p3, h4, f5, c6, o7, f8, e9, none]) a
  | [], T, l5, e8, _, _ => ⟨l5, e8, by rw [List.flatMap_nil, List.append_nil]; exact forL_nil⟩
  | row :: gs, T, l5, e8, h, hz => by
    obtain ⟨r1, r2⟩ := h row List.mem_cons_self
    have fl := flat_le (n := 0) (m := 32) r2
    have r3 : row.length * 32 ≤ 1024 := by omega
    rw [List.length_cons, Nat.succ_mul] at hz
    obtain ⟨f8, c1⟩ := parts_stacks (G := G) (L := L) (p3 := p3) (h4 := h4) (l5 := some (dLr row)) (c6 := c6) (o7 := o7) (e9 := e9) (a := a) row T e8 (by omega)
    obtain ⟨g5, g8, c2⟩ := parts_down (G := G) (L := L) (p3 := p3) (h4 := h4) (c6 := c6) (o7 := o7) (e9 := e9) (a := a) gs (T ++ row.flatMap fun s => s.map posL) (some (dLr row)) f8 (fun r hr => h r (List.mem_cons_of_mem _ hr)) (by rw [List.length_append]; omega)
    refine ⟨g5, g8, forL_cons rfl (eFor (eSqL (eV rfl)) c1) ?_⟩
    rw [c2, List.flatMap_cons, List.append_assoc]
theorem parts_cols {L t2 l5 o7 e8 : Option D} {g : Grid} {h m w : Nat} {a : AH} (i1 : h - 1 < g.length) (i2 : h < g.length) (h0 : 0 < h) (rect : Rect w g) (hw : w ≤ 32) (hs : ∀ row ∈ g, ∀ s ∈ row, s.length = m) (hm : m ≤ 32) : ∀ (cs : List Nat) (Q : List (EM.NN × EM.NN)) (c6 : Option D), (∀ c ∈ cs, c < w) → Q.length + cs.length * 32 ≤ 100000 → ∃ f6,
    forL (ptB (.nm 6)) L4__law_parts (cs.map dI) [some (dLg g), L, t2, some (dL dP2 Q), some (dI h), l5, c6, o7, e8, none, none] a = .ok (.nx, [some (dLg g), L, t2, some (dL dP2 (Q ++ cs.flatMap fun c => pairsAt ((g.getD (h - 1) []).getD c []) ((g.getD h []).getD c []))), some (dI h), l5, f6, o7, e8, none, none]) a
  | [], Q, c6, _, _ => ⟨c6, by rw [List.flatMap_nil, List.append_nil]; exact forL_nil⟩
  | c :: cs, Q, c6, hc, hz => by
    rw [List.length_cons, Nat.succ_mul] at hz
    have cw := hc c List.mem_cons_self
    have r1 := rect _ (getD_in (d := []) i1)
    have r2 := rect _ (getD_in (d := []) i2)
    have c1 : c < (g.getD (h - 1) []).length := by omega
    have c2 : c < (g.getD h []).length := by omega
    have m1 : ((g.getD (h - 1) []).getD c []).length = m := hs _ (getD_in i1) _ (getD_in c1)
    have m2 : ((g.getD h []).getD c []).length = m := hs _ (getD_in i2) _ (getD_in c2)
    have get : ∀ i, i < g.length → ∀ (env : AE) (f : FE), env[0]? = some (some (dLg g)) → f env a = .ok (dI i) a → iBin oIx (iVar 0) f env a = .ok (dLr (g.getD i [])) a := fun i hi env f e0 hf => eBin (eV e0) hf (ix_lst (get_lrow hi) rfl)
    have comp : (iLc (iRange1 [(iCall oLen [(iBin oIx (iBin oIx (iVar 0) (iVar 4)) (iVar 6))])]) (ptB (.nm 9)) (fun _ ah => .ok true ah) E3__law_parts [9]) [some (dLg g), L, t2, some (dL dP2 Q), some (dI h), l5, some (dI c), o7, e8, none, none] a = .ok (dL dP2 (pairsAt ((g.getD (h - 1) []).getD c []) ((g.getD h []).getD c []))) a := by
      refine okd (eLc (eRg1N (n := m) (eCall (eA (eBin (get _ i2 _ _ rfl (eV rfl)) (eV rfl) (ix_lst (get_lst c2) rfl)) eA0) (okd lenL (by rw [m2]))) (by omega)) (compL_map (o := fun i => dP2 (posL (((g.getD (h - 1) []).getD c []).getD i ⟨0, 0, true, true⟩), posL (((g.getD h []).getD c []).getD i ⟨0, 0, true, true⟩))) (fun i hi => ⟨_, rfl, rfl, ?_⟩) (by rw [List.length_nil, List.length_range]; exact small (by omega)))) ?_
      · have hi := List.mem_range.mp hi
        exact eCall (eA (leaf_cut (eBin (eBin (get _ i1 _ _ rfl (eBin (eV rfl) (eN 1) (subN h0))) (eV rfl) (ix_lst (get_lst c1) rfl)) (eV rfl) (ix_lst (get_leaf (by omega)) rfl))) (eA (leaf_cut (eBin (eBin (get _ i2 _ _ rfl (eV rfl)) (eV rfl) (ix_lst (get_lst c2) rfl)) (eV rfl) (ix_lst (get_leaf (by omega)) rfl))) eA0)) tup2
      · rw [List.nil_append]
        unfold dL pairsAt
        rw [m2, List.map_map]
        rfl
    have pl : (pairsAt ((g.getD (h - 1) []).getD c []) ((g.getD h []).getD c [])).length = m := by unfold pairsAt; rw [List.length_map, List.length_range, m2]
    obtain ⟨f6, k⟩ := parts_cols (L := L) (t2 := t2) (l5 := l5) (o7 := o7) (e8 := e8) (a := a) i1 i2 h0 rect hw hs hm cs (Q ++ pairsAt ((g.getD (h - 1) []).getD c []) ((g.getD h []).getD c [])) (some (dI c)) (fun x hx => hc x (List.mem_cons_of_mem _ hx)) (by rw [List.length_append, pl]; omega)
    refine ⟨f6, forL_cons rfl (eAsg (okd (eBin (eV rfl) comp (oAdd_lst (by rw [List.length_map, List.length_map, pl]; exact small (by omega)))) (v := dL dP2 (Q ++ pairsAt ((g.getD (h - 1) []).getD c []) ((g.getD h []).getD c []))) ?_) rfl) ?_⟩
    · show D.lst _ = D.lst _
      rw [List.map_append]
    · refine k.trans ?_
      rw [List.flatMap_cons, List.append_assoc]
theorem parts_lines {G : Option D} {k : Lt} {a : AH} {h m w : Nat} (hh : h = w / 2) (h0 : 0 < h) (hw : w ≤ 32) (hm : m ≤ 32) : ∀ (gs : Grid) (T : List EM.NN) (Q : List (EM.NN × EM.NN)) (l5 c6 o7 e8 : Option D), (∀ row ∈ gs, row.length = w ∧ ∀ s ∈ row, s.length = m) → T.length + gs.length * 1024 ≤ 40000 → Q.length + gs.length * 1024 ≤ 40000 → ∃ f5 f7 f8,
    forL (ptB (.nm 5)) L2__law_parts (gs.map dLr) [G, some (.str (ls k)), some (dL dNN T), some (dL dP2 Q), some (dI h), l5, c6, o7, e8, none, none] a =
      .ok (.nx, [G, some (.str (ls k)), some (dL dNN (T ++ gs.flatMap fun row => (if k = .L then row.take h else row.drop h).flatMap fun s => s.map posL)), some (dL dP2 (Q ++ gs.flatMap fun row => pairsAt (row.getD (h - 1) []) (row.getD h []))), some (dI h), f5, c6, f7, f8, none, none]) a
  | [], T, Q, l5, c6, o7, e8, _, _, _ => ⟨l5, o7, e8, by rw [List.flatMap_nil, List.append_nil, List.flatMap_nil, List.append_nil]; exact forL_nil⟩
  | row :: gs, T, Q, l5, c6, o7, e8, hr, hT, hQ => by
    obtain ⟨r1, r2⟩ := hr row List.mem_cons_self
    rw [List.length_cons, Nat.succ_mul] at hT hQ
    obtain ⟨f7, f8, c1⟩ := parts_line (G := G) (e6 := c6) (o7 := o7) (e8 := e8) (k := k) (a := a) (T := T) (Q := Q) (row := row) (m := m) (h := h) ⟨by rw [r1]; omega, by omega, r2⟩ hm (by rw [r1]; exact hh) (by omega) (by omega)
    have tl : ((if k = .L then row.take h else row.drop h).flatMap fun s => s.map posL).length ≤ 1024 := by
      have pm : ∀ s ∈ (if k = .L then row.take h else row.drop h), s.length ≤ 32 := fun s hs => by
        split at hs
        · rw [r2 s (List.mem_of_mem_take hs)]; exact hm
        · rw [r2 s (List.mem_of_mem_drop hs)]; exact hm
      have := flat_le (n := 0) pm
      have pn : (if k = .L then row.take h else row.drop h).length ≤ 32 := by split <;> simp <;> omega
      omega
    have ql : (pairsAt (row.getD (h - 1) []) (row.getD h [])).length ≤ 1024 := by
      unfold pairsAt
      rw [List.length_map, List.length_range, r2 _ (getD_in (by omega))]
      omega
    obtain ⟨g5, g7, g8, c2⟩ := parts_lines (G := G) (k := k) (a := a) hh h0 hw hm gs (T ++ (if k = .L then row.take h else row.drop h).flatMap fun s => s.map posL) (Q ++ pairsAt (row.getD (h - 1) []) (row.getD h [])) (some (dLr row)) c6 f7 f8 (fun r hr' => hr r (List.mem_cons_of_mem _ hr')) (by rw [List.length_append]; omega) (by rw [List.length_append]; omega)
    refine ⟨g5, g7, g8, forL_cons rfl c1 ?_⟩
    rw [c2, List.flatMap_cons, List.flatMap_cons, List.append_assoc, List.append_assoc]
theorem lawparts_eq {g : Grid} {k : Lt} {m w : Nat} {a : AH} (n0 : 0 < g.length) (n32 : g.length ≤ 32) (rect : Rect w g) (w0 : 0 < w) (hw : w ≤ 32) (hs : ∀ row ∈ g, ∀ s ∈ row, s.length = m) (hm : m ≤ 32) (ka : k.across = true → 2 ≤ w) (kd : k.across = false → 2 ≤ g.length) :
    F__law_parts [dLg g, .str (ls k)] a = .ok (.lst [dL dNN (EM.partsM g k).1, dL dP2 (EM.partsM g k).2]) a := by
  have c1 : (sAsg (ptB (.nm 2)) (iCall oLst [])) [some (dLg g), some (.str (ls k)), none, none, none, none, none, none, none, none, none] a = .ok (.nx, [some (dLg g), some (.str (ls k)), some (dL dNN []), none, none, none, none, none, none, none, none]) a := eAsg (eCall eA0 lst0) rfl
  have c2 : (sAsg (ptB (.nm 3)) (iCall oLst [])) [some (dLg g), some (.str (ls k)), some (dL dNN []), none, none, none, none, none, none, none, none] a = .ok (.nx, [some (dLg g), some (.str (ls k)), some (dL dNN []), some (dL dP2 []), none, none, none, none, none, none, none]) a := eAsg (eCall eA0 lst0) rfl
  have row0 : ∀ env : AE, env[0]? = some (some (dLg g)) → (iBin oIx (iVar 0) (iC (.int 0))) env a = .ok (dLr (g.getD 0 [])) a := fun env e0 => eBin (eV e0) (eN 0) (ix_lst (get_lrow n0) rfl)
  have l0 : oLen [dLr (g.getD 0 [])] a = .ok (dI w) a := okd lenL (by rw [rect _ (getD_in n0)])
  have lg : oLen [dLg g] a = .ok (dI g.length) a := lenL
  have fin : ∀ (T : List EM.NN) (Q : List (EM.NN × EM.NN)) (e4 e5 e6 e7 e8 e9 e10 : Option D), (sRet (iCall oLst [(iVar 2), (iVar 3)])) [some (dLg g), some (.str (ls k)), some (dL dNN T), some (dL dP2 Q), e4, e5, e6, e7, e8, e9, e10] a = .ok (.rt (.lst [dL dNN T, dL dP2 Q]), [some (dLg g), some (.str (ls k)), some (dL dNN T), some (dL dP2 Q), e4, e5, e6, e7, e8, e9, e10]) a := fun T Q e4 e5 e6 e7 e8 e9 e10 => eRet (eCall (eA (eV rfl) (eA (eV rfl) eA0)) lst2)
  cases hk : k.across with
  | true =>
    have w2 := ka hk
    obtain ⟨f5, f7, f8, lp⟩ := parts_lines (G := some (dLg g)) (k := k) (a := a) (h := w / 2) (m := m) (w := w) rfl (by omega) hw hm g [] [] none none none none (fun row hr => ⟨rect row hr, hs row hr⟩) (by rw [List.length_nil]; omega) (by rw [List.length_nil]; omega)
    rw [List.nil_append, List.nil_append] at lp
    have eq : EM.partsM g k = (g.flatMap fun row => (if k = .L then row.take (w / 2) else row.drop (w / 2)).flatMap fun s => s.map posL, g.flatMap fun row => pairsAt (row.getD (w / 2 - 1) []) (row.getD (w / 2) [])) := by
      unfold EM.partsM
      rw [if_pos hk, rect _ (getD_in n0)]
      rfl
    rw [eq]
    exact eBodyR (eSeq c1 (eSeq c2 (eSeq (eSIfT (eTr (eBin (eV rfl) eC (by rw [in_LR, hk]))) (eSeq (eAsg (eBin (eCall (eA (row0 _ rfl) eA0) l0) (eN 2) (divN (by decide) (by decide))) rfl) (eFor (eSqL (eV rfl)) lp))) (fin _ _ _ _ _ _ _ _ _))))
  | false =>
    have g2 := kd hk
    have gm : ∀ row ∈ (if k = .T then g.take (g.length / 2) else g.drop (g.length / 2)), row.length ≤ 32 ∧ ∀ s ∈ row, s.length ≤ 32 := fun row hr => by
      have hr : row ∈ g := by
        split at hr
        · exact List.mem_of_mem_take hr
        · exact List.mem_of_mem_drop hr
      exact ⟨by rw [rect row hr]; exact hw, fun s hx => by rw [hs row hr s hx]; exact hm⟩
    have gl : (if k = .T then g.take (g.length / 2) else g.drop (g.length / 2)).length ≤ 32 := by split <;> simp <;> omega
    have over : (iBin oIx (iCall oLst [(iSl oSl (iVar 0) (iPart (iVar 4)) iNoP), (iSl oSl (iVar 0) iNoP (iPart (iVar 4)))]) (iCall oInt [(iBin oEq (iVar 1) (iC (.str ⟨#[84]⟩)))])) [some (dLg g), some (.str (ls k)), some (dL dNN []), some (dL dP2 []), some (dI (g.length / 2)), none, none, none, none, none, none] a = .ok (dLg (if k = .T then g.take (g.length / 2) else g.drop (g.length / 2))) a := by
      refine eBin (eCall (eA (eSl (eV rfl) (ePartN (eV rfl)) eNoP sliceFromL) (eA (eSl (eV rfl) eNoP (ePartN (eV rfl)) sliceToL) eA0)) lst2) (eCall (eA (eBin (eV rfl) eC (eq_T k a)) eA0) (show oInt [.bl (decide (k = .T))] a = .ok (dI (if k = .T then 1 else 0)) a by by_cases c : k = .T <;> simp [c] <;> rfl)) (ix_lst (n := if k = .T then 1 else 0) ?_ rfl)
      by_cases c : k = .T
      · rw [if_pos c, if_pos c, ← List.map_take]; rfl
      · rw [if_neg c, if_neg c, ← List.map_drop]; rfl
    obtain ⟨f5, f8, lp⟩ := parts_down (G := some (dLg g)) (L := some (.str (ls k))) (p3 := some (dL dP2 [])) (h4 := some (dI (g.length / 2))) (c6 := none) (o7 := none) (e9 := none) (a := a) _ [] none none gm (by rw [List.length_nil]; omega)
    rw [List.nil_append] at lp
    generalize hT : ((if k = .T then g.take (g.length / 2) else g.drop (g.length / 2)).flatMap fun row => row.flatMap fun s => s.map posL) = T at lp
    obtain ⟨f6, lq⟩ := parts_cols (L := some (.str (ls k))) (t2 := some (dL dNN T)) (l5 := f5) (o7 := none) (e8 := f8) (a := a) (h := g.length / 2) (m := m) (w := w) (by omega) (by omega) (by omega) rect hw hs hm (List.range w) [] none (fun c hc => List.mem_range.mp hc) (by rw [List.length_nil, List.length_range]; omega)
    rw [List.nil_append] at lq
    have eq : EM.partsM g k = (T, (List.range w).flatMap fun c => pairsAt ((g.getD (g.length / 2 - 1) []).getD c []) ((g.getD (g.length / 2) []).getD c [])) := by
      unfold EM.partsM
      rw [if_neg (by rw [hk]; decide), rect _ (getD_in n0), ← hT]
      rfl
    rw [eq]
    exact eBodyR (eSeq c1 (eSeq c2 (eSeq (eSIfF (eTr (eBin (eV rfl) eC (by rw [in_LR, hk]))) (eSeq (eAsg (eBin (eCall (eA (eV rfl) eA0) lg) (eN 2) (divN (by decide) (by decide))) rfl) (eSeq (eFor (eSqL over) lp) (eFor (eRg1N (eCall (eA (row0 _ rfl) eA0) l0) (by omega)) lq)))) (fin _ _ _ _ _ _ _ _ _))))
theorem sc__law_turned_edge : FnScope ["edge", "letter"] ["edge", "letter"] (defScope s__law_turned_edge) := ⟨rfl, rfl, rfl, by decide +kernel, rfl, by decide +kernel, by decide +kernel⟩
def B__law_turned_edge : FS :=
  (sSeq (sIf (iTr (iBin oIn (iVar 1) (iC (.str ⟨#[76, 82]⟩)))) (sRet (iGet2 (iDict [((iC (.str ⟨#[108, 101, 102, 116]⟩)), (iC (.str ⟨#[114, 105, 103, 104, 116]⟩))), ((iC (.str ⟨#[114, 105, 103, 104, 116]⟩)), (iC (.str ⟨#[108, 101, 102, 116]⟩)))]) (iVar 0) (iVar 0))) sNx)
  (sRet (iGet2 (iDict [((iC (.str ⟨#[116, 111, 112]⟩)), (iC (.str ⟨#[98, 111, 116, 116, 111, 109]⟩))), ((iC (.str ⟨#[98, 111, 116, 116, 111, 109]⟩)), (iC (.str ⟨#[116, 111, 112]⟩)))]) (iVar 0) (iVar 0))))
theorem raw__law_turned_edge (M : Mods w K mg) : Ok1 P w K mg base "_law_turned_edge" 1 ["edge", "letter"] (iBody 2 B__law_turned_edge) := by
  obtain ⟨f, fd, F, hm, hb⟩ := M.f__law_turned_edge
  refine ⟨f, fd, hm, F.kp, hb, fn_ok (k := 0) F sc__law_turned_edge fun cdv A outer s H E hr hn => ?_⟩
  have hu65 := room65 hr
  have hu1 := room1 hr
  exact (s_cons (s_if (t_cmp (j_pc (op_inA hu65) ok_in (j_var 1) (j_str ⟨#[76, 82]⟩ (by kernel_rfl)))) (s_one (s_ret (j_get2 hu1 (j_dict (d_cons (j_str ⟨#[108, 101, 102, 116]⟩ (by kernel_rfl)) (j_str ⟨#[114, 105, 103, 104, 116]⟩ (by kernel_rfl)) (d_cons (j_str ⟨#[114, 105, 103, 104, 116]⟩ (by kernel_rfl)) (j_str ⟨#[108, 101, 102, 116]⟩ (by kernel_rfl)) d_nil))) (j_var 0) (j_var 0)))) s_nil)
  (s_one (s_ret (j_get2 hu1 (j_dict (d_cons (j_str ⟨#[116, 111, 112]⟩ (by kernel_rfl)) (j_str ⟨#[98, 111, 116, 116, 111, 109]⟩ (by kernel_rfl)) (d_cons (j_str ⟨#[98, 111, 116, 116, 111, 109]⟩ (by kernel_rfl)) (j_str ⟨#[116, 111, 112]⟩ (by kernel_rfl)) d_nil))) (j_var 0) (j_var 0)))))
def F__law_turned_edge : List D → AH → Res D := iBody 2 B__law_turned_edge
def eS : Option Lt → Str
  | none => ⟨#[]⟩
  | some .L => ⟨#[108, 101, 102, 116]⟩
  | some .R => ⟨#[114, 105, 103, 104, 116]⟩
  | some .T => ⟨#[116, 111, 112]⟩
  | some .B => ⟨#[98, 111, 116, 116, 111, 109]⟩
theorem eGet2k {fo f fx : FE} {env : AE} {ah a1 a2 a3 : AH} {ks : List L2.Key} {ds : List D} {z : Str} {x : D} (h1 : fo env ah = .ok (.dk ks ds) a1) (h2 : f env a1 = .ok (.str z) a2) (h3 : fx env a2 = .ok x a3) : iGet2 fo f fx env ah = .ok ((lkD ks ds (.inr z)).getD x) a3 := by
  unfold iGet2
  have e : isDD a1 (.dk ks ds) = true := rfl
  rw [h1, Res.bind_ok, if_pos e, h2, Res.bind_ok, h3, Res.bind_ok]
  simp only [dgD, dkD, keyD]
theorem tedge_eq {e : Option Lt} {k : Lt} {a : AH} : F__law_turned_edge [.str (eS e), .str (ls k)] a = .ok (.str (eS (EM.turnE k e))) a := by
  unfold EM.turnE
  cases hk : k.across with
  | true =>
    rw [if_pos rfl]
    refine eBodyR (eSeqR (eSIfT (eTr (eBin (eV rfl) eC (by rw [in_LR, hk]))) (eRet (okd (eGet2k (okd (eDict (eP eC eC (eP eC eC eP0 rfl) rfl) (by decide)) rfl) (eV rfl) (eV rfl)) ?_))))
    cases e with
    | none => rfl
    | some c => cases c <;> rfl
  | false =>
    rw [if_neg Bool.false_ne_true]
    refine eBodyR (eSeq (eSIfF (eTr (eBin (eV rfl) eC (by rw [in_LR, hk]))) eNx) (eRet (okd (eGet2k (okd (eDict (eP eC eC (eP eC eC eP0 rfl) rfl) (by decide)) rfl) (eV rfl) (eV rfl)) ?_)))
    cases e with
    | none => rfl
    | some c => cases c <;> rfl
theorem sc__law_joints : FnScope ["folding", "grids", "found", "k", "stack", "rows", "pair", "places", "turned", "pairs", "leaf"] ["folding"] (defScope s__law_joints) := ⟨rfl, rfl, rfl, by decide +kernel, rfl, by decide +kernel, by decide +kernel⟩
abbrev L1__law_joints : FS := (sIf (iTr (iBin oInP (iBin oIx (iVar 6) (iC (.int 0))) (iVar 8))) (sPutN (iVar 2) (iVar 6) (iDef F__law_turned_edge [(iBin oNxGet (iVar 2) (iVar 6)), (iBin oIx (iVar 0) (iVar 3))])) sNx)
abbrev L2__law_joints : FS := (sPutN (iVar 2) (iVar 6) (iBin oIx (iDict [((iC (.str ⟨#[76]⟩)), (iC (.str ⟨#[108, 101, 102, 116]⟩))), ((iC (.str ⟨#[82]⟩)), (iC (.str ⟨#[114, 105, 103, 104, 116]⟩))), ((iC (.str ⟨#[84]⟩)), (iC (.str ⟨#[116, 111, 112]⟩))), ((iC (.str ⟨#[66]⟩)), (iC (.str ⟨#[98, 111, 116, 116, 111, 109]⟩)))]) (iBin oIx (iVar 0) (iVar 3))))
abbrev L3__law_joints : FS := (sSeq (sAsg (ptB (.tp [(.nm 8), (.nm 9)])) (iDef F__law_parts [(iBin oIx (iVar 1) (iVar 3)), (iBin oIx (iVar 0) (iVar 3))]))
  (sSeq (sFor (iSeqS (iCall oListN [(iVar 2)])) (ptB (.nm 6)) L1__law_joints)
  (sFor (iSeqS (iVar 9)) (ptB (.nm 6)) L2__law_joints)))
abbrev E1__law_joints : FE := (iSl oSl (iVar 10) iNoP (iPart (iC (.int 2))))
abbrev L4__law_joints : FS := (sSeq (sAsg (ptB (.nm 7)) (iCall oSortP [(iCall oLst [(iIndex (iVar 4) (iBin oIx (iVar 6) (iC (.int 0)))), (iIndex (iVar 4) (iBin oIx (iVar 6) (iC (.int 1))))])]))
  (sDrop (iApp (iVar 5) (iCall oTup [(iBin oIx (iVar 7) (iC (.int 0))), (iBin oIx (iVar 7) (iC (.int 1))), (iBin oNxGet (iVar 2) (iVar 6))]))))
def B__law_joints : FS :=
  (sSeq (sAsg (ptB (.nm 1)) (iDef F__law_states [(iVar 0)]))
  (sSeq (sAsg (ptB (.nm 2)) iNewN)
  (sSeq (sFor (iRange1 [(iCall oLen [(iVar 0)])]) (ptB (.nm 3)) L3__law_joints)
  (sSeq (sAsg (ptB (.nm 4)) (iLc (iSeqS (iBin oIx (iBin oIx (iBin oIx (iVar 1) (iUn oNeg (iC (.int 1)))) (iC (.int 0))) (iC (.int 0)))) (ptB (.nm 10)) (fun _ ah => .ok true ah) E1__law_joints [10]))
  (sSeq (sAsg (ptB (.nm 5)) (iCall oLstM []))
  (sSeq (sFor (iSeqS (iCall oListN [(iVar 2)])) (ptB (.nm 6)) L4__law_joints)
  (sRet (iCall oSortP [(iVar 5)]))))))))
theorem raw__law_joints (M : Mods w K mg) (h__law_states : Ok1 P w K mg base "_law_states" 3 ["folding"] F__law_states) (h__law_parts : Ok1 P w K mg base "_law_parts" 1 ["grid", "letter"] F__law_parts) (h__law_turned_edge : Ok1 P w K mg base "_law_turned_edge" 1 ["edge", "letter"] F__law_turned_edge) : Ok1 P w K mg base "_law_joints" 4 ["folding"] (iBody 11 B__law_joints) := by
  obtain ⟨f, fd, F, hm, hb⟩ := M.f__law_joints
  refine ⟨f, fd, hm, F.kp, hb, fn_ok (k := 3) F sc__law_joints fun cdv A outer s H E hr hn => ?_⟩
  have hr_law_states := hr.mono (j := 3) (by decide)
  have hr_law_parts := hr.mono (j := 1) (by decide)
  have hr_law_turned_edge := hr.mono (j := 1) (by decide)
  have hu65 := room65 hr
  have hu1 := room1 hr
  exact (s_cons (s_set 1 sc__law_joints.nd (h__law_states.jd hr_law_states hn (by exact rfl) rfl (a_cons (j_var 0) a_nil)))
  (s_cons (s_set 2 sc__law_joints.nd j_newN)
  (s_cons (s_for PassesOwn.never rfl (i_range1 (by exact rfl) M.nb_range (a_cons (j_callB call_lenA ok_len (by exact rfl) M.nb_len boot_len (a_cons (j_var 0) a_nil)) a_nil)) (g_nm 3 sc__law_joints.nd) (s_cons (s_asg (h__law_parts.jd hr_law_parts hn (by exact rfl) rfl (a_cons (j_ix hu1 (j_var 1) (j_var 3)) (a_cons (j_ix hu1 (j_var 0) (j_var 3)) a_nil))) (g_tp rfl (gs_cons (g_nm 8 sc__law_joints.nd) (gs_cons (g_nm 9 sc__law_joints.nd) gs_nil))))
  (s_cons (s_for PassesOwn.never rfl (i_seqS (j_callT (cr_lsDx rfl) ok_listN (by exact rfl) M.nb_list boot_list (a_cons (j_var 2) a_nil))) (g_nm 6 sc__law_joints.nd) (s_one (s_if (t_cmp (j_pc (op_inP hu65) ok_inP (j_ix hu1 (j_var 6) j_int) (j_var 8))) (s_one (s_putN (room9 hu65) (j_var 2) (j_var 6) (h__law_turned_edge.jd hr_law_turned_edge hn (by exact rfl) rfl (a_cons (j_nxGet (room9 hu65) (j_var 2) (j_var 6)) (a_cons (j_ix hu1 (j_var 0) (j_var 3)) a_nil))))) s_nil)))
  (s_one (s_for PassesOwn.never rfl (i_seqS (j_var 9)) (g_nm 6 sc__law_joints.nd) (s_one (s_putN (room9 hu65) (j_var 2) (j_var 6) (j_ix hu1 (j_dict (d_cons (j_str ⟨#[76]⟩ (by kernel_rfl)) (j_str ⟨#[108, 101, 102, 116]⟩ (by kernel_rfl)) (d_cons (j_str ⟨#[82]⟩ (by kernel_rfl)) (j_str ⟨#[114, 105, 103, 104, 116]⟩ (by kernel_rfl)) (d_cons (j_str ⟨#[84]⟩ (by kernel_rfl)) (j_str ⟨#[116, 111, 112]⟩ (by kernel_rfl)) (d_cons (j_str ⟨#[66]⟩ (by kernel_rfl)) (j_str ⟨#[98, 111, 116, 116, 111, 109]⟩ (by kernel_rfl)) d_nil))))) (j_ix hu1 (j_var 0) (j_var 3))))))))))
  (s_cons (s_setLc 4 rfl sc__law_joints.nd (i_seqS (j_ix hu1 (j_ix hu1 (j_ix hu1 (j_var 1) (j_un un_neg ok_neg j_int)) j_int) j_int)) (own := [(("leaf" : Str), 10)]) (blk_of (by kernel_rfl)) (by decide) (fun _ _ _ _ _ => (g_nm 10 sc__law_joints.nd)) (fun _ _ _ _ _ => c_nil) (fun _ _ _ _ _ => (j_sl (j_var 10) j_noP (j_part j_int))))
  (s_cons (s_set 5 sc__law_joints.nd (j_lstM a_nil))
  (s_cons (s_for PassesOwn.never rfl (i_seqS (j_callT (cr_lsDx rfl) ok_listN (by exact rfl) M.nb_list boot_list (a_cons (j_var 2) a_nil))) (g_nm 6 sc__law_joints.nd) (s_cons (s_set 7 sc__law_joints.nd (j_callB (cr_sortP' hu65) ok_sortP (by exact rfl) M.nb_sorted boot_sorted (a_cons (j_lst (a_cons (j_index hu65 (j_var 4) (j_ix hu1 (j_var 6) j_int)) (a_cons (j_index hu65 (j_var 4) (j_ix hu1 (j_var 6) j_int)) a_nil))) a_nil)))
  (s_one (s_drop (j_app (j_var 5) (j_tup (a_cons (j_ix hu1 (j_var 7) j_int) (a_cons (j_ix hu1 (j_var 7) j_int) (a_cons (j_nxGet (room9 hu65) (j_var 2) (j_var 6)) a_nil)))))))))
  (s_one (s_ret (j_callB (cr_sortP' hu65) ok_sortP (by exact rfl) M.nb_sorted boot_sorted (a_cons (j_var 5) a_nil))))))))))
def dJo (r : EM.Row) : D := .tup [dI r.1, dI r.2.1, .str (eS r.2.2)]
def F__law_joints : List D → AH → Res D := specF (fun l : List Lt => 1 ≤ l.length ∧ l.length ≤ 4) (fun l => [.str (fs l)]) fun l => dL dJo (EM.sortedM l)
theorem F__law_joints_eq {l : List Lt} {ah : AH} (h : 1 ≤ l.length ∧ l.length ≤ 4) : F__law_joints [.str (fs l)] ah = .ok (dL dJo (EM.sortedM l)) ah := specF_eq (x := l) (fun x y e => by
  simp only [List.cons.injEq, D.str.injEq] at e
  rw [fs_inj e.1]) h
def nkP (p : EM.NN) : NestedKey := .tup [.num p.1, .num p.2]
def nkPP (p : EM.NN × EM.NN) : NestedKey := .tup [nkP p.1, nkP p.2]
theorem key_NN (p : EM.NN) : keyN (dNN p) = some (nkP p) := by
  unfold keyN dNN dI nkP
  simp [tupK, nkDs, nkD, NestedKey.depth, NestedKey.depthAll]
theorem key_P2 (p : EM.NN × EM.NN) : keyN (dP2 p) = some (nkPP p) := by
  unfold keyN dP2 dNN dI nkPP nkP
  simp [tupK, nkDs, nkD, NestedKey.depth, NestedKey.depthAll]
theorem nkP_inj {p q : EM.NN} (h : nkP p = nkP q) : p = q := by
  simp only [nkP, NestedKey.tup.injEq, List.cons.injEq, NestedKey.num.injEq, and_true] at h
  exact Prod.ext (by omega) (by omega)
theorem nkPP_inj {p q : EM.NN × EM.NN} (h : nkPP p = nkPP q) : p = q := by
  simp only [nkPP, NestedKey.tup.injEq, List.cons.injEq, and_true] at h
  exact Prod.ext (nkP_inj h.1) (nkP_inj h.2)
abbrev FdX := (EM.NN × EM.NN) × Option Lt
def kD (x : FdX) : D := dP2 x.1
def vD (x : FdX) : D := .str (eS x.2)
theorem nk_kD (x : FdX) : nkD (kD x) = some (nkPP x.1) := keyN_nk (key_P2 x.1)
theorem nk_beq (x : FdX) (p : EM.NN × EM.NN) : decide (nkPP x.1 = nkPP p) = (x.1 == p) := by
  rw [Bool.eq_iff_iff, decide_eq_true_eq, beq_iff_eq]
  exact ⟨nkPP_inj, fun h => by rw [h]⟩
theorem lk_fd (f : EM.Fd) (p : EM.NN × EM.NN) : lkN (f.map kD) (f.map vD) (nkPP p) = (f.find? fun x => x.1 == p).map vD := by
  rw [lkN_map (nk := fun x : FdX => nkPP x.1) fun x _ => nk_kD x]
  congr 2
  exact funext fun x => nk_beq x p
theorem lk_get {f : EM.Fd} {p : EM.NN × EM.NN} (h : p ∈ f.map (·.1)) : lkN (f.map kD) (f.map vD) (nkPP p) = some (.str (eS (EM.get1 p f))) := by
  rw [lk_fd]
  unfold EM.get1
  cases e : f.find? fun x => x.1 == p with
  | some x => rfl
  | none =>
    obtain ⟨x, hx, rfl⟩ := List.mem_map.mp h
    have := List.find?_eq_none.mp e x hx
    simp at this
theorem st_fd (f : EM.Fd) (p : EM.NN × EM.NN) (e : Option Lt) : stN (f.map kD) (f.map vD) (dP2 p) (nkPP p) (.str (eS e)) = ((EM.upd1 p e f).map kD, (EM.upd1 p e f).map vD) := by
  unfold EM.upd1
  cases hf : f.find? fun x => x.1 == p with
  | some x =>
    have hany : f.any (fun x => x.1 == p) = true := List.any_eq_true.mpr ⟨x, List.mem_of_find?_eq_some hf, by have := List.find?_some hf; exact this⟩
    rw [if_pos hany, stN_old (e := vD x) (by rw [lk_fd, hf]; rfl), ptN_map (nk := fun x : FdX => nkPP x.1) fun x _ => nk_kD x]
    refine Prod.ext ?_ ?_
    · show f.map kD = _
      rw [List.map_map]
      refine List.map_congr_left fun x _ => ?_
      simp only [Function.comp]
      split <;> rfl
    · dsimp only
      rw [List.map_map]
      refine List.map_congr_left fun x _ => ?_
      simp only [Function.comp]
      have nb := nk_beq x p
      by_cases c : nkPP x.1 = nkPP p
      · rw [decide_eq_true c] at nb
        rw [if_pos c, if_pos nb.symm]; rfl
      · rw [decide_eq_false c] at nb
        rw [if_neg c, ← nb, if_neg Bool.false_ne_true]
  | none =>
    have hany : ¬ f.any (fun x => x.1 == p) = true := fun z => by
      obtain ⟨x, hx, hp⟩ := List.any_eq_true.mp z
      exact List.find?_eq_none.mp hf x hx hp
    rw [if_neg hany, stN_new (by rw [lk_fd, hf]; rfl), List.map_append, List.map_append]
    rfl
theorem upd_keys {f : EM.Fd} {p : EM.NN × EM.NN} {e : Option Lt} {q : EM.NN × EM.NN} (h : q ∈ f.map (·.1)) : q ∈ (EM.upd1 p e f).map (·.1) := by
  unfold EM.upd1
  split
  · rw [List.map_map]
    obtain ⟨x, hx, rfl⟩ := List.mem_map.mp h
    refine List.mem_map.mpr ⟨x, hx, ?_⟩
    simp only [Function.comp]
    split <;> rfl
  · rw [List.map_append]
    exact List.mem_append_left _ h
theorem upd_len {f : EM.Fd} {p : EM.NN × EM.NN} {e : Option Lt} : (EM.upd1 p e f).length ≤ f.length + 1 := by
  unfold EM.upd1
  split
  · rw [List.length_map]; omega
  · rw [List.length_append]; exact Nat.le_refl _
def FdH (ah : AH) (f : EM.Fd) : AH := ah ++ [.dx (f.map kD) (f.map vD)]
theorem fd_at {ah : AH} {f : EM.Fd} : (FdH ah f)[ah.length]? = some (.dx (f.map kD) (f.map vD)) := last_at
theorem fd_put {ah : AH} {f : EM.Fd} {p : EM.NN × EM.NN} {e : Option Lt} (h : f.length ≤ 1000) : putN (.ref ah.length) (dP2 p) (.str (eS e)) (FdH ah f) = some (FdH ah (EM.upd1 p e f)) := by
  rw [put_nx fd_at (key_P2 p) (by rw [List.length_map, sizeLine_eq]; omega), st_fd]
  unfold FdH
  rw [set_last]
theorem inP_lst {α : Type} [DecidableEq α] (C : Cod α) {x : α} {xs : List α} {ah : AH} (hx : C.val x) (hs : ∀ y ∈ xs, C.val y) (hk : C.k ≤ 39 := by decide) : oInP (C.e x) (.lst (xs.map C.e)) ah = .ok (.bl (decide (x ∈ xs))) ah := by
  have e1 : toPyL (xs.map C.e) = some (xs.map C.p) := py_map C.py xs
  have s1 : SeqAt.shaped (C.p x) = true := (C.shw x hx).shaped (by omega)
  have s2 : SeqAt.shaped (.list (xs.map C.p)) = true := (shw_lst (k := C.k) (n := C.n) fun y hy => by
    obtain ⟨z, hz, rfl⟩ := List.mem_map.mp hy
    exact C.shw z (hs z hz)).shaped (by omega)
  have e2 : ((xs.map C.p).any fun z => PyData.eqv z (C.p x)) = decide (x ∈ xs) := by
    rw [List.any_map, Bool.eq_iff_iff, List.any_eq_true, decide_eq_true_eq]
    constructor
    · rintro ⟨y, hy, h⟩
      simp only [Function.comp, C.eqv, decide_eq_true_eq] at h
      exact h ▸ hy
    · intro h
      exact ⟨x, h, by simp only [Function.comp, C.eqv, decide_eq_true_eq]⟩
  unfold oInP seqD
  simp only [C.py, e1, s1, s2, and_self, if_true, e2]
abbrev C2 : Cod EM.NN := Cod.pair Cod.nat Cod.nat
theorem fs_ix {l : List Lt} {i : Nat} {c : Lt} {ah : AH} (h : l[i]? = some c) (h5 : l.length ≤ 5) : oIx (.str (fs l)) (dI i) ah = .ok (.str (ls c)) ah :=
  ixS (by rw [fs_len]; omega) (by rw [fs_cps, List.getElem?_map, h]; rfl)
theorem turn_loop {ah : AH} {G0 G4 G5 G7 G9 : Option D} {l : List Lt} {i : Nat} {k : Lt} {T : List EM.NN} (hk : l[i]? = some k) (h5 : l.length ≤ 5) (hT : ∀ p ∈ T, p.1 < 1000 ∧ p.2 < 1000) : ∀ (ps : List (EM.NN × EM.NN)) (f : EM.Fd) (e6 : Option D), (∀ p ∈ ps, p ∈ f.map (·.1) ∧ p.1.1 < 1000 ∧ p.1.2 < 1000) → f.length + ps.length ≤ 1000 → ∃ f6,
    forL (ptB (.nm 6)) L1__law_joints (ps.map dP2) [some (.str (fs l)), G0, some (.ref ah.length), some (dI i), G4, G5, e6, G7, some (dL dNN T), G9, none] (FdH ah f) = .ok (.nx, [some (.str (fs l)), G0, some (.ref ah.length), some (dI i), G4, G5, f6, G7, some (dL dNN T), G9, none]) (FdH ah (EM.turnF k T ps f))
  | [], f, e6, _, _ => ⟨e6, forL_nil⟩
  | p :: ps, f, e6, hp, hz => by
    rw [List.length_cons] at hz
    obtain ⟨p1, p2, p3⟩ := hp p List.mem_cons_self
    have ix0 : ∀ (env : AE) (a : AH), env[6]? = some (some (dP2 p)) → (iBin oIx (iVar 6) (iC (.int 0))) env a = .ok (dNN p.1) a := fun env a e => eBin (eV e) (eN 0) (ix_tup (n := 0) rfl rfl)
    have isin : oInP (dNN p.1) (dL dNN T) (FdH ah f) = .ok (.bl (decide (p.1 ∈ T))) (FdH ah f) :=
      (inP_lst C2 (x := p.1) (xs := T) (ah := FdH ah f) ⟨by show p.1.1 < _; omega, by show p.1.2 < _; omega⟩ fun y hy => ⟨by have := hT y hy; show y.1 < _; omega, by have := hT y hy; show y.2 < _; omega⟩).trans (congrArg (fun b => Res.ok (D.bl b) (FdH ah f)) (decide_eq_decide.mpr Iff.rfl))
    by_cases c : p.1 ∈ T
    · obtain ⟨f6, ih⟩ := turn_loop (ah := ah) (G0 := G0) (G4 := G4) (G5 := G5) (G7 := G7) (G9 := G9) hk h5 hT ps (EM.upd1 p (EM.turnE k (EM.get1 p f)) f) (some (dP2 p)) (fun q hq => ⟨upd_keys (hp q (List.mem_cons_of_mem _ hq)).1, (hp q (List.mem_cons_of_mem _ hq)).2⟩) (by have := upd_len (f := f) (p := p) (e := EM.turnE k (EM.get1 p f)); omega)
      refine ⟨f6, forL_cons rfl (eSIfT (eTr (eBin (ix0 _ _ rfl) (eV rfl) (by rw [isin, decide_eq_true c]))) (ePutN (eDef (eA (eBin (eV rfl) (eV rfl) (get_nx fd_at (key_P2 p) (lk_get p1))) (eA (eBin (eV rfl) (eV rfl) (fs_ix hk h5)) eA0)) tedge_eq) (eV rfl) (eV rfl) (fd_put (by omega)))) ?_⟩
      rw [EM.turnF, if_pos c]
      exact ih
    · obtain ⟨f6, ih⟩ := turn_loop (ah := ah) (G0 := G0) (G4 := G4) (G5 := G5) (G7 := G7) (G9 := G9) hk h5 hT ps f (some (dP2 p)) (fun q hq => hp q (List.mem_cons_of_mem _ hq)) (by omega)
      refine ⟨f6, forL_cons rfl (eSIfF (eTr (eBin (ix0 _ _ rfl) (eV rfl) (by rw [isin, decide_eq_false c]))) eNx) ?_⟩
      rw [EM.turnF, if_neg c]
      exact ih
def dWords : D := .dk [.inr ⟨#[76]⟩, .inr ⟨#[82]⟩, .inr ⟨#[84]⟩, .inr ⟨#[66]⟩] [.str ⟨#[108, 101, 102, 116]⟩, .str ⟨#[114, 105, 103, 104, 116]⟩, .str ⟨#[116, 111, 112]⟩, .str ⟨#[98, 111, 116, 116, 111, 109]⟩]
theorem words_ix (c : Lt) {ah : AH} : oIx dWords (.str (ls c)) ah = .ok (.str (eS (some c))) ah := by cases c <;> rfl
theorem put_loop {ah : AH} {G0 G4 G5 G7 G8 G9 : Option D} {l : List Lt} {i : Nat} {k : Lt} (hk : l[i]? = some k) (h5 : l.length ≤ 5) : ∀ (ps : List (EM.NN × EM.NN)) (f : EM.Fd) (e6 : Option D), f.length + ps.length ≤ 1000 → ∃ f6,
    forL (ptB (.nm 6)) L2__law_joints (ps.map dP2) [some (.str (fs l)), G0, some (.ref ah.length), some (dI i), G4, G5, e6, G7, G8, G9, none] (FdH ah f) = .ok (.nx, [some (.str (fs l)), G0, some (.ref ah.length), some (dI i), G4, G5, f6, G7, G8, G9, none]) (FdH ah (EM.putF k ps f))
  | [], f, e6, _ => ⟨e6, forL_nil⟩
  | p :: ps, f, e6, hz => by
    rw [List.length_cons] at hz
    have dd : ∀ (env : AE) (a : AH), iDict [((iC (.str ⟨#[76]⟩)), (iC (.str ⟨#[108, 101, 102, 116]⟩))), ((iC (.str ⟨#[82]⟩)), (iC (.str ⟨#[114, 105, 103, 104, 116]⟩))), ((iC (.str ⟨#[84]⟩)), (iC (.str ⟨#[116, 111, 112]⟩))), ((iC (.str ⟨#[66]⟩)), (iC (.str ⟨#[98, 111, 116, 116, 111, 109]⟩)))] env a = .ok dWords a := fun env a =>
      okd (eDict (eP eC eC (eP eC eC (eP eC eC (eP eC eC eP0 rfl) rfl) rfl) rfl) (by decide)) rfl
    obtain ⟨f6, ih⟩ := put_loop (ah := ah) (G0 := G0) (G4 := G4) (G5 := G5) (G7 := G7) (G8 := G8) (G9 := G9) hk h5 ps (EM.upd1 p (some k) f) (some (dP2 p)) (by have := upd_len (f := f) (p := p) (e := some k); omega)
    exact ⟨f6, forL_cons rfl (ePutN (eBin (dd _ _) (eBin (eV rfl) (eV rfl) (fs_ix hk h5)) (words_ix k)) (eV rfl) (eV rfl) (fd_put (by omega))) ih⟩
theorem putF_len {k : Lt} : ∀ (ps : List (EM.NN × EM.NN)) (f : EM.Fd), (EM.putF k ps f).length ≤ f.length + ps.length
  | [], f => Nat.le_refl _
  | p :: ps, f => by
    have h1 := putF_len (k := k) ps (EM.upd1 p (some k) f)
    have h2 := upd_len (f := f) (p := p) (e := some k)
    rw [EM.putF, List.length_cons]
    omega
theorem upd_same {f : EM.Fd} {p : EM.NN × EM.NN} {e : Option Lt} (h : p ∈ f.map (·.1)) : (EM.upd1 p e f).map (·.1) = f.map (·.1) := by
  unfold EM.upd1
  have hany : f.any (fun x => x.1 == p) = true := by
    obtain ⟨x, hx, rfl⟩ := List.mem_map.mp h
    exact List.any_eq_true.mpr ⟨x, hx, beq_self_eq_true _⟩
  rw [if_pos hany, List.map_map]
  refine List.map_congr_left fun x _ => ?_
  simp only [Function.comp]
  split <;> rfl
theorem turnF_keys {k : Lt} {T : List EM.NN} : ∀ (ps : List (EM.NN × EM.NN)) (f : EM.Fd), (∀ p ∈ ps, p ∈ f.map (·.1)) → (EM.turnF k T ps f).map (·.1) = f.map (·.1)
  | [], f, _ => rfl
  | p :: ps, f, h => by
    have hp := h p List.mem_cons_self
    rw [EM.turnF]
    by_cases c : p.1 ∈ T
    · rw [if_pos c, turnF_keys ps _ fun q hq => upd_keys (h q (List.mem_cons_of_mem _ hq)), upd_same hp]
    · rw [if_neg c, turnF_keys ps _ fun q hq => h q (List.mem_cons_of_mem _ hq)]
theorem upd_mem {f : EM.Fd} {p q : EM.NN × EM.NN} {e : Option Lt} (h : q ∈ (EM.upd1 p e f).map (·.1)) : q ∈ f.map (·.1) ∨ q = p := by
  by_cases hp : p ∈ f.map (·.1)
  · rw [upd_same hp] at h; exact .inl h
  · unfold EM.upd1 at h
    split at h
    · rename_i hany
      obtain ⟨x, hx, hxp⟩ := List.any_eq_true.mp hany
      exact absurd (List.mem_map.mpr ⟨x, hx, (beq_iff_eq.mp hxp)⟩) hp
    · rw [List.map_append] at h
      rcases List.mem_append.mp h with h | h
      · exact .inl h
      · exact .inr (List.mem_singleton.mp h)
theorem putF_mem {k : Lt} {q : EM.NN × EM.NN} : ∀ (ps : List (EM.NN × EM.NN)) (f : EM.Fd), q ∈ (EM.putF k ps f).map (·.1) → q ∈ f.map (·.1) ∨ q ∈ ps
  | [], f, h => .inl h
  | p :: ps, f, h => by
    rw [EM.putF] at h
    rcases putF_mem ps _ h with h | h
    · rcases upd_mem h with h | h
      · exact .inl h
      · exact .inr (h ▸ List.mem_cons_self)
    · exact .inr (List.mem_cons_of_mem _ h)
def Small (p : EM.NN) : Prop := p.1 < 1000 ∧ p.2 < 1000
structure GridOk (l : List Lt) (i m w : Nat) : Prop where
  n0 : 0 < (stAt l i).length
  n32 : (stAt l i).length ≤ 32
  rect : Rect w (stAt l i)
  w0 : 0 < w
  w32 : w ≤ 32
  hs : ∀ row ∈ stAt l i, ∀ s ∈ row, s.length = m
  hm : m ≤ 32
  sm : ∀ row ∈ stAt l i, ∀ s ∈ row, ∀ x ∈ s, Small (posL x)
theorem grid_ok {l : List Lt} {i : Nat} (h5 : l.length ≤ 5) (hi : i ≤ l.length) : GridOk l i (2 ^ i) (2 ^ acrossM (l.drop i)) := by
  have G := good_at (l := l) (i := i) hi
  have F := fit_at h5 hi
  have ad := across_down (l.drop i)
  rw [List.length_drop] at ad
  have b1 := pow5 (n := acrossM (l.drop i)) (by omega)
  have b2 := pow5 (n := i) (by omega)
  obtain ⟨s1, s2⟩ := size_le h5
  refine ⟨F.n0, F.n, G.rect, Nat.pow_pos (by decide), b1, G.even, b2, fun row hr s hs x hx => ?_⟩
  have := (run_b (cs := (sizeM l).1) (rs := (sizeM l).2) (l.take i) _ (flat_b _ _)) row hr s hs x hx
  exact ⟨by have := this.1; show x.c < _; omega, by have := this.2; show x.r < _; omega⟩
theorem parts_small {l : List Lt} {i m w : Nat} {k : Lt} (g : GridOk l i m w) (ka : k.across = true → 2 ≤ w) (kd : k.across = false → 2 ≤ (stAt l i).length) : (∀ p ∈ (EM.partsM (stAt l i) k).1, Small p) ∧ (∀ p ∈ (EM.partsM (stAt l i) k).2, Small p.1 ∧ Small p.2) ∧ (EM.partsM (stAt l i) k).2.length ≤ w * (stAt l i).length * m := by
  have at2 : ∀ r c j, r < (stAt l i).length → c < w → j < m → Small (posL ((((stAt l i).getD r []).getD c []).getD j ⟨0, 0, true, true⟩)) := fun r c j hr hc hj => by
    have rl := g.rect _ (getD_in (d := []) hr)
    have m1 := g.hs _ (getD_in (d := []) hr) _ (getD_in (d := []) (i := c) (by omega))
    exact g.sm _ (getD_in hr) _ (getD_in (by omega)) _ (getD_in (by omega))
  unfold EM.partsM
  cases hk : k.across with
  | true =>
    have w2 := ka hk
    have r0 := g.rect _ (getD_in (d := []) g.n0)
    rw [if_pos rfl, r0]
    refine ⟨fun p hp => ?_, fun p hp => ?_, ?_⟩
    · obtain ⟨row, hr, hp⟩ := List.mem_flatMap.mp hp
      obtain ⟨s, hs, hp⟩ := List.mem_flatMap.mp hp
      obtain ⟨x, hx, rfl⟩ := List.mem_map.mp hp
      have hs : s ∈ row := by
        split at hs
        · exact List.mem_of_mem_take hs
        · exact List.mem_of_mem_drop hs
      exact g.sm row hr s hs x hx
    · obtain ⟨row, hr, hp⟩ := List.mem_flatMap.mp hp
      obtain ⟨j, hj, rfl⟩ := List.mem_map.mp hp
      have hj := List.mem_range.mp hj
      have rl := g.rect row hr
      have q1 : row.getD (w / 2 - 1) [] ∈ row := getD_in (by omega)
      have q2 : row.getD (w / 2) [] ∈ row := getD_in (by omega)
      have m1 := g.hs row hr _ q1
      have m2 := g.hs row hr _ q2
      exact ⟨g.sm row hr _ q1 _ (getD_in (by omega)), g.sm row hr _ q2 _ (getD_in (by omega))⟩
    · have : ∀ gs : Grid, (∀ row ∈ gs, row ∈ stAt l i) → (gs.flatMap fun line => (List.range (line.getD (w / 2) []).length).map fun j => (posL ((line.getD (w / 2 - 1) []).getD j ⟨0, 0, true, true⟩), posL ((line.getD (w / 2) []).getD j ⟨0, 0, true, true⟩))).length ≤ w * gs.length * m := fun gs => by
        induction gs with
        | nil => intro _; simp
        | cons row gs ih =>
          intro h
          have hr := h row List.mem_cons_self
          have rl := g.rect row hr
          have m2 := g.hs row hr _ (getD_in (d := []) (i := w / 2) (by omega))
          have ih := ih fun r hr' => h r (List.mem_cons_of_mem _ hr')
          have e1 : w * (gs.length + 1) * m = w * gs.length * m + w * m := by rw [Nat.mul_add, Nat.add_mul, Nat.mul_one]
          have e2 : m ≤ w * m := Nat.le_mul_of_pos_left _ (by omega)
          rw [List.flatMap_cons, List.length_append, List.length_map, List.length_range, List.length_cons, m2, e1]
          omega
      exact this _ fun _ h => h
  | false =>
    have g2 := kd hk
    have r0 := g.rect _ (getD_in (d := []) g.n0)
    rw [if_neg Bool.false_ne_true, r0]
    refine ⟨fun p hp => ?_, fun p hp => ?_, ?_⟩
    · obtain ⟨row, hr, hp⟩ := List.mem_flatMap.mp hp
      obtain ⟨s, hs, hp⟩ := List.mem_flatMap.mp hp
      obtain ⟨x, hx, rfl⟩ := List.mem_map.mp hp
      have hr : row ∈ stAt l i := by
        split at hr
        · exact List.mem_of_mem_take hr
        · exact List.mem_of_mem_drop hr
      exact g.sm row hr s hs x hx
    · obtain ⟨c, hc, hp⟩ := List.mem_flatMap.mp hp
      have hc := List.mem_range.mp hc
      obtain ⟨j, hj, rfl⟩ := List.mem_map.mp hp
      have hj := List.mem_range.mp hj
      have rl := g.rect _ (getD_in (d := []) (i := (stAt l i).length / 2) (by omega))
      have m2 := g.hs _ (getD_in (d := []) (i := (stAt l i).length / 2) (by omega)) _ (getD_in (d := []) (i := c) (by omega))
      exact ⟨at2 _ c j (by omega) hc (by omega), at2 _ c j (by omega) hc (by omega)⟩
    · have : ∀ cs : List Nat, (∀ c ∈ cs, c < w) → (cs.flatMap fun c => (List.range (((stAt l i).getD ((stAt l i).length / 2) []).getD c []).length).map fun j => (posL ((((stAt l i).getD ((stAt l i).length / 2 - 1) []).getD c []).getD j ⟨0, 0, true, true⟩), posL ((((stAt l i).getD ((stAt l i).length / 2) []).getD c []).getD j ⟨0, 0, true, true⟩))).length ≤ cs.length * m := fun cs => by
        induction cs with
        | nil => intro _; simp
        | cons c cs ih =>
          intro h
          have hc := h c List.mem_cons_self
          have rl := g.rect _ (getD_in (d := []) (i := (stAt l i).length / 2) (by omega))
          have m2 := g.hs _ (getD_in (d := []) (i := (stAt l i).length / 2) (by omega)) _ (getD_in (d := []) (i := c) (by omega))
          have ih := ih fun r hr' => h r (List.mem_cons_of_mem _ hr')
          rw [List.flatMap_cons, List.length_append, List.length_map, List.length_range, List.length_cons, m2, Nat.succ_mul]
          omega
      have t := this (List.range w) fun c hc => List.mem_range.mp hc
      rw [List.length_range] at t
      refine Nat.le_trans t ?_
      have e : w * m ≤ w * m * (stAt l i).length := Nat.le_mul_of_pos_right _ g.n0
      rw [Nat.mul_right_comm]
      exact e
def pQ (q : EM.NN) : PyData := .tuple [.int (q.1 : Int), .int (q.2 : Int)]
theorem first_pQ {q : EM.NN} : ∀ {L : List EM.NN}, q ∈ L → firstAt (pQ q) (L.map pQ) = some (L.idxOf q)
  | [], h => absurd h List.not_mem_nil
  | r :: L, h => by
    have ev : PyData.eqv (pQ r) (pQ q) = decide (r = q) := C2.eqv r q
    rw [List.map_cons, List.idxOf_cons]
    unfold firstAt
    rw [ev]
    by_cases c : r = q
    · rw [decide_eq_true c, if_pos rfl, c, beq_self_eq_true, cond_true]
    · have hq : q ∈ L := (List.mem_cons.mp h).resolve_left fun z => c z.symm
      have b : (r == q) = false := by rw [beq_eq_false_iff_ne]; exact c
      rw [decide_eq_false c, if_neg Bool.false_ne_true, first_pQ hq, b, cond_false]
      rfl
theorem c2_val {q : EM.NN} (h : Small q) : C2.val q := ⟨by have := h.1; show q.1 < _; omega, by have := h.2; show q.2 < _; omega⟩
theorem index_NN {L : List EM.NN} {q : EM.NN} {ah : AH} (h : q ∈ L) (hb : ∀ q ∈ L, Small q) : oIndex (.lst (L.map dNN)) (dNN q) ah = .ok (dI (L.idxOf q)) ah := by
  have t1 : toPy (.lst (L.map dNN)) = some (.list (L.map pQ)) := py_dL (e := dNN) (p := pQ) (fun _ => rfl) L
  have t2 : toPy (dNN q) = some (pQ q) := rfl
  have s1 : SeqAt.shaped (.list (L.map pQ)) = true := by
    have := shw_lst (k := C2.k) (n := C2.n) (xs := L.map pQ) fun x hx => by
      obtain ⟨q, hq, rfl⟩ := List.mem_map.mp hx
      exact C2.shw q (c2_val (hb q hq))
    exact this.shaped (by decide)
  have s2 : SeqAt.shaped (pQ q) = true := (C2.shw q (c2_val (hb q h))).shaped (by decide)
  unfold oIndex
  simp only [t1, t2, s1, s2, and_self, if_true, first_pQ h]
  rfl
theorem sort_two' {i j : Nat} {ah : AH} : oSortP [.lst [dI i, dI j]] ah = .ok (.lst [dI (min i j), dI (max i j)]) ah := by
  by_cases h : i = j
  · subst h
    have e := sortP_eq (ah := ah) (x := .lst [dI i, dI i]) (xs := [dI i, dI i]) (qs := [.int (i : Int), .int (i : Int)]) rfl (by simp only [dI, datL, dat]) (fun d hd d' hd' => by simp at hd hd'; subst hd; subst hd'; simp only [PySem.W.alike]) (.inr fun d hd => by simp at hd; subst hd; exact ⟨(fun z => by cases z), fun xs z => by cases z⟩) (fun q hq => by simp at hq; subst hq; simp [PyData.depth])
    have p := List.mergeSort_perm [PyData.int (i : Int), PyData.int (i : Int)] (PySem.W.dataLe false id)
    have q := List.perm_replicate.mp (show List.Perm _ (List.replicate 2 (PyData.int (i : Int))) from p)
    rw [q] at e
    rw [e, Nat.min_self, Nat.max_self]
    rfl
  · exact sort_two h
theorem found_step {l : List Lt} {i : Nat} {k : Lt} (hk : l[i]? = some k) : EM.foundM l (i + 1) = EM.fstep (stAt l i) k (EM.foundM l i) := by rw [EM.foundM, hk]
/-- the dict after i letters -/
def FdOk (l : List Lt) (i : Nat) : Prop := (EM.foundM l i).length ≤ i * 16 ∧ ∀ p ∈ (EM.foundM l i).map (·.1), Small p.1 ∧ Small p.2
theorem wide {l : List Lt} {i : Nat} {k : Lt} (hk : l[i]? = some k) : (k.across = true → 2 ≤ 2 ^ acrossM (l.drop i)) ∧ (k.across = false → 2 ≤ (stAt l i).length) := by
  have hi := (List.getElem?_eq_some_iff.mp hk).1
  have e : l.drop i = k :: l.drop (i + 1) := by rw [List.drop_eq_getElem_cons hi, (List.getElem?_eq_some_iff.mp hk).2]
  have G := good_at (l := l) (i := i) (by omega)
  refine ⟨fun h => ?_, fun h => ?_⟩
  · rw [e, across_cons h, Nat.pow_succ]
    have := Nat.pow_pos (n := acrossM (l.drop (i + 1))) (show 0 < 2 by decide)
    omega
  · rw [G.len, e, down_cons h, Nat.pow_succ]
    have := Nat.pow_pos (n := downM (l.drop (i + 1))) (show 0 < 2 by decide)
    omega
theorem area {l : List Lt} {i : Nat} (h4 : l.length ≤ 4) (hi : i ≤ l.length) : 2 ^ acrossM (l.drop i) * (stAt l i).length * 2 ^ i ≤ 16 := by
  have G := good_at (l := l) (i := i) hi
  have ad := across_down (l.drop i)
  rw [List.length_drop] at ad
  rw [G.len, ← Nat.pow_add, ← Nat.pow_add, show acrossM (l.drop i) + downM (l.drop i) + i = l.length by omega]
  exact Nat.pow_le_pow_right (show 0 < 2 by decide) h4
theorem turnF_len {k : Lt} {T : List EM.NN} {ps : List (EM.NN × EM.NN)} {f : EM.Fd} (h : ∀ p ∈ ps, p ∈ f.map (·.1)) : (EM.turnF k T ps f).length = f.length := by
  have := congrArg List.length (turnF_keys (k := k) (T := T) ps f h)
  rwa [List.length_map, List.length_map] at this
theorem FdOk.step {l : List Lt} {i : Nat} {k : Lt} (h4 : l.length ≤ 4) (hk : l[i]? = some k) (h : FdOk l i) : FdOk l (i + 1) := by
  have hi := (List.getElem?_eq_some_iff.mp hk).1
  obtain ⟨h1, h2⟩ := h
  obtain ⟨w1, w2⟩ := wide hk
  obtain ⟨_, s2, s3⟩ := parts_small (k := k) (grid_ok (l := l) (i := i) (by omega) (by omega)) w1 w2
  have ar := area h4 (i := i) (by omega)
  have tl := turnF_len (k := k) (T := (EM.partsM (stAt l i) k).1) (ps := (EM.foundM l i).map (·.1)) (f := EM.foundM l i) fun _ h => h
  have tk := turnF_keys (k := k) (T := (EM.partsM (stAt l i) k).1) ((EM.foundM l i).map (·.1)) (EM.foundM l i) fun _ h => h
  unfold FdOk
  rw [found_step hk]
  unfold EM.fstep
  refine ⟨?_, fun p hp => ?_⟩
  · have := putF_len (k := k) (EM.partsM (stAt l i) k).2 (EM.turnF k (EM.partsM (stAt l i) k).1 ((EM.foundM l i).map (·.1)) (EM.foundM l i))
    omega
  · rcases putF_mem _ _ hp with h | h
    · rw [tk] at h; exact h2 p h
    · exact s2 p h
theorem letters_loop {ah : AH} {l : List Lt} (h1 : 1 ≤ l.length) (h4 : l.length ≤ 4) : ∃ e3 e6 e8 e9, forL (ptB (.nm 3)) L3__law_joints ((List.range l.length).map dI) [some (.str (fs l)), some (dL dLg (statesM l)), some (.ref ah.length), none, none, none, none, none, none, none, none] (FdH ah []) =
    .ok (.nx, [some (.str (fs l)), some (dL dLg (statesM l)), some (.ref ah.length), e3, none, none, e6, none, e8, e9, none]) (FdH ah (EM.foundM l l.length)) ∧ FdOk l l.length := by
  obtain ⟨env', a', lp, ⟨e3, e6, e8, e9, rfl⟩, rfl, ok⟩ := forL_inv (g := ptB (.nm 3)) (body := L3__law_joints)
    (I := fun i env a => (∃ e3 e6 e8 e9, env = [some (.str (fs l)), some (dL dLg (statesM l)), some (.ref ah.length), e3, none, none, e6, none, e8, e9, none]) ∧ a = FdH ah (EM.foundM l i) ∧ FdOk l i)
    (ds := (List.range l.length).map dI) (k := 0) (env := [some (.str (fs l)), some (dL dLg (statesM l)), some (.ref ah.length), none, none, none, none, none, none, none, none]) (ah := FdH ah []) ⟨⟨_, _, _, _, rfl⟩, rfl, Nat.zero_le _, fun p hp => nomatch hp⟩ (by
      rintro i d env a hd ⟨⟨e3, e6, e8, e9, rfl⟩, rfl, ok⟩
      rw [Nat.zero_add] at *
      have hi : i < l.length := by
        have := (List.getElem?_eq_some_iff.mp hd).1
        rwa [List.length_map, List.length_range] at this
      have ed : d = dI i := by
        rw [List.getElem?_map, List.getElem?_range hi] at hd
        exact (Option.some.inj hd).symm
      subst ed
      obtain ⟨k, hk⟩ : ∃ k, l[i]? = some k := ⟨_, List.getElem?_eq_getElem hi⟩
      obtain ⟨w1, w2⟩ := wide hk
      have g := grid_ok (l := l) (i := i) (by omega) (by omega)
      obtain ⟨s1, s2, s3⟩ := parts_small (k := k) g w1 w2
      have ar := area h4 (i := i) (by omega)
      obtain ⟨o1, o2⟩ := ok
      have c1 : (sAsg (ptB (.tp [(.nm 8), (.nm 9)])) (iDef F__law_parts [(iBin oIx (iVar 1) (iVar 3)), (iBin oIx (iVar 0) (iVar 3))])) [some (.str (fs l)), some (dL dLg (statesM l)), some (.ref ah.length), some (dI i), none, none, e6, none, e8, e9, none] (FdH ah (EM.foundM l i)) =
          .ok (.nx, [some (.str (fs l)), some (dL dLg (statesM l)), some (.ref ah.length), some (dI i), none, none, e6, none, some (dL dNN (EM.partsM (stAt l i) k).1), some (dL dP2 (EM.partsM (stAt l i) k).2), none]) (FdH ah (EM.foundM l i)) :=
        eAsg (eDef (eA (eBin (eV rfl) (eV rfl) (ixL (x := stAt l i) (by unfold statesM; rw [List.getElem?_map, List.getElem?_range (by omega)]; rfl))) (eA (eBin (eV rfl) (eV rfl) (fs_ix hk (by omega))) eA0)) (lawparts_eq g.n0 g.n32 g.rect g.w0 g.w32 g.hs g.hm w1 w2)) rfl
      obtain ⟨f6, c2⟩ := turn_loop (ah := ah) (G0 := some (dL dLg (statesM l))) (G4 := none) (G5 := none) (G7 := none) (G9 := some (dL dP2 (EM.partsM (stAt l i) k).2)) hk (by omega) s1 ((EM.foundM l i).map (·.1)) (EM.foundM l i) e6 (fun p hp => ⟨hp, (o2 p hp).1⟩) (by rw [List.length_map]; omega)
      have tl := turnF_len (k := k) (T := (EM.partsM (stAt l i) k).1) (ps := (EM.foundM l i).map (·.1)) (f := EM.foundM l i) fun _ h => h
      obtain ⟨g6, c3⟩ := put_loop (ah := ah) (G0 := some (dL dLg (statesM l))) (G4 := none) (G5 := none) (G7 := none) (G8 := some (dL dNN (EM.partsM (stAt l i) k).1)) (G9 := some (dL dP2 (EM.partsM (stAt l i) k).2)) hk (by omega) (EM.partsM (stAt l i) k).2 (EM.turnF k (EM.partsM (stAt l i) k).1 ((EM.foundM l i).map (·.1)) (EM.foundM l i)) f6 (by omega)
      have ks : (EM.foundM l i).map kD = ((EM.foundM l i).map (·.1)).map dP2 := by rw [List.map_map]; rfl
      refine ⟨_, .nx, _, _, rfl, .inl rfl, eSeq c1 (eSeq (eFor (eSqL (eCall (eA (eV rfl) eA0) (by rw [list_nx fd_at, ks]))) c2) (eFor (eSqL (eV rfl)) c3)), ⟨_, _, _, _, rfl⟩, ?_, FdOk.step h4 hk ⟨o1, o2⟩⟩
      rw [found_step hk]
      rfl)
  rw [Nat.zero_add, List.length_map, List.length_range] at lp ok
  exact ⟨e3, e6, e8, e9, lp, ok⟩
theorem rows_loop {ah : AH} {l : List Lt} {F : EM.Fd} {G1 G3 G8 G9 : Option D} {S : List EM.NN} (hS : ∀ q ∈ S, Small q) : ∀ (f : EM.Fd) (X : List EM.Row) (e6 e7 : Option D), (∀ x ∈ f, x.1 ∈ F.map (·.1) ∧ EM.get1 x.1 F = x.2 ∧ x.1.1 ∈ S ∧ x.1.2 ∈ S) → X.length + f.length ≤ 1000 → ∃ f6 f7,
    forL (ptB (.nm 6)) L4__law_joints (f.map kD) [some (.str (fs l)), G1, some (.ref ah.length), G3, some (dL dNN S), some (.ref (ah.length + 1)), e6, e7, G8, G9, none] (ah ++ [.dx (F.map kD) (F.map vD), .lst (X.map dJo)]) =
      .ok (.nx, [some (.str (fs l)), G1, some (.ref ah.length), G3, some (dL dNN S), some (.ref (ah.length + 1)), f6, f7, G8, G9, none]) (ah ++ [.dx (F.map kD) (F.map vD), .lst ((X ++ f.map fun x => EM.row (S.idxOf x.1.1) (S.idxOf x.1.2) x.2).map dJo)])
  | [], X, e6, e7, _, _ => ⟨e6, e7, by rw [List.map_nil (f := fun x : FdX => EM.row (S.idxOf x.1.1) (S.idxOf x.1.2) x.2), List.append_nil]; exact forL_nil⟩
  | x :: f, X, e6, e7, h, hz => by
    rw [List.length_cons] at hz
    obtain ⟨x1, x2, x3, x4⟩ := h x List.mem_cons_self
    have h0 : (ah ++ [AO.dx (F.map kD) (F.map vD), .lst (X.map dJo)])[ah.length]? = some (.dx (F.map kD) (F.map vD)) := by simp
    have h1 : (ah ++ [AO.dx (F.map kD) (F.map vD), .lst (X.map dJo)])[ah.length + 1]? = some (.lst (X.map dJo)) := by simp
    have st : ∀ o, (ah ++ [AO.dx (F.map kD) (F.map vD), .lst (X.map dJo)]).set (ah.length + 1) o = ah ++ [AO.dx (F.map kD) (F.map vD), o] := fun o => by simp
    obtain ⟨f6, f7, ih⟩ := rows_loop (ah := ah) (l := l) (F := F) (G1 := G1) (G3 := G3) (G8 := G8) (G9 := G9) hS f (X ++ [EM.row (S.idxOf x.1.1) (S.idxOf x.1.2) x.2]) (some (kD x)) (some (.lst [dI (min (S.idxOf x.1.1) (S.idxOf x.1.2)), dI (max (S.idxOf x.1.1) (S.idxOf x.1.2))])) (fun y hy => h y (List.mem_cons_of_mem _ hy)) (by rw [List.length_append, List.length_singleton]; omega)
    generalize hA : ah ++ [AO.dx (F.map kD) (F.map vD), .lst (X.map dJo)] = A at h0 h1 st
    have ix : ∀ (b : Bool) (env : AE), env[4]? = some (some (dL dNN S)) → env[6]? = some (some (kD x)) → (iIndex (iVar 4) (iBin oIx (iVar 6) (iC (.int (if b then 0 else 1))))) env A = .ok (dI (S.idxOf (if b then x.1.1 else x.1.2))) A := fun b env e4 e6 => by
      have e : (iBin oIx (iVar 6) (iC (.int (if b then 0 else 1)))) env A = .ok (dNN (if b then x.1.1 else x.1.2)) A := by
        cases b
        · exact eBin (eV e6) (eN 1) (ix_tup (n := 1) rfl rfl)
        · exact eBin (eV e6) (eN 0) (ix_tup (n := 0) rfl rfl)
      have m : (if b then x.1.1 else x.1.2) ∈ S := by cases b <;> assumption
      unfold iIndex
      rw [show (iVar 4) env A = .ok (dL dNN S) A from eV e4, Res.bind_ok, if_pos (show isLs (dL dNN S) = true from rfl), e, Res.bind_ok]
      exact index_NN m hS
    have c1 : (sAsg (ptB (.nm 7)) (iCall oSortP [(iCall oLst [(iIndex (iVar 4) (iBin oIx (iVar 6) (iC (.int 0)))), (iIndex (iVar 4) (iBin oIx (iVar 6) (iC (.int 1))))])])) [some (.str (fs l)), G1, some (.ref ah.length), G3, some (dL dNN S), some (.ref (ah.length + 1)), some (kD x), e7, G8, G9, none] A =
        .ok (.nx, [some (.str (fs l)), G1, some (.ref ah.length), G3, some (dL dNN S), some (.ref (ah.length + 1)), some (kD x), some (.lst [dI (min (S.idxOf x.1.1) (S.idxOf x.1.2)), dI (max (S.idxOf x.1.1) (S.idxOf x.1.2))]), G8, G9, none]) A :=
      eAsg (eCall (eA (eCall (eA (ix true _ rfl rfl) (eA (ix false _ rfl rfl) eA0)) lst2) eA0) sort_two') rfl
    have c2 := eDrop (eApp (fo := iVar 5) (f := iCall oTup [(iBin oIx (iVar 7) (iC (.int 0))), (iBin oIx (iVar 7) (iC (.int 1))), (iBin oNxGet (iVar 2) (iVar 6))]) (env := [some (.str (fs l)), G1, some (.ref ah.length), G3, some (dL dNN S), some (.ref (ah.length + 1)), some (kD x), some (.lst [dI (min (S.idxOf x.1.1) (S.idxOf x.1.2)), dI (max (S.idxOf x.1.1) (S.idxOf x.1.2))]), G8, G9, none]) (eV rfl) h1 (eCall (eA (eBin (eV rfl) (eN 0) (ix_lst (n := 0) rfl rfl)) (eA (eBin (eV rfl) (eN 1) (ix_lst (n := 1) rfl rfl)) (eA (eBin (eV rfl) (eV rfl) (get_nx h0 (key_P2 x.1) (by rw [lk_get x1, x2]))) eA0))) tup3) h1 (by rw [List.length_map, sizeLine_eq]; omega))
    rw [st] at c2
    refine ⟨f6, f7, forL_cons rfl (eSeq c1 c2) ?_⟩
    have e1 : X.map dJo ++ [D.tup [dI (min (S.idxOf x.1.1) (S.idxOf x.1.2)), dI (max (S.idxOf x.1.1) (S.idxOf x.1.2)), .str (eS x.2)]] = (X ++ [EM.row (S.idxOf x.1.1) (S.idxOf x.1.2) x.2]).map dJo := by rw [List.map_append]; rfl
    rw [e1, ih, List.map_cons (f := fun x : FdX => EM.row (S.idxOf x.1.1) (S.idxOf x.1.2) x.2), List.append_assoc]
    rfl
theorem upd_nodup {f : EM.Fd} {p : EM.NN × EM.NN} {e : Option Lt} (h : (f.map (·.1)).Nodup) : ((EM.upd1 p e f).map (·.1)).Nodup := by
  by_cases hp : p ∈ f.map (·.1)
  · rw [upd_same hp]; exact h
  · unfold EM.upd1
    have hany : ¬ f.any (fun x => x.1 == p) = true := fun z => by
      obtain ⟨x, hx, hxp⟩ := List.any_eq_true.mp z
      exact hp (List.mem_map.mpr ⟨x, hx, beq_iff_eq.mp hxp⟩)
    rw [if_neg hany, List.map_append, List.nodup_append]
    refine ⟨h, List.pairwise_singleton _ _, fun a ha b hb => ?_⟩
    rw [List.mem_singleton.mp hb]
    rintro rfl
    exact hp ha
theorem putF_nodup {k : Lt} : ∀ (ps : List (EM.NN × EM.NN)) (f : EM.Fd), (f.map (·.1)).Nodup → ((EM.putF k ps f).map (·.1)).Nodup
  | [], f, h => h
  | p :: ps, f, h => by rw [EM.putF]; exact putF_nodup ps _ (upd_nodup h)
theorem found_nodup (l : List Lt) : ∀ i, ((EM.foundM l i).map (·.1)).Nodup
  | 0 => List.Pairwise.nil
  | i + 1 => by
    have ih := found_nodup l i
    unfold EM.foundM
    cases l[i]? with
    | none => exact ih
    | some k =>
      show ((EM.fstep _ k _).map (·.1)).Nodup
      unfold EM.fstep
      exact putF_nodup _ _ (by rw [turnF_keys _ _ fun _ h => h]; exact ih)
theorem get1_mem : ∀ {F : EM.Fd} {x : FdX}, (F.map (·.1)).Nodup → x ∈ F → EM.get1 x.1 F = x.2
  | [], x, _, h => absurd h List.not_mem_nil
  | y :: F, x, nd, h => by
    rw [List.map_cons, List.nodup_cons] at nd
    unfold EM.get1
    rw [List.find?_cons]
    rcases List.mem_cons.mp h with rfl | h
    · rw [beq_self_eq_true]; rfl
    · have b : (y.1 == x.1) = false := by
        rw [beq_eq_false_iff_ne]
        intro z
        exact nd.1 (z ▸ List.mem_map.mpr ⟨x, h, rfl⟩)
      rw [b]
      exact get1_mem nd.2 h
theorem row_int (a b : Int) (xs ys : List PyData) : PySem.W.rowLt (.int a :: xs) (.int b :: ys) = if a = b then PySem.W.rowLt xs ys else decide (a < b) := by
  unfold PySem.W.rowLt
  rw [PySem.W.dataLt_cons (by simp only [PySem.W.alike]), PySem.W.dataLt_int]
  simp only [PyData.eqv, beq_iff_eq]
def encR (r : EM.Row) : PyData := .tuple [.int (r.1 : Int), .int (r.2.1 : Int), .str (eS r.2.2)]
theorem row_lt {x y : EM.Row} (h : EM.lt3 x y = true) : PySem.W.dataLt (encR x) (encR y) = true ∧ PySem.W.dataLt (encR y) (encR x) = false := by
  unfold EM.lt3 at h
  simp only [Bool.or_eq_true, Bool.and_eq_true, decide_eq_true_eq] at h
  unfold encR
  rw [PySem.W.dataLt_tuple, PySem.W.dataLt_tuple]
  show PySem.W.rowLt _ _ = true ∧ PySem.W.rowLt _ _ = false
  simp only [row_int]
  rcases h with h | ⟨h1, h2⟩
  · rw [if_neg (by omega), if_neg (by omega), decide_eq_true (by omega), decide_eq_false (by omega)]
    exact ⟨rfl, rfl⟩
  · have z1 : (x.1 : Int) = (y.1 : Int) := by omega
    have z3 : ¬ (x.2.1 : Int) = (y.2.1 : Int) := by omega
    have z4 : ¬ (y.2.1 : Int) = (x.2.1 : Int) := by omega
    have z5 : (x.2.1 : Int) < (y.2.1 : Int) := by omega
    have z6 : ¬ (y.2.1 : Int) < (x.2.1 : Int) := by omega
    rw [if_pos z1, if_neg z3, if_pos z1.symm, if_neg z4, decide_eq_true z5, decide_eq_false z6]
    exact ⟨rfl, rfl⟩
theorem idx_inj {α : Type} [BEq α] [LawfulBEq α] {xs : List α} {p q : α} (hp : p ∈ xs) (h : xs.idxOf p = xs.idxOf q) : p = q := by
  have l1 := List.idxOf_lt_length_iff.mpr hp
  have l2 : xs.idxOf q < xs.length := by rw [← h]; exact l1
  have e1 := List.getElem_idxOf l1
  have e2 := List.getElem_idxOf l2
  rw [← e1, ← e2]
  simp only [h]
theorem ins_perm (x : EM.Row) : ∀ ys : List EM.Row, (EM.insR x ys).Perm (x :: ys)
  | [] => List.Perm.refl _
  | y :: ys => by
    unfold EM.insR
    split
    · exact List.Perm.refl _
    · exact ((ins_perm x ys).cons y).trans (List.Perm.swap x y ys)
theorem isort_perm : ∀ xs : List EM.Row, (EM.isort xs).Perm xs
  | [] => List.Perm.refl _
  | x :: xs => (ins_perm x _).trans ((isort_perm xs).cons x)
theorem asc_pw : ∀ {xs : List EM.Row}, EM.asc xs = true → xs.Pairwise fun a b => EM.lt3 a b = true
  | [], _ => List.Pairwise.nil
  | x :: xs, h => by
    unfold EM.asc at h
    rw [Bool.and_eq_true, List.all_eq_true] at h
    exact List.pairwise_cons.mpr ⟨h.1, asc_pw h.2⟩
theorem sort_rows {X : List EM.Row} {x : D} {ah : AH} (h : seqD ah x = some (false, X.map dJo)) (ha : EM.asc (EM.isort X) = true) : oSortP [x] ah = .ok (.lst ((EM.isort X).map dJo)) ah :=
  sortP_to (e := dJo) (enc := encR) h (fun r => by unfold dJo encR dI; simp only [dat, datL]) (fun x y => by unfold encR; simp only [PySem.W.alike, PySem.W.alikeAll, Bool.and_self]) (PySem.W.Sortable.tuples fun s => ⟨_, _, rfl⟩) (fun r => by unfold encR; simp [PyData.depth, PyData.depthAll]) (isort_perm X) ((asc_pw ha).imp fun h => row_lt h)
theorem pan_small {l : List Lt} (h5 : l.length ≤ 5) : ∀ p ∈ EM.pan l, Small p := fun p hp => by
  obtain ⟨x, hx, rfl⟩ := List.mem_map.mp hp
  obtain ⟨b1, b2⟩ := fold_b l x hx
  obtain ⟨s1, s2⟩ := size_le h5
  exact ⟨by show x.c < _; omega, by show x.r < _; omega⟩
theorem ok__law_joints (M : Mods w K mg) : Ok1 P w K mg base "_law_joints" 4 ["folding"] F__law_joints := (raw__law_joints M (ok__law_states M) (raw__law_parts M) (raw__law_turned_edge M)).spec (fun _ _ => pure_dL (fun _ => rfl) _) fun l ah h => by
  obtain ⟨hl1, hl4⟩ : 1 ≤ l.length ∧ l.length ≤ 4 := h
  have Gd := EM.all_good hl1 hl4
  unfold EM.good at Gd
  simp only [Bool.and_eq_true, decide_eq_true_eq] at Gd
  obtain ⟨⟨⟨⟨hsort, hasc⟩, _⟩, hall⟩, _⟩ := Gd
  unfold EM.hasAll at hall
  rw [List.all_eq_true] at hall
  obtain ⟨e3, e6, e8, e9, lp, ok1, ok2⟩ := letters_loop (ah := ah) hl1 hl4
  have ps := pan_small (l := l) (by omega)
  have p16 : 2 ^ l.length ≤ 2 ^ 4 := Nat.pow_le_pow_right (by decide) hl4
  have nd := found_nodup l l.length
  generalize hF : EM.foundM l l.length = F at lp ok1 ok2 hall nd
  obtain ⟨f6, f7, lr⟩ := rows_loop (ah := ah) (l := l) (F := F) (G1 := some (dL dLg (statesM l))) (G3 := e3) (G8 := e8) (G9 := e9) (S := EM.pan l) ps F [] e6 none (fun x hx => ⟨List.mem_map.mpr ⟨x, hx, rfl⟩, get1_mem nd hx, by have := of_decide_eq_true (hall x hx); exact ⟨this.1, this.2.1⟩⟩) (by rw [List.length_nil]; omega)
  rw [List.nil_append] at lr
  have er : (F.map fun x => EM.row ((EM.pan l).idxOf x.1.1) ((EM.pan l).idxOf x.1.2) x.2) = EM.rowsL l := by unfold EM.rowsL; rw [hF]
  rw [er] at lr
  have hs : seqD (ah ++ [AO.dx (F.map kD) (F.map vD), .lst ((EM.rowsL l).map dJo)]) (.ref (ah.length + 1)) = some (false, (EM.rowsL l).map dJo) := by
    have h1 : (ah ++ [AO.dx (F.map kD) (F.map vD), .lst ((EM.rowsL l).map dJo)])[ah.length + 1]? = some (.lst ((EM.rowsL l).map dJo)) := by simp
    unfold seqD
    simp only [h1]
  -- the stack at the end
  have G := good_at (l := l) (Nat.le_refl _)
  rw [List.drop_length] at G
  have l1 : (stAt l l.length).length = 1 := G.len
  have l2 : ((stAt l l.length).getD 0 []).length = 1 := G.rect _ (getD_in (by omega))
  have last : ∀ (env : AE) (a : AH), env[1]? = some (some (dL dLg (statesM l))) → (iBin oIx (iBin oIx (iBin oIx (iVar 1) (iUn oNeg (iC (.int 1)))) (iC (.int 0))) (iC (.int 0))) env a = .ok (dLs (foldM l)) a := fun env a e1 => by
    have e0 : ((statesM l).map dLg)[((statesM l).map dLg).length - 1]? = some (dLg (stAt l l.length)) := by unfold statesM; simp
    exact eBin (eBin (eBin (eV e1) (eUn eC rfl) (oIx_lst (at_neg1 e0))) (eN 0) (ix_lst (get_lrow (by omega)) rfl)) (eN 0) (ix_lst (get_lst (by omega)) rfl)
  have c1 : (sAsg (ptB (.nm 1)) (iDef F__law_states [(iVar 0)])) [some (.str (fs l)), none, none, none, none, none, none, none, none, none, none] ah = .ok (.nx, [some (.str (fs l)), some (dL dLg (statesM l)), none, none, none, none, none, none, none, none, none]) ah := eAsg (eDef (eA (eV rfl) eA0) (F__law_states_eq (by omega))) rfl
  have c2 : (sAsg (ptB (.nm 2)) iNewN) [some (.str (fs l)), some (dL dLg (statesM l)), none, none, none, none, none, none, none, none, none] ah = .ok (.nx, [some (.str (fs l)), some (dL dLg (statesM l)), some (.ref ah.length), none, none, none, none, none, none, none, none]) (FdH ah []) := eAsg (show iNewN _ ah = .ok (.ref ah.length) (ah ++ [.dx [] []]) from rfl) rfl
  have c3 : (sFor (iRange1 [(iCall oLen [(iVar 0)])]) (ptB (.nm 3)) L3__law_joints) [some (.str (fs l)), some (dL dLg (statesM l)), some (.ref ah.length), none, none, none, none, none, none, none, none] (FdH ah []) = .ok (.nx, [some (.str (fs l)), some (dL dLg (statesM l)), some (.ref ah.length), e3, none, none, e6, none, e8, e9, none]) (FdH ah F) :=
    eFor (eRg1N (eCall (eA (eV rfl) eA0) (show oLen [.str (FM.fs l)] _ = .ok (dI l.length) _ by rw [lenS (by rw [fs_len]; omega), fs_len])) (by omega)) lp
  have c4 : (sAsg (ptB (.nm 4)) (iLc (iSeqS (iBin oIx (iBin oIx (iBin oIx (iVar 1) (iUn oNeg (iC (.int 1)))) (iC (.int 0))) (iC (.int 0)))) (ptB (.nm 10)) (fun _ ah => .ok true ah) E1__law_joints [10])) [some (.str (fs l)), some (dL dLg (statesM l)), some (.ref ah.length), e3, none, none, e6, none, e8, e9, none] (FdH ah F) = .ok (.nx, [some (.str (fs l)), some (dL dLg (statesM l)), some (.ref ah.length), e3, some (dL dNN (EM.pan l)), none, e6, none, e8, e9, none]) (FdH ah F) :=
    eAsg (okd (eLc (eSqL (last _ _ rfl)) (compL_map (o := fun x => dNN (posL x)) (fun x _ => ⟨_, rfl, rfl, leaf_cut (eV rfl)⟩) (by rw [List.length_nil, fold_len]; exact small (by omega)))) (by rw [List.nil_append]; unfold dL EM.pan; rw [List.map_map]; rfl)) rfl
  have c5 : (sAsg (ptB (.nm 5)) (iCall oLstM [])) [some (.str (fs l)), some (dL dLg (statesM l)), some (.ref ah.length), e3, some (dL dNN (EM.pan l)), none, e6, none, e8, e9, none] (FdH ah F) = .ok (.nx, [some (.str (fs l)), some (dL dLg (statesM l)), some (.ref ah.length), e3, some (dL dNN (EM.pan l)), some (.ref (ah.length + 1)), e6, none, e8, e9, none]) (ah ++ [.dx (F.map kD) (F.map vD), .lst ([].map dJo)]) :=
    eAsg (d := .ref (ah.length + 1)) (a1 := ah ++ [.dx (F.map kD) (F.map vD), .lst []]) (by
      have := eCall (fs := []) (env := ([some (D.str (FM.fs l)), some (dL dLg (statesM l)), some (D.ref ah.length), e3, some (dL dNN (EM.pan l)), none, e6, none, e8, e9, none] : AE)) (eA0 (ah := FdH ah F)) lstM0
      unfold FdH at this ⊢
      rw [List.length_append, List.append_assoc] at this
      exact this) rfl
  have c6 : (sFor (iSeqS (iCall oListN [(iVar 2)])) (ptB (.nm 6)) L4__law_joints) [some (.str (fs l)), some (dL dLg (statesM l)), some (.ref ah.length), e3, some (dL dNN (EM.pan l)), some (.ref (ah.length + 1)), e6, none, e8, e9, none] (ah ++ [.dx (F.map kD) (F.map vD), .lst ([].map dJo)]) = .ok (.nx, [some (.str (fs l)), some (dL dLg (statesM l)), some (.ref ah.length), e3, some (dL dNN (EM.pan l)), some (.ref (ah.length + 1)), f6, f7, e8, e9, none]) (ah ++ [.dx (F.map kD) (F.map vD), .lst ((EM.rowsL l).map dJo)]) :=
    eFor (eSqL (eCall (eA (eV rfl) eA0) (list_nx (ks := F.map kD) (ds := F.map vD) (by simp)))) lr
  have c7 : (sRet (iCall oSortP [(iVar 5)])) [some (.str (fs l)), some (dL dLg (statesM l)), some (.ref ah.length), e3, some (dL dNN (EM.pan l)), some (.ref (ah.length + 1)), f6, f7, e8, e9, none] (ah ++ [.dx (F.map kD) (F.map vD), .lst ((EM.rowsL l).map dJo)]) = .ok (.rt (dL dJo (EM.sortedM l)), [some (.str (fs l)), some (dL dLg (statesM l)), some (.ref ah.length), e3, some (dL dNN (EM.pan l)), some (.ref (ah.length + 1)), f6, f7, e8, e9, none]) (ah ++ [.dx (F.map kD) (F.map vD), .lst ((EM.rowsL l).map dJo)]) :=
    eRet (eCall (eA (eV rfl) eA0) (by rw [sort_rows hs (by rw [hsort]; exact hasc), hsort]; rfl))
  exact ⟨_, eBodyR (eSeq c1 (eSeq c2 (eSeq c3 (eSeq c4 (eSeq c5 (eSeq c6 c7))))))⟩
theorem sc__law_same : FnScope ["actual", "due"] ["actual", "due"] (defScope s__law_same) := ⟨rfl, rfl, rfl, by decide +kernel, rfl, by decide +kernel, by decide +kernel⟩
def B__law_same : FS :=
  (sRet (iBin oEq (iCall oRepr [(iVar 0)]) (iCall oRepr [(iVar 1)])))
theorem raw__law_same (M : Mods w K mg) : Ok1 P w K mg base "_law_same" 1 ["actual", "due"] (iBody 2 B__law_same) := by
  obtain ⟨f, fd, F, hm, hb⟩ := M.f__law_same
  refine ⟨f, fd, hm, F.kp, hb, fn_ok (k := 0) F sc__law_same fun cdv A outer s H E hr hn => ?_⟩
  have hu65 := room65 hr
  have hu1 := room1 hr
  exact (s_one (s_ret (j_cmp (j_pc (op_eqA hr.units) ok_eq (j_callB (call_repr hn hr.units) ok_repr (by exact rfl) M.nb_repr boot_repr (a_cons (j_var 0) a_nil)) (j_callB (call_repr hn hr.units) ok_repr (by exact rfl) M.nb_repr boot_repr (a_cons (j_var 1) a_nil))))))
def F__law_same : List D → AH → Res D := iBody 2 B__law_same
theorem same_eq {d : D} {q : PyData} {ah : AH} (h : toPy d = some q) (hr : rprOk q = true) : F__law_same [d, d] ah = .ok (.bl true) ah :=
  eBodyR (eRet (eBin (eRepr (eA (eV rfl) eA0) h hr) (eRepr (eA (eV rfl) eA0) h hr) (by rw [oEq_str]; simp)))
theorem sc__moved : FnScope ["letter", "place", "half"] ["letter", "place", "half"] (defScope s__moved) := ⟨rfl, rfl, rfl, by decide +kernel, rfl, by decide +kernel, by decide +kernel⟩
def B__moved : FS :=
  (sSeq (sIf (iTr (iBin oIn (iVar 0) (iC (.str ⟨#[76, 84]⟩)))) (sRet (iIf (iTr (iBin oLt (iVar 1) (iVar 2))) (iCall oTup [(iBin oSub (iBin oSub (iVar 2) (iC (.int 1))) (iVar 1)), (iC (.bl true))]) (iCall oTup [(iBin oSub (iVar 1) (iVar 2)), (iC (.bl false))]))) sNx)
  (sRet (iIf (iTr (iBin oGe (iVar 1) (iVar 2))) (iCall oTup [(iBin oSub (iBin oSub (iBin oMul (iC (.int 2)) (iVar 2)) (iC (.int 1))) (iVar 1)), (iC (.bl true))]) (iCall oTup [(iVar 1), (iC (.bl false))]))))
theorem raw__moved (M : Mods w K mg) : Ok1 P w K mg base "_moved" 1 ["letter", "place", "half"] (iBody 3 B__moved) := by
  obtain ⟨f, fd, F, hm, hb⟩ := M.f__moved
  refine ⟨f, fd, hm, F.kp, hb, fn_ok (k := 0) F sc__moved fun cdv A outer s H E hr hn => ?_⟩
  have hu65 := room65 hr
  have hu1 := room1 hr
  exact (s_cons (s_if (t_cmp (j_pc (op_inA hu65) ok_in (j_var 0) (j_str ⟨#[76, 84]⟩ (by kernel_rfl)))) (s_one (s_ret (j_if (t_cmp (j_pc op_ltA ok_cmp (j_var 1) (j_var 2))) (j_tup (a_cons (j_bin op_sub ok_sub (j_bin op_sub ok_sub (j_var 2) j_int) (j_var 1)) (a_cons j_bl a_nil))) (j_tup (a_cons (j_bin op_sub ok_sub (j_var 1) (j_var 2)) (a_cons j_bl a_nil)))))) s_nil)
  (s_one (s_ret (j_if (t_cmp (j_pc op_geA ok_cmp (j_var 1) (j_var 2))) (j_tup (a_cons (j_bin op_sub ok_sub (j_bin op_sub ok_sub (j_bin op_mulA ok_mul j_int (j_var 2)) j_int) (j_var 1)) (a_cons j_bl a_nil))) (j_tup (a_cons (j_var 1) (a_cons j_bl a_nil)))))))
def F__moved : List D → AH → Res D := iBody 3 B__moved
theorem moved_eq {k : Lt} {p h : Nat} {a : AH} (hh : h ≤ 64) (hp : p < 2 * h) : F__moved [.str (ls k), dI p, dI h] a = .ok (.tup [dI (EM.movedM k.near p h).1, .bl (EM.movedM k.near p h).2]) a := by
  unfold EM.movedM
  have two : ∀ env : AE, env[2]? = some (some (dI h)) → (iBin oMul (iC (.int 2)) (iVar 2)) env a = .ok (dI (2 * h)) a := fun env e => eBin (eN 2) (eV e) (mulN (by decide))
  cases n : k.near with
  | true =>
    rw [if_pos rfl]
    by_cases c : p < h
    · rw [if_pos c]
      exact eBodyR (eSeqR (eSIfT (eTr (eBin (eV rfl) eC (by rw [in_LT, n]))) (eRet (eIfT (eTr (eBin (eV rfl) (eV rfl) (by rw [ltN, decide_eq_true c]))) (eCall (eA (eBin (eBin (eV rfl) (eN 1) (subN (by omega))) (eV rfl) (subN (by omega))) (eA eC eA0)) tup2)))))
    · rw [if_neg c]
      exact eBodyR (eSeqR (eSIfT (eTr (eBin (eV rfl) eC (by rw [in_LT, n]))) (eRet (eIfF (eTr (eBin (eV rfl) (eV rfl) (by rw [ltN, decide_eq_false c]))) (eCall (eA (eBin (eV rfl) (eV rfl) (subN (by omega))) (eA eC eA0)) tup2)))))
  | false =>
    rw [if_neg Bool.false_ne_true]
    by_cases c : h ≤ p
    · rw [if_pos c]
      exact eBodyR (eSeq (eSIfF (eTr (eBin (eV rfl) eC (by rw [in_LT, n]))) eNx) (eRet (eIfT (eTr (eBin (eV rfl) (eV rfl) (by rw [geN, decide_eq_true c]))) (eCall (eA (eBin (eBin (two _ rfl) (eN 1) (subN (by omega))) (eV rfl) (subN (by omega))) (eA eC eA0)) tup2))))
    · rw [if_neg c]
      exact eBodyR (eSeq (eSIfF (eTr (eBin (eV rfl) eC (by rw [in_LT, n]))) eNx) (eRet (eIfF (eTr (eBin (eV rfl) (eV rfl) (by rw [geN, decide_eq_false c]))) (eCall (eA (eV rfl) (eA eC eA0)) tup2))))
theorem sc__path : FnScope ["folding", "panel", "told", "letter", "column", "row", "columns", "rows", "turned"] ["folding", "panel"] (defScope s__path) := ⟨rfl, rfl, rfl, by decide +kernel, rfl, by decide +kernel, by decide +kernel⟩
abbrev L1__path : FS := (sSeq (sIf (iTr (iBin oIn (iVar 3) (iC (.str ⟨#[76, 82]⟩)))) (sSeq (sAsg (ptB (.nm 6)) (iBin oDiv (iVar 6) (iC (.int 2))))
  (sAsg (ptB (.tp [(.nm 4), (.nm 8)])) (iDef F__moved [(iVar 3), (iVar 4), (iVar 6)]))) (sSeq (sAsg (ptB (.nm 7)) (iBin oDiv (iVar 7) (iC (.int 2))))
  (sAsg (ptB (.tp [(.nm 5), (.nm 8)])) (iDef F__moved [(iVar 3), (iVar 5), (iVar 7)]))))
  (sDrop (iApp (iVar 2) (iCall oTup [(iVar 4), (iVar 5), (iVar 8)]))))
def B__path : FS :=
  (sSeq (sAsg (ptB (.tp [(.nm 4), (.nm 5)])) (iVar 1))
  (sSeq (sAsg (ptB (.tp [(.nm 6), (.nm 7)])) (iDef F_sheet_size [(iVar 0)]))
  (sSeq (sAsg (ptB (.nm 2)) (iCall oLstM []))
  (sSeq (sFor (iSeqS (iVar 0)) (ptB (.nm 3)) L1__path)
  (sRet (iFz (iVar 2)))))))
theorem raw__path (M : Mods w K mg) (h_sheet_size : Ok1 P w K mg base "sheet_size" 1 ["folding"] F_sheet_size) (h__moved : Ok1 P w K mg base "_moved" 1 ["letter", "place", "half"] F__moved) : Ok1 P w K mg base "_path" 2 ["folding", "panel"] (iBody 9 B__path) := by
  obtain ⟨f, fd, F, hm, hb⟩ := M.f__path
  refine ⟨f, fd, hm, F.kp, hb, fn_ok (k := 1) F sc__path fun cdv A outer s H E hr hn => ?_⟩
  have hrsheet_size := hr.mono (j := 1) (by decide)
  have hr_moved := hr.mono (j := 1) (by decide)
  have hu65 := room65 hr
  have hu1 := room1 hr
  exact (s_cons (s_asg (j_var 1) (g_tp rfl (gs_cons (g_nm 4 sc__path.nd) (gs_cons (g_nm 5 sc__path.nd) gs_nil))))
  (s_cons (s_asg (h_sheet_size.jd hrsheet_size hn (by exact rfl) rfl (a_cons (j_var 0) a_nil)) (g_tp rfl (gs_cons (g_nm 6 sc__path.nd) (gs_cons (g_nm 7 sc__path.nd) gs_nil))))
  (s_cons (s_set 2 sc__path.nd (j_lstM a_nil))
  (s_cons (s_for PassesOwn.never rfl (i_seqS (j_var 0)) (g_nm 3 sc__path.nd) (s_cons (s_if (t_cmp (j_pc (op_inA hu65) ok_in (j_var 3) (j_str ⟨#[76, 82]⟩ (by kernel_rfl)))) (s_cons (s_set 6 sc__path.nd (j_bin op_fdiv ok_i (j_var 6) j_int))
  (s_one (s_asg (h__moved.jd hr_moved hn (by exact rfl) rfl (a_cons (j_var 3) (a_cons (j_var 4) (a_cons (j_var 6) a_nil)))) (g_tp rfl (gs_cons (g_nm 4 sc__path.nd) (gs_cons (g_nm 8 sc__path.nd) gs_nil)))))) (s_cons (s_set 7 sc__path.nd (j_bin op_fdiv ok_i (j_var 7) j_int))
  (s_one (s_asg (h__moved.jd hr_moved hn (by exact rfl) rfl (a_cons (j_var 3) (a_cons (j_var 5) (a_cons (j_var 7) a_nil)))) (g_tp rfl (gs_cons (g_nm 5 sc__path.nd) (gs_cons (g_nm 8 sc__path.nd) gs_nil)))))))
  (s_one (s_drop (j_app (j_var 2) (j_tup (a_cons (j_var 4) (a_cons (j_var 5) (a_cons (j_var 8) a_nil)))))))))
  (s_one (s_ret (j_fz (j_var 2))))))))
def dPS (s : EM.PS) : D := .tup [dI s.1, dI s.2.1, .bl s.2.2]
def PathOk (s : EM.St) (l : List Lt) : Prop := s.1 < s.2.2.1 ∧ s.2.1 < s.2.2.2 ∧ s.2.2.1 = 2 ^ acrossM l ∧ s.2.2.2 = 2 ^ downM l
theorem moved_lt {b : Bool} {p h : Nat} (hp : p < 2 * h) : (EM.movedM b p h).1 < h := by
  unfold EM.movedM
  split <;> split <;> simp only <;> omega
theorem PathOk.step {s : EM.St} {k : Lt} {l : List Lt} (h : PathOk s (k :: l)) : PathOk (EM.pstep k s).1 l := by
  obtain ⟨h1, h2, h3, h4⟩ := h
  unfold EM.pstep
  cases hk : k.across with
  | true =>
    have e1 : acrossM (k :: l) = acrossM l + 1 := by simp [acrossM, hk]
    have e2 : downM (k :: l) = downM l := by simp [downM, hk]
    rw [e1, Nat.pow_succ] at h3
    rw [e2] at h4
    rw [if_pos rfl]
    exact ⟨moved_lt (by omega), h2, by simp only; omega, h4⟩
  | false =>
    have e1 : acrossM (k :: l) = acrossM l := by simp [acrossM, hk]
    have e2 : downM (k :: l) = downM l + 1 := by simp [downM, hk]
    rw [e1] at h3
    rw [e2, Nat.pow_succ] at h4
    rw [if_neg Bool.false_ne_true]
    exact ⟨h1, moved_lt (by omega), h3, by simp only; omega⟩
theorem PathOk.half {s : EM.St} {k : Lt} {l : List Lt} (h : PathOk s (k :: l)) (h5 : (k :: l).length ≤ 5) : s.2.2.1 ≤ 32 ∧ s.2.2.2 ≤ 32 ∧ (k.across = true → s.1 < 2 * (s.2.2.1 / 2)) ∧ (k.across = false → s.2.1 < 2 * (s.2.2.2 / 2)) := by
  obtain ⟨h1, h2, h3, h4⟩ := h
  have ad := across_down (k :: l)
  have p1 := pow5 (n := acrossM (k :: l)) (by omega)
  have p2 := pow5 (n := downM (k :: l)) (by omega)
  refine ⟨by omega, by omega, fun hk => ?_, fun hk => ?_⟩
  · have e1 : acrossM (k :: l) = acrossM l + 1 := by simp [acrossM, hk]
    rw [e1, Nat.pow_succ] at h3
    omega
  · have e2 : downM (k :: l) = downM l + 1 := by simp [downM, hk]
    rw [e2, Nat.pow_succ] at h4
    omega
theorem path_len : ∀ (l : List Lt) (s : EM.St), (EM.pathM l s).length = l.length
  | [], _ => rfl
  | k :: l, s => by unfold EM.pathM; rw [List.length_cons, List.length_cons, path_len]
theorem path_turn {ah : AH} {F P e3 e8 : Option D} {k : Lt} {l : List Lt} {s : EM.St} {X : List D} (h5 : (k :: l).length ≤ 5) (h : PathOk s (k :: l)) (hX : X.length ≤ 100) : ∃ f8,
    L1__path [F, P, some (.ref ah.length), some (.str (ls k)), some (dI s.1), some (dI s.2.1), some (dI s.2.2.1), some (dI s.2.2.2), e8] (ah ++ [.lst X]) = .ok (.nx, [F, P, some (.ref ah.length), some (.str (ls k)), some (dI (EM.pstep k s).1.1), some (dI (EM.pstep k s).1.2.1), some (dI (EM.pstep k s).1.2.2.1), some (dI (EM.pstep k s).1.2.2.2), f8]) (ah ++ [.lst (X ++ [dPS (EM.pstep k s).2])]) := by
  obtain ⟨q1, q2, q3, q4⟩ := h.half h5
  have lim : X.length < sizeLine := by rw [sizeLine_eq]; omega
  have ap : ∀ (c r : Nat) (t : Bool) (env : AE), env[2]? = some (some (.ref ah.length)) → env[4]? = some (some (dI c)) → env[5]? = some (some (dI r)) → env[8]? = some (some (.bl t)) →
      (sDrop (iApp (iVar 2) (iCall oTup [(iVar 4), (iVar 5), (iVar 8)]))) env (ah ++ [.lst X]) = .ok (.nx, env) (ah ++ [.lst (X ++ [.tup [dI c, dI r, .bl t]])]) := fun c r t env h2 h4 h5 h8 => by
    have := eDrop (eApp (eV h2) (last_at (o := .lst X)) (eCall (eA (eV h4) (eA (eV h5) (eA (eV h8) eA0))) tup3) last_at lim)
    rw [set_last] at this
    exact this
  unfold EM.pstep
  cases hk : k.across with
  | true =>
    rw [if_pos rfl]
    have hp := q3 hk
    refine ⟨_, eSeq (eSIfT (eTr (eBin (eV rfl) eC (by rw [in_LR, hk]))) (eSeq (eAsg (eBin (eV rfl) (eN 2) (divN (by decide) (by decide))) rfl) (eAsg (eDef (eA (eV rfl) (eA (eV rfl) (eA (eV rfl) eA0))) (moved_eq (by omega) hp)) rfl))) (ap _ _ _ _ rfl rfl rfl rfl)⟩
  | false =>
    rw [if_neg Bool.false_ne_true]
    have hp := q4 hk
    refine ⟨_, eSeq (eSIfF (eTr (eBin (eV rfl) eC (by rw [in_LR, hk]))) (eSeq (eAsg (eBin (eV rfl) (eN 2) (divN (by decide) (by decide))) rfl) (eAsg (eDef (eA (eV rfl) (eA (eV rfl) (eA (eV rfl) eA0))) (moved_eq (by omega) hp)) rfl))) (ap _ _ _ _ rfl rfl rfl rfl)⟩
theorem path_loop {ah : AH} {F P : Option D} : ∀ (l : List Lt) (s : EM.St) (X : List D) (e3 e8 : Option D), l.length ≤ 5 → PathOk s l → X.length + l.length ≤ 20 → ∃ env' : AE, env'[2]? = some (some (.ref ah.length)) ∧
    forL (ptB (.nm 3)) L1__path (l.map fun c => D.str (ls c)) [F, P, some (.ref ah.length), e3, some (dI s.1), some (dI s.2.1), some (dI s.2.2.1), some (dI s.2.2.2), e8] (ah ++ [.lst X]) = .ok (.nx, env') (ah ++ [.lst (X ++ (EM.pathM l s).map dPS)])
  | [], s, X, e3, e8, _, _, _ => ⟨_, rfl, by simp only [EM.pathM, List.map_nil, List.append_nil]; exact forL_nil⟩
  | k :: l, s, X, e3, e8, h5, h, hX => by
    rw [List.length_cons] at hX
    obtain ⟨f8, t⟩ := path_turn (ah := ah) (F := F) (P := P) (e3 := e3) (e8 := e8) (X := X) h5 h (by omega)
    obtain ⟨env', k1, k2⟩ := path_loop (ah := ah) (F := F) (P := P) l (EM.pstep k s).1 (X ++ [dPS (EM.pstep k s).2]) (some (.str (ls k))) f8 (by rw [List.length_cons] at h5; omega) h.step (by simp; omega)
    refine ⟨env', k1, forL_cons rfl t ?_⟩
    rw [k2, List.append_assoc]
    rfl
def F__path : List D → AH → Res D := specF (fun x : List Lt × EM.NN => x.1.length ≤ 5 ∧ x.2.1 < (sizeM x.1).1 ∧ x.2.2 < (sizeM x.1).2) (fun x => [.str (fs x.1), dNN x.2]) fun x => dL dPS (EM.pathM x.1 (x.2.1, x.2.2, sizeM x.1))
theorem F__path_eq {l : List Lt} {p : EM.NN} {ah : AH} (h : l.length ≤ 5) (h1 : p.1 < (sizeM l).1) (h2 : p.2 < (sizeM l).2) : F__path [.str (fs l), dNN p] ah = .ok (dL dPS (EM.pathM l (p.1, p.2, sizeM l))) ah := specF_eq (x := (l, p)) (fun x y e => by
  simp only [List.cons.injEq, D.str.injEq, dNN, D.tup.injEq, and_true] at e
  obtain ⟨e1, e2, e3⟩ := e
  rw [fs_inj e1, inj_dI _ _ e2, inj_dI _ _ e3]) ⟨h, h1, h2⟩
theorem pure_PS (s : EM.PS) : pureD (dPS s) = true := rfl
theorem ok__path (M : Mods w K mg) : Ok1 P w K mg base "_path" 2 ["folding", "panel"] F__path := (raw__path M (ok_sheet_size M) (raw__moved M)).spec (fun _ _ => pure_dL pure_PS _) fun x ah h => by
  obtain ⟨l, p⟩ := x
  obtain ⟨h, h1, h2⟩ := h
  simp only at h h1 h2
  have ad := across_down l
  obtain ⟨env', k1, k2⟩ := path_loop (ah := ah) (F := some (.str (fs l))) (P := some (dNN p)) l (p.1, p.2, sizeM l) [] none none h ⟨h1, h2, rfl, by show 2 ^ (l.length - acrossM l) = _; rw [← ad, Nat.add_sub_cancel_left]⟩ (by simp; omega)
  rw [List.nil_append] at k2
  refine ⟨[.fz (.lst ((EM.pathM l (p.1, p.2, sizeM l)).map dPS))], ?_⟩
  exact eBodyR (eSeq (eAsg (eV rfl) rfl) (eSeq (eAsg (eDef (eA (eV rfl) eA0) (F_sheet_size_eq (l := l) (by omega))) rfl) (eSeq (eAsg (eCall eA0 lstM0) rfl) (eSeq (eFor (eSqS (eV rfl)) (by rw [str_ls]; exact k2)) (eRet (eFz (eV k1) fz_last))))))
theorem sc__edge : FnScope ["folding", "panel", "other", "edge", "letter", "first", "second", "turned"] ["folding", "panel", "other"] (defScope s__edge) := ⟨rfl, rfl, rfl, by decide +kernel, rfl, by decide +kernel, by decide +kernel⟩
abbrev L1__edge : FS := (sSeq (sAsg (ptB (.nm 7)) (iBin oIx (iVar 5) (iC (.int 2))))
  (sIf (iTr (iBin oEq (iVar 3) (iC (.str ⟨#[]⟩)))) (sAsg (ptB (.nm 3)) (iIf (iTr (iBin oEq (iSl oSl (iVar 5) iNoP (iPart (iC (.int 2)))) (iSl oSl (iVar 6) iNoP (iPart (iC (.int 2)))))) (iBin oIx (iK c_EDGES) (iVar 4)) (iC (.str ⟨#[]⟩)))) (sIf (bAnd (iTru (iVar 7)) (iTr (iBin oIn (iVar 4) (iC (.str ⟨#[76, 82]⟩))))) (sAsg (ptB (.nm 3)) (iGetC kv_BY_SIDES (iVar 3) (iVar 3))) (sIf (iTru (iVar 7)) (sAsg (ptB (.nm 3)) (iGetC kv_BY_ENDS (iVar 3) (iVar 3))) sNx))))
def B__edge : FS :=
  (sSeq (sAsg (ptB (.nm 3)) (iC (.str ⟨#[]⟩)))
  (sSeq (sFor (iZip3I [(iVar 0), (iDef F__path [(iVar 0), (iVar 1)]), (iDef F__path [(iVar 0), (iVar 2)])]) (ptB (.tp [(.nm 4), (.nm 5), (.nm 6)])) L1__edge)
  (sRet (iVar 3))))
theorem raw__edge (M : Mods w K mg) (h__path : Ok1 P w K mg base "_path" 2 ["folding", "panel"] F__path) : Ok1 P w K mg base "_edge" 3 ["folding", "panel", "other"] (iBody 8 B__edge) := by
  obtain ⟨f, fd, F, hm, hb⟩ := M.f__edge
  refine ⟨f, fd, hm, F.kp, hb, fn_ok (k := 2) F sc__edge fun cdv A outer s H E hr hn => ?_⟩
  have hr_path := hr.mono (j := 2) (by decide)
  have hu65 := room65 hr
  have hu1 := room1 hr
  exact (s_cons (s_set 3 sc__edge.nd (j_str ⟨#[]⟩ (by kernel_rfl)))
  (s_cons (s_for PassesOwn.never rfl (i_zip3 rfl M.nb_zip (a_cons (j_var 0) (a_cons (h__path.jd hr_path hn (by exact rfl) rfl (a_cons (j_var 0) (a_cons (j_var 1) a_nil))) (a_cons (h__path.jd hr_path hn (by exact rfl) rfl (a_cons (j_var 0) (a_cons (j_var 2) a_nil))) a_nil)))) (g_tp rfl (gs_cons (g_nm 4 sc__edge.nd) (gs_cons (g_nm 5 sc__edge.nd) (gs_cons (g_nm 6 sc__edge.nd) gs_nil)))) (s_cons (s_set 7 sc__edge.nd (j_ix hu1 (j_var 5) j_int))
  (s_one (s_if (t_cmp (j_pc (op_eqA hr.units) ok_eq (j_var 3) (j_str ⟨#[]⟩ (by kernel_rfl)))) (s_one (s_set 3 sc__edge.nd (j_if (t_cmp (j_pc (op_eqA hr.units) ok_eq (j_sl (j_var 5) j_noP (j_part j_int)) (j_sl (j_var 6) j_noP (j_part j_int)))) (j_ix hu1 (M.jc_EDGES (by exact rfl)) (j_var 4)) (j_str ⟨#[]⟩ (by kernel_rfl))))) (s_one (s_if (w_and (t_tru (j_var 7)) (w_and1 (t_cmp (j_pc (op_inA hu65) ok_in (j_var 4) (j_str ⟨#[76, 82]⟩ (by kernel_rfl)))))).pt (s_one (s_set 3 sc__edge.nd (j_getC M.d_BY_SIDES (by exact rfl) M.m_BY_SIDES (j_var 3) (j_var 3)))) (s_one (s_if (t_tru (j_var 7)) (s_one (s_set 3 sc__edge.nd (j_getC M.d_BY_ENDS (by exact rfl) M.m_BY_ENDS (j_var 3) (j_var 3)))) s_nil))))))))
  (s_one (s_ret (j_var 3)))))
def F__edge : List D → AH → Res D := specF (fun x : List Lt × EM.NN × EM.NN => x.1.length ≤ 5 ∧ (x.2.1.1 < (sizeM x.1).1 ∧ x.2.1.2 < (sizeM x.1).2) ∧ (x.2.2.1 < (sizeM x.1).1 ∧ x.2.2.2 < (sizeM x.1).2)) (fun x => [.str (fs x.1), dNN x.2.1, dNN x.2.2]) fun x => .str (eS (EM.edgeM x.1 x.2.1 x.2.2))
theorem dNN_inj {p q : EM.NN} (h : dNN p = dNN q) : p = q := by
  simp only [dNN, D.tup.injEq, List.cons.injEq, and_true] at h
  exact Prod.ext (inj_dI _ _ h.1) (inj_dI _ _ h.2)
theorem F__edge_eq {l : List Lt} {p q : EM.NN} {ah : AH} (h : l.length ≤ 5) (hp : p.1 < (sizeM l).1 ∧ p.2 < (sizeM l).2) (hq : q.1 < (sizeM l).1 ∧ q.2 < (sizeM l).2) : F__edge [.str (fs l), dNN p, dNN q] ah = .ok (.str (eS (EM.edgeM l p q))) ah := specF_eq (x := (l, p, q)) (fun x y e => by
  simp only [List.cons.injEq, D.str.injEq, and_true] at e
  obtain ⟨e1, e2, e3⟩ := e
  rw [fs_inj e1, dNN_inj e2, dNN_inj e3]) ⟨h, hp, hq⟩
theorem eS_none {e : Option Lt} : decide (eS e = ⟨#[]⟩) = decide (e = none) := by cases e with
  | none => rfl
  | some c => cases c <;> decide +kernel
theorem edges_ix (k : Lt) {a : AH} : oIx c_EDGES (.str (ls k)) a = .ok (.str (eS (some k))) a := by cases k <;> rfl
theorem sides_get (e : Option Lt) : getC (fun l : Lit => l.d) kv_BY_SIDES (eS e) (.str (eS e)) = .str (eS (match e with | some .L => some .R | some .R => some .L | x => x)) := by
  cases e with
  | none => rfl
  | some c => cases c <;> rfl
theorem ends_get (e : Option Lt) : getC (fun l : Lit => l.d) kv_BY_ENDS (eS e) (.str (eS e)) = .str (eS (match e with | some .T => some .B | some .B => some .T | x => x)) := by
  cases e with
  | none => rfl
  | some c => cases c <;> rfl
theorem cut2 {s : EM.PS} {env : AE} {a : AH} {i : Nat} (h : env[i]? = some (some (dPS s))) : (iSl oSl (iVar i) iNoP (iPart (iC (.int 2)))) env a = .ok (dNN (s.1, s.2.1)) a :=
  eSl (eV h) eNoP (ePart (i := 2) eC) (sliceToT (xs := [dI s.1, dI s.2.1, .bl s.2.2]) (n := 2))
theorem edge_turn {F P O e7 : Option D} {k : Lt} {s t : EM.PS} {e : Option Lt} {a : AH} (hs : s.1 < 1000 ∧ s.2.1 < 1000) (ht : t.1 < 1000 ∧ t.2.1 < 1000) :
    L1__edge [F, P, O, some (.str (eS e)), some (.str (ls k)), some (dPS s), some (dPS t), e7] a = .ok (.nx, [F, P, O, some (.str (eS (EM.estep k s t e))), some (.str (ls k)), some (dPS s), some (dPS t), some (.bl s.2.2)]) a := by
  have c1 : (sAsg (ptB (.nm 7)) (iBin oIx (iVar 5) (iC (.int 2)))) [F, P, O, some (.str (eS e)), some (.str (ls k)), some (dPS s), some (dPS t), e7] a = .ok (.nx, [F, P, O, some (.str (eS e)), some (.str (ls k)), some (dPS s), some (dPS t), some (.bl s.2.2)]) a :=
    eAsg (eBin (eV rfl) eC (ix_tup (n := 2) rfl rfl)) rfl
  refine eSeq c1 ?_
  unfold EM.estep
  by_cases he : e = none
  · rw [if_pos he]
    have same : oEq (dNN (s.1, s.2.1)) (dNN (t.1, t.2.1)) a = .ok (.bl (decide ((s.1, s.2.1) = (t.1, t.2.1)))) a := C2.eq (x := (s.1, s.2.1)) (y := (t.1, t.2.1)) ⟨by show s.1 < _; omega, by show s.2.1 < _; omega⟩ ⟨by show t.1 < _; omega, by show t.2.1 < _; omega⟩
    refine eSIfT (eTr (eBin (eV rfl) eC (by rw [eqS, eS_none, decide_eq_true he]))) ?_
    by_cases c : s.1 = t.1 ∧ s.2.1 = t.2.1
    · rw [if_pos c]
      exact eAsg (eIfT (eTr (eBin (cut2 rfl) (cut2 rfl) (by rw [same, decide_eq_true (show (s.1, s.2.1) = (t.1, t.2.1) by rw [c.1, c.2])]))) (eBin eK (eV rfl) (edges_ix k))) rfl
    · rw [if_neg c]
      exact eAsg (eIfF (eTr (eBin (cut2 rfl) (cut2 rfl) (by rw [same, decide_eq_false fun z : (s.1, s.2.1) = (t.1, t.2.1) => c (by injection z with z1 z2; exact ⟨z1, z2⟩)]))) eC) rfl
  · rw [if_neg he]
    refine eSIfF (eTr (eBin (eV rfl) eC (by rw [eqS, eS_none, decide_eq_false he]))) ?_
    cases ht : s.2.2 with
    | false =>
      rw [if_neg Bool.false_ne_true]
      exact eSIfF (eAndF (eTru (b := false) (eV rfl) rfl)) (eSIfF (eTru (b := false) (eV rfl) rfl) eNx)
    | true =>
      rw [if_pos rfl]
      unfold EM.turnE
      cases hk : k.across with
      | true =>
        rw [if_pos rfl]
        exact eSIfT (eAndT (eTru (b := true) (eV rfl) rfl) (eTr (eBin (eV rfl) eC (by rw [in_LR, hk])))) (eAsg (okd (eGetC (eV rfl) (eV rfl)) (sides_get e)) rfl)
      | false =>
        rw [if_neg Bool.false_ne_true]
        exact eSIfF (eAndT (eTru (b := true) (eV rfl) rfl) (eTr (eBin (eV rfl) eC (by rw [in_LR, hk])))) (eSIfT (eTru (b := true) (eV rfl) rfl) (eAsg (okd (eGetC (eV rfl) (eV rfl)) (ends_get e)) rfl))
theorem edge_loop {F P O : Option D} {a : AH} : ∀ (l : List Lt) (as bs : List EM.PS) (e : Option Lt) (e4 e5 e6 e7 : Option D), as.length = l.length → bs.length = l.length → (∀ s ∈ as, s.1 < 1000 ∧ s.2.1 < 1000) → (∀ s ∈ bs, s.1 < 1000 ∧ s.2.1 < 1000) → ∃ env' : AE, env'[3]? = some (some (.str (eS (EM.edgeL l as bs e)))) ∧
    forL (ptB (.tp [(.nm 4), (.nm 5), (.nm 6)])) L1__edge (zip3D (signs (fs l)) (as.map dPS) (bs.map dPS)) [F, P, O, some (.str (eS e)), e4, e5, e6, e7] a = .ok (.nx, env') a
  | [], [], [], e, e4, e5, e6, e7, _, _, _, _ => ⟨_, rfl, forL_nil⟩
  | k :: l, s :: as, t :: bs, e, e4, e5, e6, e7, h1, h2, h3, h4 => by
    obtain ⟨env', k1, k2⟩ := edge_loop (F := F) (P := P) (O := O) (a := a) l as bs (EM.estep k s t e) (some (.str (ls k))) (some (dPS s)) (some (dPS t)) (some (.bl s.2.2)) (by simpa using h1) (by simpa using h2) (fun x hx => h3 x (List.mem_cons_of_mem _ hx)) fun x hx => h4 x (List.mem_cons_of_mem _ hx)
    exact ⟨env', k1, forL_cons (d := .tup [.str (ls k), dPS s, dPS t]) rfl (edge_turn (h3 s List.mem_cons_self) (h4 t List.mem_cons_self)) k2⟩
  | [], _ :: _, _, _, _, _, _, _, h1, _, _, _ => by simp at h1
  | [], [], _ :: _, _, _, _, _, _, _, h2, _, _ => by simp at h2
  | _ :: _, [], _, _, _, _, _, _, h1, _, _, _ => by simp at h1
  | _ :: _, _ :: _, [], _, _, _, _, _, _, h2, _, _ => by simp at h2
theorem path_small : ∀ (l : List Lt) (s : EM.St), l.length ≤ 5 → PathOk s l → ∀ x ∈ EM.pathM l s, x.1 < 1000 ∧ x.2.1 < 1000
  | [], _, _, _, _, hx => nomatch hx
  | k :: l, s, h5, h, x, hx => by
    have h' := h.step
    have hl : l.length ≤ 5 := by rw [List.length_cons] at h5; omega
    obtain ⟨q1, q2, _, _⟩ := h.half h5
    have hs := h'.1
    have hs2 := h'.2.1
    have ad := across_down l
    have p1 := pow5 (n := acrossM l) (by omega)
    have p2 := pow5 (n := downM l) (by omega)
    rw [h'.2.2.1] at hs
    rw [h'.2.2.2] at hs2
    rcases List.mem_cons.mp hx with rfl | hx
    · have e : (EM.pstep k s).2.1 = (EM.pstep k s).1.1 ∧ (EM.pstep k s).2.2.1 = (EM.pstep k s).1.2.1 := by
        unfold EM.pstep
        split <;> exact ⟨rfl, rfl⟩
      rw [e.1, e.2]
      omega
    · exact path_small l _ hl h' x hx
theorem path_ok {l : List Lt} {p : EM.NN} (hp : p.1 < (sizeM l).1 ∧ p.2 < (sizeM l).2) : PathOk (p.1, p.2, sizeM l) l := by
  have ad := across_down l
  exact ⟨hp.1, hp.2, rfl, by show 2 ^ (l.length - acrossM l) = _; rw [← ad, Nat.add_sub_cancel_left]⟩
theorem ok__edge (M : Mods w K mg) : Ok1 P w K mg base "_edge" 3 ["folding", "panel", "other"] F__edge := (raw__edge M (ok__path M)).spec (fun _ _ => rfl) fun x ah h => by
  obtain ⟨l, p, q⟩ := x
  obtain ⟨h, hp, hq⟩ := h
  simp only at h hp hq
  obtain ⟨env', k1, k2⟩ := edge_loop (F := some (.str (fs l))) (P := some (dNN p)) (O := some (dNN q)) (a := ah) l (EM.pathM l (p.1, p.2, sizeM l)) (EM.pathM l (q.1, q.2, sizeM l)) none none none none none (path_len _ _) (path_len _ _) (path_small _ _ h (path_ok hp)) (path_small _ _ h (path_ok hq))
  refine ⟨[], ?_⟩
  rw [List.append_nil]
  exact eBodyR (eSeq (eAsg (d := .str (eS none)) eC rfl) (eSeq (eFor (eZip3 (eA (eV rfl) (eA (eDef (eA (eV rfl) (eA (eV rfl) eA0)) (F__path_eq h hp.1 hp.2)) (eA (eDef (eA (eV rfl) (eA (eV rfl) eA0)) (F__path_eq h hq.1 hq.2)) eA0)))) k2) (eRet (eV k1))))
theorem sc_joints : FnScope ["folding", "leaves", "found", "panel", "other", "column", "row", "number", "leaf", "lesser", "greater"] ["folding"] (defScope s_joints) := ⟨rfl, rfl, rfl, by decide +kernel, rfl, by decide +kernel, by decide +kernel⟩
abbrev K1_joints : FE := (iSl oSl (iVar 8) iNoP (iPart (iC (.int 2))))
abbrev E1_joints : FE := (iVar 7)
abbrev L1_joints : FS := (sIf (iTr (iBin (oNxIn false) (iVar 4) (iVar 1))) (sSeq (sAsg (ptB (.tp [(.nm 9), (.nm 10)])) (iCall oSortP [(iCall oLst [(iBin oNxGet (iVar 1) (iVar 3)), (iBin oNxGet (iVar 1) (iVar 4))])]))
  (sDrop (iApp (iVar 2) (iCall oTup [(iVar 9), (iVar 10), (iDef F__edge [(iVar 0), (iVar 3), (iVar 4)])])))) sNx)
abbrev L2_joints : FS := (sSeq (sAsg (ptB (.tp [(.nm 5), (.nm 6)])) (iVar 3))
  (sFor (iSeqS (iCall oTup [(iCall oTup [(iBin oAdd (iVar 5) (iC (.int 1))), (iVar 6)]), (iCall oTup [(iVar 5), (iBin oAdd (iVar 6) (iC (.int 1)))])])) (ptB (.nm 4)) L1_joints))
def B_joints : FS :=
  (sSeq (sAsg (ptB (.nm 1)) (iDcN (iEnumA [(iDef F_fold [(iVar 0)])]) (ptB (.tp [(.nm 7), (.nm 8)])) (fun _ ah => .ok true ah) K1_joints E1_joints [7, 8]))
  (sSeq (sAsg (ptB (.nm 2)) (iCall oLstM []))
  (sSeq (sFor (iSeqS (iCall oListN [(iVar 1)])) (ptB (.nm 3)) L2_joints)
  (sRet (iCall oTuple [(iCall oSortP [(iVar 2)])])))))
theorem raw_joints (M : Mods w K mg) (h_fold : Ok1 P w K mg base "fold" 6 ["folding"] F_fold) (h__edge : Ok1 P w K mg base "_edge" 3 ["folding", "panel", "other"] F__edge) : Ok1 P w K mg base "joints" 7 ["folding"] (iBody 11 B_joints) := by
  obtain ⟨f, fd, F, hm, hb⟩ := M.f_joints
  refine ⟨f, fd, hm, F.kp, hb, fn_ok (k := 6) F sc_joints fun cdv A outer s H E hr hn => ?_⟩
  have hrfold := hr.mono (j := 6) (by decide)
  have hr_edge := hr.mono (j := 3) (by decide)
  have hu65 := room65 hr
  have hu1 := room1 hr
  exact (s_cons (s_setDcN 1 (room9 hu65) rfl sc_joints.nd (i_enumA rfl M.nb_enumerate (a_cons (h_fold.jd hrfold hn (by exact rfl) rfl (a_cons (j_var 0) a_nil)) a_nil)) (own := [(("number" : Str), 7), (("leaf" : Str), 8)]) (blk_of (by kernel_rfl)) (by decide) (fun _ _ _ _ _ => (g_tp rfl (gs_cons (g_nm 7 sc_joints.nd) (gs_cons (g_nm 8 sc_joints.nd) gs_nil)))) (fun _ _ _ _ _ => c_nil) (fun _ _ _ _ _ => (j_sl (j_var 8) j_noP (j_part j_int))) (fun _ _ _ _ _ => (j_var 7)))
  (s_cons (s_set 2 sc_joints.nd (j_lstM a_nil))
  (s_cons (s_for PassesOwn.never rfl (i_seqS (j_callT (cr_lsDx rfl) ok_listN (by exact rfl) M.nb_list boot_list (a_cons (j_var 1) a_nil))) (g_nm 3 sc_joints.nd) (s_cons (s_asg (j_var 3) (g_tp rfl (gs_cons (g_nm 5 sc_joints.nd) (gs_cons (g_nm 6 sc_joints.nd) gs_nil))))
  (s_one (s_for PassesOwn.never rfl (i_seqS (j_tup (a_cons (j_tup (a_cons (j_bin op_addA ok_add (j_var 5) j_int) (a_cons (j_var 6) a_nil))) (a_cons (j_tup (a_cons (j_var 5) (a_cons (j_bin op_addA ok_add (j_var 6) j_int) a_nil))) a_nil)))) (g_nm 4 sc_joints.nd) (s_one (s_if (t_cmp (j_pc (op_dxIn (room9 hu65)) ok_nxIn (j_var 4) (j_var 1))) (s_cons (s_asg (j_callB (cr_sortP' hu65) ok_sortP (by exact rfl) M.nb_sorted boot_sorted (a_cons (j_lst (a_cons (j_nxGet (room9 hu65) (j_var 1) (j_var 3)) (a_cons (j_nxGet (room9 hu65) (j_var 1) (j_var 4)) a_nil))) a_nil)) (g_tp rfl (gs_cons (g_nm 9 sc_joints.nd) (gs_cons (g_nm 10 sc_joints.nd) gs_nil))))
  (s_one (s_drop (j_app (j_var 2) (j_tup (a_cons (j_var 9) (a_cons (j_var 10) (a_cons (h__edge.jd hr_edge hn (by exact rfl) rfl (a_cons (j_var 0) (a_cons (j_var 3) (a_cons (j_var 4) a_nil)))) a_nil)))))))) s_nil))))))
  (s_one (s_ret (j_callT call_tuple_of ok_tuple (by exact rfl) M.nb_tuple boot_tuple (a_cons (j_callB (cr_sortP' hu65) ok_sortP (by exact rfl) M.nb_sorted boot_sorted (a_cons (j_var 2) a_nil)) a_nil)))))))
def F_joints : List D → AH → Res D := specF (fun l : List Lt => 1 ≤ l.length ∧ l.length ≤ 4) (fun l => [.str (fs l)]) fun l => dT dJo (EM.sortedM l)
theorem F_joints_eq {l : List Lt} {ah : AH} (h : 1 ≤ l.length ∧ l.length ≤ 4) : F_joints [.str (fs l)] ah = .ok (dT dJo (EM.sortedM l)) ah := specF_eq (x := l) (fun x y e => by
  simp only [List.cons.injEq, D.str.injEq] at e
  rw [fs_inj e.1]) h
def iot : Nat → List EM.NN → List D
  | _, [] => []
  | k, _ :: S => dI k :: iot (k + 1) S
theorem iot_snoc (x : EM.NN) : ∀ (S : List EM.NN) (k : Nat), iot k (S ++ [x]) = iot k S ++ [dI (k + S.length)]
  | [], k => rfl
  | y :: S, k => by
    rw [List.cons_append, iot, iot, iot_snoc x S, List.length_cons, List.cons_append, show k + 1 + S.length = k + (S.length + 1) by omega]
theorem lk_iot {q : EM.NN} : ∀ (S : List EM.NN) (k : Nat), lkN (S.map dNN) (iot k S) (nkP q) = if q ∈ S then some (dI (k + S.idxOf q)) else none
  | [], k => rfl
  | p :: S, k => by
    rw [List.map_cons, iot, lkN, keyN_nk (key_NN p), lk_iot S]
    by_cases c : p = q
    · subst c
      rw [if_pos rfl, if_pos List.mem_cons_self, List.idxOf_cons_self]
      rfl
    · have c2 : ¬ q = p := fun z => c z.symm
      rw [if_neg (fun z => c (nkP_inj (Option.some.inj z)))]
      by_cases m : q ∈ S
      · have b : (p == q) = false := by rw [beq_eq_false_iff_ne]; exact c
        rw [if_pos m, if_pos (List.mem_cons_of_mem _ m), List.idxOf_cons, b, cond_false, show k + 1 + S.idxOf q = k + (S.idxOf q + 1) by omega]
      · rw [if_neg m, if_neg fun z => (List.mem_cons.mp z).elim c2 m]
theorem comp_pan {ah : AH} : ∀ (S : List FM.Leaf) (done : List EM.NN) (k : Nat) (env : AE), env.length = 11 → k = done.length → (done ++ S.map posL).Nodup → done.length + S.length ≤ 1000 →
    compN (ptB (.tp [(.nm 7), (.nm 8)])) (fun _ ah => .ok true ah) K1_joints E1_joints env (numD k (S.map dLf)) (done.map dNN, iot 0 done) ah = .ok ((done ++ S.map posL).map dNN, iot 0 (done ++ S.map posL)) ah
  | [], done, k, env, _, _, _, _ => by simp only [List.map_nil, List.append_nil]; rfl
  | x :: S, done, k, env, he, hk, nd, hl => by
    subst hk
    have ap : done ++ (x :: S).map posL = (done ++ [posL x]) ++ S.map posL := by rw [List.append_assoc]; rfl
    rw [ap] at nd ⊢
    have hl2 : done.length < sizeLine := by rw [sizeLine_eq]; rw [List.length_cons] at hl; omega
    have nin : posL x ∉ done := fun m => by
      rw [List.append_assoc, List.nodup_append] at nd
      exact nd.2.2 _ m _ List.mem_cons_self rfl
    have none' : lkN (done.map dNN) (iot 0 done) (nkP (posL x)) = none := by rw [lk_iot, if_neg nin]
    have e : (done.map dNN ++ [dNN (posL x)], iot 0 done ++ [dI done.length]) = ((done ++ [posL x]).map dNN, iot 0 (done ++ [posL x])) := by rw [List.map_append, iot_snoc, Nat.zero_add]; rfl
    match env, he with
    | [a0, a1, a2, a3, a4, a5, a6, a7, a8, a9, a10], _ =>
      have st := compN_cons (g := ptB (.tp [(.nm 7), (.nm 8)])) (t := fun _ ah => .ok true ah) (fk := K1_joints) (fv := E1_joints) (env := [a0, a1, a2, a3, a4, a5, a6, a7, a8, a9, a10]) (env1 := [a0, a1, a2, a3, a4, a5, a6, some (.int (done.length : Int)), some (dLf x), a9, a10]) (d := .tup [.int (done.length : Int), dLf x]) (ds := numD (done.length + 1) (S.map dLf)) (acc := (done.map dNN, iot 0 done)) (ah := ah) (k := dNN (posL x)) (x := dI done.length) (q := nkP (posL x)) rfl rfl (eSl (eV rfl) eNoP (ePart (i := 2) eC) (sliceToT (xs := [dI x.c, dI x.r, .str (face x.f), .str (head x.u)]) (n := 2))) (eV rfl) (key_NN _) (by show (done.map dNN).length < sizeLine; rw [List.length_map]; exact hl2)
      rw [stN_new none', e] at st
      exact st.trans (comp_pan S (done ++ [posL x]) (done.length + 1) [a0, a1, a2, a3, a4, a5, a6, a7, a8, a9, a10] rfl (by rw [List.length_append]; rfl) nd (by rw [List.length_append, List.length_singleton]; rw [List.length_cons] at hl; omega))
theorem pan_nodup {l : List Lt} (h1 : 1 ≤ l.length) (h5 : l.length ≤ 5) : (EM.pan l).Nodup := by
  have s := stk h1 h5
  unfold EM.pan
  refine List.pairwise_iff_getElem.mpr fun i j hi hj hij e => ?_
  rw [List.length_map] at hi hj
  simp only [List.getElem_map] at e
  injection e with e1 e2
  have := s.inj (i := i) (j := j) (List.getElem?_eq_getElem hi) (List.getElem?_eq_getElem hj) e1 e2
  omega
theorem pan_in {l : List Lt} {p : EM.NN} (h : p ∈ EM.pan l) : p.1 < (sizeM l).1 ∧ p.2 < (sizeM l).2 := by
  obtain ⟨x, hx, rfl⟩ := List.mem_map.mp h
  exact fold_b l x hx
theorem pan_len (l : List Lt) : (EM.pan l).length = 2 ^ l.length := by unfold EM.pan; rw [List.length_map, fold_len]
def rowsAt (l : List Lt) (p q : EM.NN) : List EM.Row := if q ∈ EM.pan l then [EM.row ((EM.pan l).idxOf p) ((EM.pan l).idxOf q) (EM.edgeM l p q)] else []
theorem joint_turn {ah : AH} {l : List Lt} {p q : EM.NN} {X : List D} {e4 e5 e6 e7 e8 e9 e10 : Option D} (h5 : l.length ≤ 5) (hp : p ∈ EM.pan l) (hne : p ≠ q) (hX : X.length ≤ 1000) : ∃ f9 f10,
    L1_joints [some (.str (fs l)), some (.ref ah.length), some (.ref (ah.length + 1)), some (dNN p), some (dNN q), e5, e6, e7, e8, e9, e10] (ah ++ [.dx ((EM.pan l).map dNN) (iot 0 (EM.pan l)), .lst X]) =
      .ok (.nx, [some (.str (fs l)), some (.ref ah.length), some (.ref (ah.length + 1)), some (dNN p), some (dNN q), e5, e6, e7, e8, f9, f10]) (ah ++ [.dx ((EM.pan l).map dNN) (iot 0 (EM.pan l)), .lst (X ++ (rowsAt l p q).map dJo)]) := by
  have h0 : (ah ++ [AO.dx ((EM.pan l).map dNN) (iot 0 (EM.pan l)), .lst X])[ah.length]? = some (.dx ((EM.pan l).map dNN) (iot 0 (EM.pan l))) := by simp
  have h1 : (ah ++ [AO.dx ((EM.pan l).map dNN) (iot 0 (EM.pan l)), .lst X])[ah.length + 1]? = some (.lst X) := by simp
  have st : ∀ o, (ah ++ [AO.dx ((EM.pan l).map dNN) (iot 0 (EM.pan l)), .lst X]).set (ah.length + 1) o = ah ++ [AO.dx ((EM.pan l).map dNN) (iot 0 (EM.pan l)), o] := fun o => by simp
  have isin : (lkN ((EM.pan l).map dNN) (iot 0 (EM.pan l)) (nkP q)).isSome = decide (q ∈ EM.pan l) := by
    rw [lk_iot]
    by_cases c : q ∈ EM.pan l
    · rw [if_pos c, decide_eq_true c]; rfl
    · rw [if_neg c, decide_eq_false c]; rfl
  have lk : ∀ r ∈ EM.pan l, lkN ((EM.pan l).map dNN) (iot 0 (EM.pan l)) (nkP r) = some (dI ((EM.pan l).idxOf r)) := fun r hr => by rw [lk_iot, if_pos hr, Nat.zero_add]
  generalize hA : ah ++ [AO.dx ((EM.pan l).map dNN) (iot 0 (EM.pan l)), .lst X] = A at h0 h1 st
  unfold rowsAt
  by_cases c : q ∈ EM.pan l
  · rw [if_pos c]
    have ne : (EM.pan l).idxOf p ≠ (EM.pan l).idxOf q := fun z => hne (idx_inj hp z)
    have c1 : (sAsg (ptB (.tp [(.nm 9), (.nm 10)])) (iCall oSortP [(iCall oLst [(iBin oNxGet (iVar 1) (iVar 3)), (iBin oNxGet (iVar 1) (iVar 4))])])) [some (.str (fs l)), some (.ref ah.length), some (.ref (ah.length + 1)), some (dNN p), some (dNN q), e5, e6, e7, e8, e9, e10] A =
        .ok (.nx, [some (.str (fs l)), some (.ref ah.length), some (.ref (ah.length + 1)), some (dNN p), some (dNN q), e5, e6, e7, e8, some (dI (min ((EM.pan l).idxOf p) ((EM.pan l).idxOf q))), some (dI (max ((EM.pan l).idxOf p) ((EM.pan l).idxOf q)))]) A :=
      eAsg (eCall (eA (eCall (eA (eBin (eV rfl) (eV rfl) (get_nx h0 (key_NN p) (lk p hp))) (eA (eBin (eV rfl) (eV rfl) (get_nx h0 (key_NN q) (lk q c))) eA0)) lst2) eA0) (sort_two ne)) rfl
    refine ⟨some (dI (min ((EM.pan l).idxOf p) ((EM.pan l).idxOf q))), some (dI (max ((EM.pan l).idxOf p) ((EM.pan l).idxOf q))), eSIfT (eTr (eBin (eV rfl) (eV rfl) (by rw [in_nx h0 (key_NN q) isin, decide_eq_true c]))) (eSeq c1 ?_)⟩
    have := eDrop (eApp (fo := iVar 2) (f := iCall oTup [(iVar 9), (iVar 10), (iDef F__edge [(iVar 0), (iVar 3), (iVar 4)])]) (env := [some (.str (fs l)), some (.ref ah.length), some (.ref (ah.length + 1)), some (dNN p), some (dNN q), e5, e6, e7, e8, some (dI (min ((EM.pan l).idxOf p) ((EM.pan l).idxOf q))), some (dI (max ((EM.pan l).idxOf p) ((EM.pan l).idxOf q)))]) (eV rfl) h1 (eCall (eA (eV rfl) (eA (eV rfl) (eA (eDef (eA (eV rfl) (eA (eV rfl) (eA (eV rfl) eA0))) (F__edge_eq h5 (pan_in hp) (pan_in c))) eA0))) tup3) h1 (by rw [sizeLine_eq]; omega))
    rw [st] at this
    exact this
  · rw [if_neg c, List.map_nil, List.append_nil]
    exact ⟨e9, e10, eSIfF (eTr (eBin (eV rfl) (eV rfl) (by rw [in_nx h0 (key_NN q) isin, decide_eq_false c]))) (by rw [← hA]; exact eNx)⟩
theorem rowsAt_len (l : List Lt) (p q : EM.NN) : (rowsAt l p q).length ≤ 1 := by unfold rowsAt; split <;> simp
theorem ok_joints (M : Mods w K mg) : Ok1 P w K mg base "joints" 7 ["folding"] F_joints := (raw_joints M (ok_fold M) (ok__edge M)).spec (fun _ _ => pure_dT (fun _ => rfl) _) fun l ah h => by
  obtain ⟨hl1, hl4⟩ : 1 ≤ l.length ∧ l.length ≤ 4 := h
  have G := EM.all_good hl1 hl4
  unfold EM.good at G
  simp only [Bool.and_eq_true] at G
  obtain ⟨⟨⟨⟨_, hasc⟩, _⟩, _⟩, _⟩ := G
  have nd := pan_nodup hl1 (by omega)
  have pl := pan_len l
  have p16 : 2 ^ l.length ≤ 2 ^ 4 := Nat.pow_le_pow_right (by decide) hl4
  have comp : compN (ptB (.tp [(.nm 7), (.nm 8)])) (fun _ ah => .ok true ah) K1_joints E1_joints (wipeA [some (.str (fs l)), none, none, none, none, none, none, none, none, none, none] [7, 8]) (numD 0 ((foldM l).map dLf)) ([], []) ah = .ok ((EM.pan l).map dNN, iot 0 (EM.pan l)) ah := by
    have := comp_pan (ah := ah) (foldM l) [] 0 (wipeA [some (.str (fs l)), none, none, none, none, none, none, none, none, none, none] [7, 8]) rfl rfl (by rw [List.nil_append]; exact nd) (by rw [fold_len, List.length_nil]; omega)
    rw [List.nil_append] at this
    exact this
  have inner : ∀ (p : EM.NN), p ∈ EM.pan l → ∀ (X : List D) (e4 e9 e10 : Option D), X.length ≤ 900 → ∃ f4 f9 f10, forL (ptB (.nm 4)) L1_joints ((EM.nbs p).map dNN) [some (.str (fs l)), some (.ref ah.length), some (.ref (ah.length + 1)), some (dNN p), e4, some (dI p.1), some (dI p.2), none, none, e9, e10] (ah ++ [.dx ((EM.pan l).map dNN) (iot 0 (EM.pan l)), .lst X]) =
      .ok (.nx, [some (.str (fs l)), some (.ref ah.length), some (.ref (ah.length + 1)), some (dNN p), f4, some (dI p.1), some (dI p.2), none, none, f9, f10]) (ah ++ [.dx ((EM.pan l).map dNN) (iot 0 (EM.pan l)), .lst (X ++ ((EM.nbs p).flatMap (rowsAt l p)).map dJo)]) := fun p hp X e4 e9 e10 hX => by
    obtain ⟨f9, f10, t1⟩ := joint_turn (ah := ah) (q := (p.1 + 1, p.2)) (X := X) (e4 := none) (e5 := some (dI p.1)) (e6 := some (dI p.2)) (e7 := none) (e8 := none) (e9 := e9) (e10 := e10) (by omega : l.length ≤ 5) hp (fun z => by have := congrArg Prod.fst z; simp at this) (by omega)
    have rl := rowsAt_len l p (p.1 + 1, p.2)
    obtain ⟨g9, g10, t2⟩ := joint_turn (ah := ah) (q := (p.1, p.2 + 1)) (X := X ++ (rowsAt l p (p.1 + 1, p.2)).map dJo) (e4 := none) (e5 := some (dI p.1)) (e6 := some (dI p.2)) (e7 := none) (e8 := none) (e9 := f9) (e10 := f10) (by omega : l.length ≤ 5) hp (fun z => by have := congrArg Prod.snd z; simp at this) (by rw [List.length_append, List.length_map]; omega)
    refine ⟨some (dNN (p.1, p.2 + 1)), g9, g10, forL_cons rfl t1 (forL_cons rfl t2 ?_)⟩
    rw [show (EM.nbs p).flatMap (rowsAt l p) = rowsAt l p (p.1 + 1, p.2) ++ rowsAt l p (p.1, p.2 + 1) by simp [EM.nbs], List.map_append, List.append_assoc]
    exact forL_nil
  have nl : ∀ p, ((EM.nbs p).flatMap (rowsAt l p)).length ≤ 2 := fun p => by
    have r1 := rowsAt_len l p (p.1 + 1, p.2)
    have r2 := rowsAt_len l p (p.1, p.2 + 1)
    rw [show (EM.nbs p).flatMap (rowsAt l p) = rowsAt l p (p.1 + 1, p.2) ++ rowsAt l p (p.1, p.2 + 1) by simp [EM.nbs], List.length_append]
    omega
  have tot : ∀ ps : List EM.NN, (ps.flatMap fun p => ((EM.nbs p).flatMap (rowsAt l p)).map dJo).length ≤ 2 * ps.length := fun ps => by
    induction ps with
    | nil => simp
    | cons p ps ih =>
      have := nl p
      rw [List.flatMap_cons, List.length_append, List.length_map, List.length_cons]
      omega
  have tt := tot (EM.pan l)
  obtain ⟨env', a', lp, e3, e4, e5, e6, e9, e10, rfl, rfl⟩ := forL_app (g := ptB (.nm 3)) (body := L2_joints) (e := dNN) (Y := fun p => ((EM.nbs p).flatMap (rowsAt l p)).map dJo) (N := 900) (xs := EM.pan l) (X := [])
    (St := fun X env a => ∃ e3 e4 e5 e6 e9 e10, env = [some (.str (fs l)), some (.ref ah.length), some (.ref (ah.length + 1)), e3, e4, e5, e6, none, none, e9, e10] ∧ a = ah ++ [.dx ((EM.pan l).map dNN) (iot 0 (EM.pan l)), .lst X])
    (env := [some (.str (fs l)), some (.ref ah.length), some (.ref (ah.length + 1)), none, none, none, none, none, none, none, none]) (a := ah ++ [.dx ((EM.pan l).map dNN) (iot 0 (EM.pan l)), .lst []]) (by rw [List.length_nil, Nat.zero_add]; omega)
    (by
      rintro p hp X env a hX ⟨e3, e4, e5, e6, e9, e10, rfl, rfl⟩
      obtain ⟨f4, f9, f10, lp⟩ := inner p hp X e4 e9 e10 (by omega)
      exact ⟨_, _, _, rfl, eSeq (eAsg (eV rfl) rfl) (eFor (eSqT (eCall (eA (eCall (eA (eBin (eV rfl) (eN 1) addN) (eA (eV rfl) eA0)) tup2) (eA (eCall (eA (eV rfl) (eA (eBin (eV rfl) (eN 1) addN) eA0)) tup2) eA0)) tup2)) lp), _, _, _, _, _, _, rfl, rfl⟩)
    ⟨_, _, _, _, _, _, rfl, rfl⟩
  rw [List.nil_append] at lp
  have er : ((EM.pan l).flatMap fun p => ((EM.nbs p).flatMap (rowsAt l p)).map dJo) = (EM.rowsP l).map dJo := by
    unfold EM.rowsP
    rw [List.map_flatMap]
    rfl
  rw [er] at lp
  have h0 : (ah ++ [AO.dx ((EM.pan l).map dNN) (iot 0 (EM.pan l))])[ah.length]? = some (.dx ((EM.pan l).map dNN) (iot 0 (EM.pan l))) := by simp
  have hs : seqD (ah ++ [AO.dx ((EM.pan l).map dNN) (iot 0 (EM.pan l)), .lst ((EM.rowsP l).map dJo)]) (.ref (ah.length + 1)) = some (false, (EM.rowsP l).map dJo) := by
    have h1 : (ah ++ [AO.dx ((EM.pan l).map dNN) (iot 0 (EM.pan l)), .lst ((EM.rowsP l).map dJo)])[ah.length + 1]? = some (.lst ((EM.rowsP l).map dJo)) := by simp
    unfold seqD
    simp only [h1]
  have c1 : (sAsg (ptB (.nm 1)) (iDcN (iEnumA [(iDef F_fold [(iVar 0)])]) (ptB (.tp [(.nm 7), (.nm 8)])) (fun _ ah => .ok true ah) K1_joints E1_joints [7, 8])) [some (.str (fs l)), none, none, none, none, none, none, none, none, none, none] ah = .ok (.nx, [some (.str (fs l)), some (.ref ah.length), none, none, none, none, none, none, none, none, none]) (ah ++ [.dx ((EM.pan l).map dNN) (iot 0 (EM.pan l))]) :=
    eAsg (eDcN (eEnT (eA (eDef (eA (eV rfl) eA0) (F_fold_eq (by omega))) eA0)) comp) rfl
  have c2 : (sAsg (ptB (.nm 2)) (iCall oLstM [])) [some (.str (fs l)), some (.ref ah.length), none, none, none, none, none, none, none, none, none] (ah ++ [.dx ((EM.pan l).map dNN) (iot 0 (EM.pan l))]) = .ok (.nx, [some (.str (fs l)), some (.ref ah.length), some (.ref (ah.length + 1)), none, none, none, none, none, none, none, none]) (ah ++ [.dx ((EM.pan l).map dNN) (iot 0 (EM.pan l)), .lst []]) :=
    eAsg (d := .ref (ah.length + 1)) (a1 := ah ++ [.dx ((EM.pan l).map dNN) (iot 0 (EM.pan l)), .lst []]) (okd (ah := ah ++ [.dx ((EM.pan l).map dNN) (iot 0 (EM.pan l)), .lst []]) (u := D.ref (ah.length + 1)) (by
      have := eCall (fs := []) (env := ([some (D.str (FM.fs l)), some (D.ref ah.length), none, none, none, none, none, none, none, none, none] : AE)) (eA0 (ah := ah ++ [.dx ((EM.pan l).map dNN) (iot 0 (EM.pan l))])) lstM0
      rw [List.length_append, List.append_assoc] at this
      exact this) rfl) rfl
  have c3 : (sFor (iSeqS (iCall oListN [(iVar 1)])) (ptB (.nm 3)) L2_joints) [some (.str (fs l)), some (.ref ah.length), some (.ref (ah.length + 1)), none, none, none, none, none, none, none, none] (ah ++ [.dx ((EM.pan l).map dNN) (iot 0 (EM.pan l)), .lst []]) = .ok (.nx, [some (.str (fs l)), some (.ref ah.length), some (.ref (ah.length + 1)), e3, e4, e5, e6, none, none, e9, e10]) (ah ++ [.dx ((EM.pan l).map dNN) (iot 0 (EM.pan l)), .lst ((EM.rowsP l).map dJo)]) :=
    eFor (eSqL (eCall (eA (eV rfl) eA0) (list_nx (ks := (EM.pan l).map dNN) (ds := iot 0 (EM.pan l)) (by simp)))) lp
  exact ⟨_, eBodyR (eSeq c1 (eSeq c2 (eSeq c3 (eRet (eCall (eA (eCall (eA (eV rfl) eA0) (sort_rows hs hasc)) eA0) oTuple_lst)))))⟩
theorem sc_loose_leaves : FnScope ["folding", "held", "lesser", "greater", "edge", "leaf"] ["folding"] (defScope s_loose_leaves) := ⟨rfl, rfl, rfl, by decide +kernel, rfl, by decide +kernel, by decide +kernel⟩
abbrev L1_loose_leaves : FS := (sIf (iTr (iBin oEq (iVar 4) (iC (.str ⟨#[108, 101, 102, 116]⟩)))) (sSeq (sPut (iVar 1) (iVar 2) (iC (.bl true)))
  (sPut (iVar 1) (iVar 3) (iC (.bl true)))) sNx)
abbrev T1_loose_leaves : FT := (iTr (iBin oNotIn (iVar 5) (iVar 1)))
abbrev E1_loose_leaves : FE := (iVar 5)
def B_loose_leaves : FS :=
  (sSeq (sAsg (ptB (.nm 1)) iNewK)
  (sSeq (sFor (iSeqS (iDef F_joints [(iVar 0)])) (ptB (.tp [(.nm 2), (.nm 3), (.nm 4)])) L1_loose_leaves)
  (sRet (iCall oTuple [(iLc (iRange1 [(iBin oShl (iC (.int 1)) (iCall oLen [(iVar 0)]))]) (ptB (.nm 5)) T1_loose_leaves E1_loose_leaves [5])]))))
theorem raw_loose_leaves (M : Mods w K mg) (h_joints : Ok1 P w K mg base "joints" 7 ["folding"] F_joints) : Ok1 P w K mg base "loose_leaves" 8 ["folding"] (iBody 6 B_loose_leaves) := by
  obtain ⟨f, fd, F, hm, hb⟩ := M.f_loose_leaves
  refine ⟨f, fd, hm, F.kp, hb, fn_ok (k := 7) F sc_loose_leaves fun cdv A outer s H E hr hn => ?_⟩
  have hrjoints := hr.mono (j := 7) (by decide)
  have hu65 := room65 hr
  have hu1 := room1 hr
  exact (s_cons (s_set 1 sc_loose_leaves.nd j_newK)
  (s_cons (s_for PassesOwn.never rfl (i_seqS (h_joints.jd hrjoints hn (by exact rfl) rfl (a_cons (j_var 0) a_nil))) (g_tp rfl (gs_cons (g_nm 2 sc_loose_leaves.nd) (gs_cons (g_nm 3 sc_loose_leaves.nd) (gs_cons (g_nm 4 sc_loose_leaves.nd) gs_nil)))) (s_one (s_if (t_cmp (j_pc (op_eqA hr.units) ok_eq (j_var 4) (j_str ⟨#[108, 101, 102, 116]⟩ (by kernel_rfl)))) (s_cons (s_put hu1 (j_var 1) (j_var 2) j_bl)
  (s_one (s_put hu1 (j_var 1) (j_var 3) j_bl))) s_nil)))
  (s_one (s_ret (j_callT call_tuple_of ok_tuple (by exact rfl) M.nb_tuple boot_tuple (a_cons (j_lc rfl sc_loose_leaves.nd (i_range1 (by exact rfl) M.nb_range (a_cons (j_bin op_shl ok_i j_int (j_callB call_lenA ok_len (by exact rfl) M.nb_len boot_len (a_cons (j_var 0) a_nil))) a_nil)) (own := [(("leaf" : Str), 5)]) (blk_of (by kernel_rfl)) (by decide) (fun _ _ _ _ _ => (g_nm 5 sc_loose_leaves.nd)) (fun _ _ _ _ _ => (c_one (t_cmp (j_pc (op_notInA hu65) ok_notIn (j_var 5) (j_var 1))))) (fun _ _ _ _ _ => (j_var 5))) a_nil))))))
def looseM (l : List Lt) : List Nat := (List.range (2 ^ l.length)).filter fun k => !EM.leftAt (EM.sortedM l) k
def F_loose_leaves : List D → AH → Res D := specF (fun l : List Lt => 1 ≤ l.length ∧ l.length ≤ 4) (fun l => [.str (fs l)]) fun l => dT dI (looseM l)
theorem F_loose_leaves_eq {l : List Lt} {ah : AH} (h : 1 ≤ l.length ∧ l.length ≤ 4) : F_loose_leaves [.str (fs l)] ah = .ok (dT dI (looseM l)) ah := specF_eq (x := l) (fun x y e => by
  simp only [List.cons.injEq, D.str.injEq] at e
  rw [fs_inj e.1]) h
theorem put_dk {n p : Nat} {ks : List L2.Key} {ds : List D} {e : D} {a : AH} (h : a[n]? = some (.dk ks ds)) (hl : ks.length < sizeLine) : putD (.ref n) (dI p) e a = some (a.set n (.dk (ptD ks ds (.inl (p : Int)) e).1 (ptD ks ds (.inl (p : Int)) e).2)) := by
  unfold putD dI
  simp only [h, keyD, if_pos hl]
theorem has_put {ks : List L2.Key} {ds : List D} {q q' : L2.Key} {e : D} : hasD (ptD ks ds q e).1 q' = (hasD ks q' || decide (q = q')) := by
  unfold ptD
  by_cases c : hasD ks q = true
  · rw [if_pos c]
    by_cases c2 : q = q'
    · subst c2; rw [c, decide_eq_true rfl]; rfl
    · rw [decide_eq_false c2, Bool.or_false]
  · rw [if_neg c]
    unfold hasD
    rw [List.any_append]
    simp
theorem put_lens {ks : List L2.Key} {ds : List D} {q : L2.Key} {e : D} (h : ks.length = ds.length) : (ptD ks ds q e).1.length = (ptD ks ds q e).2.length ∧ (ptD ks ds q e).1.length ≤ ks.length + 1 := by
  unfold ptD
  split
  · exact ⟨by rw [ptV_len _ _ _ _ h]; exact h, Nat.le_succ _⟩
  · simp [h]
theorem lkD_has {q : L2.Key} : ∀ {ks : List L2.Key} {ds : List D}, ks.length = ds.length → (lkD ks ds q).isSome = hasD ks q
  | [], [], _ => rfl
  | [], _ :: _, h => by simp at h
  | _ :: _, [], h => by simp at h
  | k :: ks, d :: ds, h => by
    have ih := lkD_has (q := q) (ks := ks) (ds := ds) (by simpa using h)
    unfold hasD at ih ⊢
    unfold lkD
    rw [List.any_cons]
    by_cases c : k = q
    · rw [if_pos c, decide_eq_true c]; rfl
    · rw [if_neg c, decide_eq_false c, ih]; rfl
theorem eq_left (e : Option Lt) (a : AH) : oEq (.str (eS e)) (.str ⟨#[108, 101, 102, 116]⟩) a = .ok (.bl (decide (e = some .L))) a := by
  cases e with
  | none => rfl
  | some c => cases c <;> rfl
def leftR (r : EM.Row) (k : Nat) : Bool := r.2.2 == some .L && (r.1 == k || r.2.1 == k)
theorem inl_eq (i k : Nat) : decide ((Sum.inl (i : Int) : L2.Key) = .inl (k : Int)) = (i == k) := by
  rw [Bool.eq_iff_iff, decide_eq_true_eq, beq_iff_eq]
  constructor
  · intro z; injection z with z; omega
  · intro z; rw [z]
theorem loose_loop {ah : AH} {F : Option D} : ∀ (S : List EM.Row) (ks : List L2.Key) (ds : List D) (e2 e3 e4 : Option D), ks.length = ds.length → ks.length + 2 * S.length ≤ 1000 → ∃ (env' : AE) (ks' : List L2.Key) (ds' : List D), (env'[0]? = some F ∧ env'[1]? = some (some (.ref ah.length)) ∧ env'.length = 6) ∧ ks'.length = ds'.length ∧ (∀ k : Nat, hasD ks' (.inl (k : Int)) = (hasD ks (.inl (k : Int)) || EM.leftAt S k)) ∧
    forL (ptB (.tp [(.nm 2), (.nm 3), (.nm 4)])) L1_loose_leaves (S.map dJo) [F, some (.ref ah.length), e2, e3, e4, none] (ah ++ [.dk ks ds]) = .ok (.nx, env') (ah ++ [.dk ks' ds'])
  | [], ks, ds, e2, e3, e4, h, _ => ⟨_, ks, ds, ⟨rfl, rfl, rfl⟩, h, fun k => by simp [EM.leftAt], forL_nil⟩
  | r :: S, ks, ds, e2, e3, e4, h, hz => by
    rw [List.length_cons] at hz
    have gd : ptB (.tp [(.nm 2), (.nm 3), (.nm 4)]) (dJo r) [F, some (.ref ah.length), e2, e3, e4, none] = some [F, some (.ref ah.length), some (dI r.1), some (dI r.2.1), some (.str (eS r.2.2)), none] := rfl
    by_cases c : r.2.2 = some .L
    · have p1 := put_dk (p := r.1) (e := .bl true) (last_at (ah := ah) (o := .dk ks ds)) (by rw [sizeLine_eq]; omega)
      rw [set_last] at p1
      obtain ⟨z1, z2⟩ := put_lens (q := .inl (r.1 : Int)) (e := .bl true) h
      have h1 := fun k : Nat => has_put (ks := ks) (ds := ds) (q := .inl (r.1 : Int)) (q' := .inl (k : Int)) (e := .bl true)
      generalize (ptD ks ds (.inl (r.1 : Int)) (.bl true)).1 = ks1 at p1 z1 z2 h1
      generalize (ptD ks ds (.inl (r.1 : Int)) (.bl true)).2 = ds1 at p1 z1
      have p2 := put_dk (p := r.2.1) (e := .bl true) (last_at (ah := ah) (o := .dk ks1 ds1)) (by rw [sizeLine_eq]; omega)
      rw [set_last] at p2
      obtain ⟨y1, y2⟩ := put_lens (q := .inl (r.2.1 : Int)) (e := .bl true) z1
      have h2 := fun k : Nat => has_put (ks := ks1) (ds := ds1) (q := .inl (r.2.1 : Int)) (q' := .inl (k : Int)) (e := .bl true)
      generalize (ptD ks1 ds1 (.inl (r.2.1 : Int)) (.bl true)).1 = ks2 at p2 y1 y2 h2
      generalize (ptD ks1 ds1 (.inl (r.2.1 : Int)) (.bl true)).2 = ds2 at p2 y1
      obtain ⟨env', ks', ds', q1, q2, q3, q4⟩ := loose_loop (ah := ah) (F := F) S ks2 ds2 (some (dI r.1)) (some (dI r.2.1)) (some (.str (eS r.2.2))) y1 (by omega)
      refine ⟨env', ks', ds', q1, q2, fun k => ?_, forL_cons gd (eSIfT (eTr (eBin (eV rfl) eC (by rw [eq_left, decide_eq_true c]))) (eSeq (ePut eC (eV rfl) (eV rfl) p1) (ePut eC (eV rfl) (eV rfl) p2))) q4⟩
      rw [q3, h2, h1, inl_eq, inl_eq, Bool.or_assoc, Bool.or_assoc]
      unfold EM.leftAt
      rw [List.any_cons, c, beq_self_eq_true, Bool.true_and, Bool.or_assoc]
    · obtain ⟨env', ks', ds', q1, q2, q3, q4⟩ := loose_loop (ah := ah) (F := F) S ks ds (some (dI r.1)) (some (dI r.2.1)) (some (.str (eS r.2.2))) h (by omega)
      refine ⟨env', ks', ds', q1, q2, fun k => ?_, forL_cons gd (eSIfF (eTr (eBin (eV rfl) eC (by rw [eq_left, decide_eq_false c]))) eNx) q4⟩
      rw [q3]
      unfold EM.leftAt
      have b : (r.2.2 == some Lt.L) = false := by rw [beq_eq_false_iff_ne]; exact c
      rw [List.any_cons, b, Bool.false_and, Bool.false_or]
theorem rowsP_len (l : List Lt) : (EM.rowsP l).length ≤ 2 * (EM.pan l).length := by
  have er : EM.rowsP l = (EM.pan l).flatMap fun p => (EM.nbs p).flatMap (rowsAt l p) := rfl
  rw [er]
  clear er
  generalize EM.pan l = ps
  have nl : ∀ p, ((EM.nbs p).flatMap (rowsAt l p)).length ≤ 2 := fun p => by
    have r1 := rowsAt_len l p (p.1 + 1, p.2)
    have r2 := rowsAt_len l p (p.1, p.2 + 1)
    rw [show (EM.nbs p).flatMap (rowsAt l p) = rowsAt l p (p.1 + 1, p.2) ++ rowsAt l p (p.1, p.2 + 1) by simp [EM.nbs], List.length_append]
    omega
  induction ps with
  | nil => simp
  | cons p ps ih =>
    have := nl p
    simp only [List.flatMap_cons, List.length_append, List.length_cons] at ih ⊢
    omega
theorem sorted_len {l : List Lt} (h : l.length ≤ 4) : (EM.sortedM l).length ≤ 32 := by
  unfold EM.sortedM
  rw [(isort_perm _).length_eq]
  have := rowsP_len l
  rw [pan_len] at this
  have p16 : 2 ^ l.length ≤ 2 ^ 4 := Nat.pow_le_pow_right (by decide) h
  omega
theorem ok_loose_leaves (M : Mods w K mg) : Ok1 P w K mg base "loose_leaves" 8 ["folding"] F_loose_leaves := (raw_loose_leaves M (ok_joints M)).spec (fun _ _ => pure_dT (fun _ => rfl) _) fun l ah h => by
  obtain ⟨hl1, hl4⟩ : 1 ≤ l.length ∧ l.length ≤ 4 := h
  have sl := sorted_len hl4
  have p16 : 2 ^ l.length ≤ 2 ^ 4 := Nat.pow_le_pow_right (by decide) hl4
  obtain ⟨env', ks, ds, ⟨e0, e1, e6⟩, kl, hk, lp⟩ := loose_loop (ah := ah) (F := some (.str (fs l))) (EM.sortedM l) [] [] none none none rfl (by simp; omega)
  have comp : compL (ptB (.nm 5)) T1_loose_leaves E1_loose_leaves (wipeA env' [5]) ((List.range (2 ^ l.length)).map dI) [] (ah ++ [.dk ks ds]) = .ok ((looseM l).map dI) (ah ++ [.dk ks ds]) := by
    obtain ⟨a0, a1, a2, a3, a4, a5, rfl⟩ : ∃ a0 a1 a2 a3 a4 a5, env' = [a0, a1, a2, a3, a4, a5] := by
      match env', e6 with
      | [a0, a1, a2, a3, a4, a5], _ => exact ⟨a0, a1, a2, a3, a4, a5, rfl⟩
    simp only [List.getElem?_cons_succ, List.getElem?_cons_zero, Option.some.injEq] at e1
    subst e1
    refine okd (compL_if (c := fun k => !EM.leftAt (EM.sortedM l) k) (o := dI) (fun k hk' => ⟨[a0, some (.ref ah.length), a2, a3, a4, some (dI k)], rfl, eTr (eBin (eV rfl) (eV rfl) ?_), fun _ => eV rfl⟩) (by rw [List.length_nil, List.length_range]; exact small (by omega))) (by rw [List.nil_append]; rfl)
    have e2 : oInB (ah ++ [.dk ks ds]) (dI k) (.ref ah.length) = some (hasD ks (.inl (k : Int))) := by
      have z := lkD_has (q := .inl (k : Int)) kl
      unfold oInB dI
      simp only [seqD, last_at, dgD, dkD, keyD, z]
    unfold oNotIn
    rw [e2, hk]
    simp [hasD]
  refine ⟨[.dk ks ds], ?_⟩
  exact eBodyR (eSeq (eAsg (show iNewK _ ah = .ok (.ref ah.length) (ah ++ [.dk [] []]) from rfl) rfl) (eSeq (eFor (eSqT (eDef (eA (eV rfl) eA0) (F_joints_eq ⟨hl1, hl4⟩))) lp) (eRet (eCall (eA (eLc (eRg1N (eBin eC (eCall (eA (eV e0) eA0) (show oLen [.str (FM.fs l)] _ = .ok (.int ((l.length : Nat) : Int)) _ by rw [lenS (by rw [fs_len]; omega), fs_len]; rfl)) (oShl1 (by omega))) (by omega)) comp) eA0) oTuple_lst))))
theorem sc_law : FnScope ["script", "box", "lap", "folding", "due", "many", "at_left", "row", "k"] ["script"] (defScope s_law) := ⟨rfl, rfl, rfl, by decide +kernel, rfl, by decide +kernel, by decide +kernel⟩
abbrev L1_law : FS := (sIf (iTr (iBin oEq (iBin oIx (iVar 7) (iC (.int 2))) (iC (.str ⟨#[108, 101, 102, 116]⟩)))) (sAsg (ptB (.nm 6)) (iBin oAdd (iVar 6) (iCall oLst [(iBin oIx (iVar 7) (iC (.int 0))), (iBin oIx (iVar 7) (iC (.int 1)))]))) sNx)
abbrev T1_law : FT := (iTr (iBin oNotIn (iVar 8) (iVar 6)))
abbrev E1_law : FE := (iVar 8)
abbrev T2_law : FT := (iTr (iBin oNotIn (iCall oTup [(iVar 8), (iBin oSub (iBin oSub (iVar 5) (iC (.int 1))) (iVar 8)), (iC (.str ⟨#[108, 101, 102, 116]⟩))]) (iVar 4)))
abbrev L2_law : FS := (sSeq (sAsg (ptB (.nm 3)) (iSl oSl (iDef F__law_folding [(iVar 1)]) iNoP (iPart (iC (.int 4)))))
  (sSeq (sAsg (ptB (.nm 4)) (iDef F__law_joints [(iVar 3)]))
  (sSeq (sIf (bNot (iTru (iDef F__law_same [(iDef F_joints [(iVar 3)]), (iCall oTuple [(iVar 4)])]))) (sRet (iC (.bl false))) sNx)
  (sSeq (sAsg (ptB (.nm 5)) (iBin oIx (iCall oLst [(iC (.int 1)), (iC (.int 2)), (iC (.int 4)), (iC (.int 8)), (iC (.int 16))]) (iCall oLen [(iVar 3)])))
  (sSeq (sAsg (ptB (.nm 6)) (iCall oLst []))
  (sSeq (sFor (iSeqS (iVar 4)) (ptB (.nm 7)) L1_law)
  (sSeq (sIf (bNot (iTru (iDef F__law_same [(iDef F_loose_leaves [(iVar 3)]), (iCall oTuple [(iLc (iRange1 [(iVar 5)]) (ptB (.nm 8)) T1_law E1_law [8])])]))) (sRet (iC (.bl false))) sNx)
  (sIf (iTr (iBin oEq (iBin oIx (iVar 3) (iUn oNeg (iC (.int 1)))) (iC (.str ⟨#[76]⟩)))) (sIf (bOr (iTr (iBin oNe (iDef F_loose_leaves [(iVar 3)]) (iCall oTup []))) (iTr (iBin oGt (iCall oLen [(iLc (iRange1 [(iBin oDiv (iVar 5) (iC (.int 2)))]) (ptB (.nm 8)) T2_law E1_law [8])]) (iC (.int 0))))) (sRet (iC (.bl false))) sNx) sNx))))))))
def B_law : FS :=
  (sSeq (sAsg (ptB (.nm 1)) (iCall oLstM [(iDef F__law_digits [(iVar 0), (iC (.int 0)), (iC (.int 40))]), (iC (.int 0))]))
  (sSeq (sFor (iRange1 [(iC (.int 2))]) (ptB (.nm 2)) L2_law)
  (sRet (iC (.bl true)))))
theorem raw_law (M : Mods w K mg) (h__law_digits : Ok1 P w K mg base "_law_digits" 2 ["script", "first", "last"] F__law_digits) (h__law_folding : Ok1 P w K mg base "_law_folding" 2 ["box"] F__law_folding) (h__law_joints : Ok1 P w K mg base "_law_joints" 4 ["folding"] F__law_joints) (h__law_same : Ok1 P w K mg base "_law_same" 1 ["actual", "due"] F__law_same) (h_joints : Ok1 P w K mg base "joints" 7 ["folding"] F_joints) (h_loose_leaves : Ok1 P w K mg base "loose_leaves" 8 ["folding"] F_loose_leaves) : Ok1 P w K mg base "law" 9 ["script"] (iBody 9 B_law) := by
  obtain ⟨f, fd, F, hm, hb⟩ := M.f_law
  refine ⟨f, fd, hm, F.kp, hb, fn_ok (k := 8) F sc_law fun cdv A outer s H E hr hn => ?_⟩
  have hr_law_digits := hr.mono (j := 2) (by decide)
  have hr_law_folding := hr.mono (j := 2) (by decide)
  have hr_law_joints := hr.mono (j := 4) (by decide)
  have hr_law_same := hr.mono (j := 1) (by decide)
  have hrjoints := hr.mono (j := 7) (by decide)
  have hrloose_leaves := hr.mono (j := 8) (by decide)
  have hu65 := room65 hr
  have hu1 := room1 hr
  exact (s_cons (s_set 1 sc_law.nd (j_lstM (a_cons (h__law_digits.jd hr_law_digits hn (by exact rfl) rfl (a_cons (j_var 0) (a_cons j_int (a_cons j_int a_nil)))) (a_cons j_int a_nil))))
  (s_cons (s_for PassesOwn.never rfl (i_range1 (by exact rfl) M.nb_range (a_cons j_int a_nil)) (g_nm 2 sc_law.nd) (s_cons (s_set 3 sc_law.nd (j_sl (h__law_folding.jd hr_law_folding hn (by exact rfl) rfl (a_cons (j_var 1) a_nil)) j_noP (j_part j_int)))
  (s_cons (s_set 4 sc_law.nd (h__law_joints.jd hr_law_joints hn (by exact rfl) rfl (a_cons (j_var 3) a_nil)))
  (s_cons (s_if (t_not (t_tru (h__law_same.jd hr_law_same hn (by exact rfl) rfl (a_cons (h_joints.jd hrjoints hn (by exact rfl) rfl (a_cons (j_var 3) a_nil)) (a_cons (j_callT call_tuple_of ok_tuple (by exact rfl) M.nb_tuple boot_tuple (a_cons (j_var 4) a_nil)) a_nil))))) (s_one (s_ret j_bl)) s_nil)
  (s_cons (s_set 5 sc_law.nd (j_ix hu1 (j_lst (a_cons j_int (a_cons j_int (a_cons j_int (a_cons j_int (a_cons j_int a_nil)))))) (j_callB call_lenA ok_len (by exact rfl) M.nb_len boot_len (a_cons (j_var 3) a_nil))))
  (s_cons (s_set 6 sc_law.nd (j_lst a_nil))
  (s_cons (s_for PassesOwn.never rfl (i_seqS (j_var 4)) (g_nm 7 sc_law.nd) (s_one (s_if (t_cmp (j_pc (op_eqA hr.units) ok_eq (j_ix hu1 (j_var 7) j_int) (j_str ⟨#[108, 101, 102, 116]⟩ (by kernel_rfl)))) (s_one (s_set 6 sc_law.nd (j_bin op_addA ok_add (j_var 6) (j_lst (a_cons (j_ix hu1 (j_var 7) j_int) (a_cons (j_ix hu1 (j_var 7) j_int) a_nil)))))) s_nil)))
  (s_cons (s_if (t_not (t_tru (h__law_same.jd hr_law_same hn (by exact rfl) rfl (a_cons (h_loose_leaves.jd hrloose_leaves hn (by exact rfl) rfl (a_cons (j_var 3) a_nil)) (a_cons (j_callT call_tuple_of ok_tuple (by exact rfl) M.nb_tuple boot_tuple (a_cons (j_lc rfl sc_law.nd (i_range1 (by exact rfl) M.nb_range (a_cons (j_var 5) a_nil)) (own := [(("k" : Str), 8)]) (blk_of (by kernel_rfl)) (by decide) (fun _ _ _ _ _ => (g_nm 8 sc_law.nd)) (fun _ _ _ _ _ => (c_one (t_cmp (j_pc (op_notInA hu65) ok_notIn (j_var 8) (j_var 6))))) (fun _ _ _ _ _ => (j_var 8))) a_nil)) a_nil))))) (s_one (s_ret j_bl)) s_nil)
  (s_one (s_if (t_cmp (j_pc (op_eqA hr.units) ok_eq (j_ix hu1 (j_var 3) (j_un un_neg ok_neg j_int)) (j_str ⟨#[76]⟩ (by kernel_rfl)))) (s_one (s_if (w_or (t_cmp (j_pc (op_neA hr.units) ok_ne (h_loose_leaves.jd hrloose_leaves hn (by exact rfl) rfl (a_cons (j_var 3) a_nil)) (j_tup a_nil))) (w_or1 (t_cmp (j_pc op_gtA ok_cmp (j_callB call_lenA ok_len (by exact rfl) M.nb_len boot_len (a_cons (j_lc rfl sc_law.nd (i_range1 (by exact rfl) M.nb_range (a_cons (j_bin op_fdiv ok_i (j_var 5) j_int) a_nil)) (own := [(("k" : Str), 8)]) (blk_of (by kernel_rfl)) (by decide) (fun _ _ _ _ _ => (g_nm 8 sc_law.nd)) (fun _ _ _ _ _ => (c_one (t_cmp (j_pc (op_notInA hu65) ok_notIn (j_tup (a_cons (j_var 8) (a_cons (j_bin op_sub ok_sub (j_bin op_sub ok_sub (j_var 5) j_int) (j_var 8)) (a_cons (j_str ⟨#[108, 101, 102, 116]⟩ (by kernel_rfl)) a_nil)))) (j_var 4))))) (fun _ _ _ _ _ => (j_var 8))) a_nil)) j_int)))).pt (s_one (s_ret j_bl)) s_nil)) s_nil))))))))))
  (s_one (s_ret j_bl))))
def F_law : List D → AH → Res D := iBody 9 B_law
theorem cut_fs (l : List Lt) (n : Nat) : cutS (fs l) none (some (n : Int)) = fs (l.take n) := by
  unfold cutS
  rw [show HT.sIx (fs l).length 0 none = 0 from rfl, HT.sIx_nat (fs l).length (fs l).length n, fs_len, List.drop_zero, Nat.sub_zero, fs_cps]
  unfold fs
  congr 2
  rw [← List.map_take]
  by_cases c : n ≤ l.length
  · rw [Nat.min_eq_left c]
  · rw [Nat.min_eq_right (by omega), List.take_of_length_le (Nat.le_refl _), List.take_of_length_le (by omega)]
theorem last_fs {l : List Lt} {k : Lt} {a : AH} (h : l.getLast? = some k) (h5 : l.length ≤ 5) : oIx (.str (fs l)) (.int (-1)) a = .ok (.str (ls k)) a := by
  have hl : 0 < l.length := by
    cases l with
    | nil => cases h
    | cons _ _ => simp
  have e0 : l[l.length - 1]? = some k := by rw [← List.getLast?_eq_getElem?]; exact h
  have e : atI (fs l).cps.toList (-1) = some k.code := by
    rw [fs_cps]
    unfold atI ixN
    rw [List.length_map, if_neg (by omega), if_pos (by omega)]
    simp only [Option.bind_some]
    rw [show (-1 + (l.length : Int)).toNat = l.length - 1 by omega, List.getElem?_map, e0]
    rfl
  unfold oIx
  simp only [seqD]
  rw [if_pos (small (by rw [fs_len]; omega)), e]
  rfl
theorem shw_eS (e : Option Lt) : Shw 0 10 (.str (eS e)) := by
  cases e with
  | none => exact ⟨rfl, by decide +kernel, by decide +kernel, rfl, by decide +kernel, by decide +kernel⟩
  | some c => cases c <;> exact ⟨rfl, by decide +kernel, by decide +kernel, rfl, by decide +kernel, by decide +kernel⟩
def SmR (r : EM.Row) : Prop := r.1 < 1000 ∧ r.2.1 < 1000
theorem shw_row {r : EM.Row} (h : SmR r) : Shw 1 33 (encR r) := by
  have := shw_tup (k := 0) (n := 10) (xs := [.int (r.1 : Int), .int (r.2.1 : Int), .str (eS r.2.2)]) fun x hx => by
    simp only [List.mem_cons, List.not_mem_nil, or_false] at hx
    rcases hx with rfl | rfl | rfl
    · exact (shw_int (by have := h.1; omega)).mono (Nat.le_refl _) (by omega)
    · exact (shw_int (by have := h.2; omega)).mono (Nat.le_refl _) (by omega)
    · exact shw_eS _
  exact this
theorem eS_inj {a b : Option Lt} (h : eS a = eS b) : a = b := by
  cases a with
  | none => cases b with
    | none => rfl
    | some d => cases d <;> exact absurd h (by decide)
  | some c => cases b with
    | none => cases c <;> exact absurd h (by decide)
    | some d => cases c <;> cases d <;> first | rfl | exact absurd h (by decide)
theorem eqv_row (x y : EM.Row) : PyData.eqv (encR x) (encR y) = decide (x = y) := by
  unfold encR
  simp only [PyData.eqv, PyData.eqvAll, Bool.and_true]
  rw [Bool.eq_iff_iff]
  simp only [Bool.and_eq_true, decide_eq_true_eq, beq_iff_eq]
  constructor
  · rintro ⟨h1, h2, h3⟩
    exact Prod.ext (by omega) (Prod.ext (by omega) (eS_inj h3))
  · rintro rfl
    exact ⟨rfl, rfl, rfl⟩
theorem py_rows (S : List EM.Row) : toPyL (S.map dJo) = some (S.map encR) := py_map (e := dJo) (p := encR) (fun _ => rfl) S
theorem same_rows {S : List EM.Row} {a : AH} (h : ∀ r ∈ S, SmR r) (hl : S.length ≤ 100) : F__law_same [.tup (S.map dJo), .tup (S.map dJo)] a = .ok (.bl true) a := by
  have sh := shw_tup (k := 1) (n := 33) (xs := S.map encR) fun x hx => by
    obtain ⟨r, hr, rfl⟩ := List.mem_map.mp hx
    exact shw_row (h r hr)
  refine same_eq (q := .tuple (S.map encR)) ?_ (sh.rpr (by omega) (by rw [List.length_map]; omega))
  unfold toPy
  simp only [py_rows]
theorem notin_rows {S : List EM.Row} {r : EM.Row} {a : AH} (h : ∀ r ∈ S, SmR r) (hr : SmR r) : oNotIn (dJo r) (.lst (S.map dJo)) a = .ok (.bl (!decide (r ∈ S))) a := by
  have s1 : SeqAt.shaped (encR r) = true := (shw_row hr).shaped (by omega)
  have s2 : SeqAt.shaped (.list (S.map encR)) = true := (shw_lst (k := 1) (n := 33) fun y hy => by
    obtain ⟨z, hz, rfl⟩ := List.mem_map.mp hy
    exact shw_row (h z hz)).shaped (by omega)
  have e2 : ((S.map encR).any fun z => PyData.eqv z (encR r)) = decide (r ∈ S) := by
    rw [List.any_map, Bool.eq_iff_iff, List.any_eq_true, decide_eq_true_eq]
    constructor
    · rintro ⟨y, hy, h⟩
      simp only [Function.comp, eqv_row, decide_eq_true_eq] at h
      exact h ▸ hy
    · intro h
      exact ⟨r, h, by simp only [Function.comp, eqv_row, decide_eq_true_eq]⟩
  have t1 : toPy (dJo r) = some (encR r) := rfl
  have t2 : toPy (.lst (S.map dJo)) = some (.list (S.map encR)) := by
    show (match toPyL (S.map dJo) with | some ps => some (PyData.list ps) | none => none) = _
    rw [py_rows]
  have f1 : flatD (dJo r) = none := rfl
  unfold oNotIn oInB
  simp only [seqD, f1, t1, t2, s1, s2, and_self, if_true, e2]
def atl (S : List EM.Row) : List Nat := S.flatMap fun r => if r.2.2 = some .L then [r.1, r.2.1] else []
theorem left_atl (S : List EM.Row) (k : Nat) : decide (k ∈ atl S) = EM.leftAt S k := by
  induction S with
  | nil => rfl
  | cons r S ih =>
    have e1 : (k ∈ atl (r :: S)) ↔ (k ∈ (if r.2.2 = some Lt.L then [r.1, r.2.1] else [])) ∨ k ∈ atl S := by unfold atl; rw [List.flatMap_cons, List.mem_append]
    unfold EM.leftAt at ih ⊢
    rw [List.any_cons, ← ih, Bool.eq_iff_iff, decide_eq_true_eq, e1]
    simp only [Bool.or_eq_true, Bool.and_eq_true, beq_iff_eq, decide_eq_true_eq]
    by_cases c : r.2.2 = some Lt.L
    · rw [if_pos c]
      simp only [List.mem_cons, List.not_mem_nil, or_false, c, true_and]
      constructor
      · rintro ((h | h) | h)
        · exact .inl (.inl h.symm)
        · exact .inl (.inr h.symm)
        · exact .inr h
      · rintro ((h | h) | h)
        · exact .inl (.inl h.symm)
        · exact .inl (.inr h.symm)
        · exact .inr h
    · rw [if_neg c]
      simp [c]
theorem atl_len (S : List EM.Row) : (atl S).length ≤ 2 * S.length := by
  induction S with
  | nil => simp [atl]
  | cons r S ih =>
    unfold atl at ih ⊢
    rw [List.flatMap_cons, List.length_append, List.length_cons]
    have : (if r.2.2 = some Lt.L then [r.1, r.2.1] else []).length ≤ 2 := by split <;> simp
    omega
theorem left_loop {S0 e2 e3 e4 e5 : Option D} {b : Option D} {a : AH} : ∀ (S : List EM.Row) (T : List Nat) (e7 : Option D), T.length + 2 * S.length ≤ 1000 → ∃ f7,
    forL (ptB (.nm 7)) L1_law (S.map dJo) [S0, b, e2, e3, e4, e5, some (.lst (T.map dI)), e7, none] a = .ok (.nx, [S0, b, e2, e3, e4, e5, some (.lst ((T ++ atl S).map dI)), f7, none]) a
  | [], T, e7, _ => ⟨e7, by rw [show atl [] = [] from rfl, List.append_nil]; exact forL_nil⟩
  | r :: S, T, e7, hz => by
    rw [List.length_cons] at hz
    have at2 : ∀ env : AE, env[7]? = some (some (dJo r)) → (iTr (iBin oEq (iBin oIx (iVar 7) (iC (.int 2))) (iC (.str ⟨#[108, 101, 102, 116]⟩)))) env a = .ok (decide (r.2.2 = some .L)) a := fun env e => eTr (eBin (eBin (eV e) (eN 2) (ix_tup (n := 2) rfl rfl)) eC (eq_left _ _))
    have ec : atl (r :: S) = (if r.2.2 = some Lt.L then [r.1, r.2.1] else []) ++ atl S := by unfold atl; rw [List.flatMap_cons]
    by_cases c : r.2.2 = some Lt.L
    · obtain ⟨f7, ih⟩ := left_loop (S0 := S0) (b := b) (e2 := e2) (e3 := e3) (e4 := e4) (e5 := e5) (a := a) S (T ++ [r.1, r.2.1]) (some (dJo r)) (by simp; omega)
      refine ⟨f7, forL_cons rfl (eSIfT (by rw [at2 _ rfl, decide_eq_true c]) (eAsg (okd (eBin (eV rfl) (eCall (eA (eBin (eV rfl) (eN 0) (ix_tup (n := 0) rfl rfl)) (eA (eBin (eV rfl) (eN 1) (ix_tup (n := 1) rfl rfl)) eA0)) lst2) (oAdd_lst (by rw [List.length_map]; exact small (by simp; omega)))) (v := .lst ((T ++ [r.1, r.2.1]).map dI)) (by rw [List.map_append]; rfl)) rfl)) ?_⟩
      refine ih.trans ?_
      rw [ec, if_pos c, List.append_assoc]
    · obtain ⟨f7, ih⟩ := left_loop (S0 := S0) (b := b) (e2 := e2) (e3 := e3) (e4 := e4) (e5 := e5) (a := a) S T (some (dJo r)) (by omega)
      refine ⟨f7, forL_cons rfl (eSIfF (by rw [at2 _ rfl, decide_eq_false c]) eNx) ?_⟩
      refine ih.trans ?_
      rw [ec, if_neg c, List.nil_append]
theorem many_at {n : Nat} {a : AH} (h : n ≤ 4) : oIx (.lst [.int 1, .int 2, .int 4, .int 8, .int 16]) (dI n) a = .ok (dI (2 ^ n)) a := by
  have : n = 0 ∨ n = 1 ∨ n = 2 ∨ n = 3 ∨ n = 4 := by omega
  rcases this with rfl | rfl | rfl | rfl | rfl <;> exact ix_lst rfl rfl
theorem sorted_small {l : List Lt} (h1 : 1 ≤ l.length) (h4 : l.length ≤ 4) : ∀ r ∈ EM.sortedM l, SmR r := fun r hr => by
  have hr := (isort_perm _).mem_iff.mp hr
  obtain ⟨p, hp, hr⟩ := List.mem_flatMap.mp hr
  obtain ⟨q, hq, hr⟩ := List.mem_flatMap.mp hr
  split at hr
  · rename_i hm
    rw [List.mem_singleton.mp hr]
    have i1 := List.idxOf_lt_length_iff.mpr hp
    have i2 := List.idxOf_lt_length_iff.mpr hm
    rw [pan_len] at i1 i2
    have p16 : 2 ^ l.length ≤ 2 ^ 4 := Nat.pow_le_pow_right (by decide) h4
    unfold EM.row SmR
    simp only
    omega
  · cases hr
theorem lap_ok {S0 : Option D} {e2 e3 e4 e5 e6 e7 : Option D} {b : Nat} {a : AH} (hB : Box b a) : ∃ f3 f4 f5 f6 f7 a', L2_law [S0, some (.ref b), e2, e3, e4, e5, e6, e7, none] a = .ok (.nx, [S0, some (.ref b), e2, f3, f4, f5, f6, f7, none]) a' ∧ Box b a' := by
  obtain ⟨l0, a1, hl1, hl5, fd, B1, _⟩ := folding_up hB
  generalize hl : l0.take 4 = l
  have n1 : 1 ≤ l.length := by rw [← hl, List.length_take]; omega
  have n4 : l.length ≤ 4 := by rw [← hl, List.length_take]; omega
  have p16 : 2 ^ l.length ≤ 2 ^ 4 := Nat.pow_le_pow_right (by decide) n4
  have p1 : 1 ≤ 2 ^ l.length := Nat.one_le_two_pow
  have sl := sorted_len n4
  have ss := sorted_small n1 n4
  generalize hS : EM.sortedM l = S at sl ss
  have al := atl_len S
  have c1 : (sAsg (ptB (.nm 3)) (iSl oSl (iDef F__law_folding [(iVar 1)]) iNoP (iPart (iC (.int 4))))) [S0, some (.ref b), e2, e3, e4, e5, e6, e7, none] a = .ok (.nx, [S0, some (.ref b), e2, some (.str (fs l)), e4, e5, e6, e7, none]) a1 :=
    eAsg (okd (eSl (eDef (eA (eV rfl) eA0) fd) eNoP (ePart (i := 4) eC) (slS (by rw [fs_len]; omega))) (by rw [show (4 : Int) = ((4 : Nat) : Int) from rfl, cut_fs, hl])) rfl
  have c2 : (sAsg (ptB (.nm 4)) (iDef F__law_joints [(iVar 3)])) [S0, some (.ref b), e2, some (.str (fs l)), e4, e5, e6, e7, none] a1 = .ok (.nx, [S0, some (.ref b), e2, some (.str (fs l)), some (.lst (S.map dJo)), e5, e6, e7, none]) a1 :=
    eAsg (eDef (eA (eV rfl) eA0) (by rw [F__law_joints_eq ⟨n1, n4⟩, hS]; rfl)) rfl
  have jo : F_joints [.str (fs l)] a1 = .ok (.tup (S.map dJo)) a1 := by rw [F_joints_eq ⟨n1, n4⟩, hS]; rfl
  have c3 : (sIf (bNot (iTru (iDef F__law_same [(iDef F_joints [(iVar 3)]), (iCall oTuple [(iVar 4)])]))) (sRet (iC (.bl false))) sNx) [S0, some (.ref b), e2, some (.str (fs l)), some (.lst (S.map dJo)), e5, e6, e7, none] a1 = .ok (.nx, [S0, some (.ref b), e2, some (.str (fs l)), some (.lst (S.map dJo)), e5, e6, e7, none]) a1 :=
    eSIfF (eNotT (b := true) (eTru (eDef (eA (eDef (eA (eV rfl) eA0) jo) (eA (eCall (eA (eV rfl) eA0) oTuple_lst) eA0)) (same_rows ss (by omega))) rfl)) eNx
  have c4 : (sAsg (ptB (.nm 5)) (iBin oIx (iCall oLst [(iC (.int 1)), (iC (.int 2)), (iC (.int 4)), (iC (.int 8)), (iC (.int 16))]) (iCall oLen [(iVar 3)]))) [S0, some (.ref b), e2, some (.str (fs l)), some (.lst (S.map dJo)), e5, e6, e7, none] a1 = .ok (.nx, [S0, some (.ref b), e2, some (.str (fs l)), some (.lst (S.map dJo)), some (dI (2 ^ l.length)), e6, e7, none]) a1 :=
    eAsg (eBin (eCall (eA eC (eA eC (eA eC (eA eC (eA eC eA0))))) (oLst_eq (small (by simp)))) (eCall (eA (eV rfl) eA0) (show oLen [.str (FM.fs l)] a1 = .ok (dI l.length) a1 by rw [lenS (by rw [fs_len]; omega), fs_len])) (many_at n4)) rfl
  have c5 : (sAsg (ptB (.nm 6)) (iCall oLst [])) [S0, some (.ref b), e2, some (.str (fs l)), some (.lst (S.map dJo)), some (dI (2 ^ l.length)), e6, e7, none] a1 = .ok (.nx, [S0, some (.ref b), e2, some (.str (fs l)), some (.lst (S.map dJo)), some (dI (2 ^ l.length)), some (.lst (([] : List Nat).map dI)), e7, none]) a1 := eAsg (eCall eA0 lst0) rfl
  obtain ⟨f7, lp⟩ := left_loop (S0 := S0) (b := some (.ref b)) (e2 := e2) (e3 := some (.str (fs l))) (e4 := some (.lst (S.map dJo))) (e5 := some (dI (2 ^ l.length))) (a := a1) S [] e7 (by rw [List.length_nil]; omega)
  rw [List.nil_append] at lp
  have c6 : (sFor (iSeqS (iVar 4)) (ptB (.nm 7)) L1_law) [S0, some (.ref b), e2, some (.str (fs l)), some (.lst (S.map dJo)), some (dI (2 ^ l.length)), some (.lst (([] : List Nat).map dI)), e7, none] a1 = .ok (.nx, [S0, some (.ref b), e2, some (.str (fs l)), some (.lst (S.map dJo)), some (dI (2 ^ l.length)), some (.lst ((atl S).map dI)), f7, none]) a1 := eFor (eSqL (eV rfl)) lp
  have lo : F_loose_leaves [.str (fs l)] a1 = .ok (.tup ((looseM l).map dI)) a1 := F_loose_leaves_eq ⟨n1, n4⟩
  have ll : (looseM l).length ≤ 16 ∧ ∀ x ∈ looseM l, x < 16 := by
    have := List.length_filter_le (fun k => !EM.leftAt (EM.sortedM l) k) (List.range (2 ^ l.length))
    rw [List.length_range] at this
    refine ⟨by unfold looseM; omega, fun x hx => ?_⟩
    have := List.mem_range.mp (List.mem_filter.mp hx).1
    omega
  let CN := Cod.tup 100 Cod.nat
  have ln : CN.val (looseM l) := ⟨by omega, fun x hx => by have := ll.2 x hx; show x < _; omega⟩
  have due : (iLc (iRange1 [(iVar 5)]) (ptB (.nm 8)) T1_law E1_law [8]) [S0, some (.ref b), e2, some (.str (fs l)), some (.lst (S.map dJo)), some (dI (2 ^ l.length)), some (.lst ((atl S).map dI)), f7, none] a1 = .ok (.lst ((looseM l).map dI)) a1 := by
    refine okd (eLc (eRg1N (eV rfl) (by omega)) (compL_if (c := fun k => !EM.leftAt (EM.sortedM l) k) (o := dI) (fun k hk => ⟨_, rfl, eTr (eBin (eV rfl) (eV rfl) (by rw [notin_natL, left_atl, hS])), fun _ => eV rfl⟩) (by rw [List.length_nil, List.length_range]; exact small (by omega)))) (by rw [List.nil_append]; rfl)
  have c7 : (sIf (bNot (iTru (iDef F__law_same [(iDef F_loose_leaves [(iVar 3)]), (iCall oTuple [(iLc (iRange1 [(iVar 5)]) (ptB (.nm 8)) T1_law E1_law [8])])]))) (sRet (iC (.bl false))) sNx) [S0, some (.ref b), e2, some (.str (fs l)), some (.lst (S.map dJo)), some (dI (2 ^ l.length)), some (.lst ((atl S).map dI)), f7, none] a1 = .ok (.nx, [S0, some (.ref b), e2, some (.str (fs l)), some (.lst (S.map dJo)), some (dI (2 ^ l.length)), some (.lst ((atl S).map dI)), f7, none]) a1 :=
    eSIfF (eNotT (b := true) (eTru (eDef (eA (eDef (eA (eV rfl) eA0) lo) (eA (eCall (eA due eA0) oTuple_lst) eA0)) (same_eq (CN.py (looseM l)) (CN.rpr ln))) rfl)) eNx
  have c8 : (sIf (iTr (iBin oEq (iBin oIx (iVar 3) (iUn oNeg (iC (.int 1)))) (iC (.str ⟨#[76]⟩)))) (sIf (bOr (iTr (iBin oNe (iDef F_loose_leaves [(iVar 3)]) (iCall oTup []))) (iTr (iBin oGt (iCall oLen [(iLc (iRange1 [(iBin oDiv (iVar 5) (iC (.int 2)))]) (ptB (.nm 8)) T2_law E1_law [8])]) (iC (.int 0))))) (sRet (iC (.bl false))) sNx) sNx) [S0, some (.ref b), e2, some (.str (fs l)), some (.lst (S.map dJo)), some (dI (2 ^ l.length)), some (.lst ((atl S).map dI)), f7, none] a1 = .ok (.nx, [S0, some (.ref b), e2, some (.str (fs l)), some (.lst (S.map dJo)), some (dI (2 ^ l.length)), some (.lst ((atl S).map dI)), f7, none]) a1 := by
    obtain ⟨k, hk⟩ : ∃ k, l.getLast? = some k := by
      cases h : l.getLast? with
      | none => rw [List.getLast?_eq_none_iff.mp h] at n1; simp at n1
      | some k => exact ⟨k, rfl⟩
    by_cases c : k = .L
    · subst c
      have G := EM.all_good n1 n4
      unfold EM.good at G
      simp only [Bool.and_eq_true] at G
      have G := G.2
      unfold EM.lastL at G
      rw [hk] at G
      simp only [Bool.and_eq_true, List.all_eq_true, decide_eq_true_eq] at G
      obtain ⟨g1, g2⟩ := G
      have l0 : looseM l = [] := by
        unfold looseM
        rw [List.filter_eq_nil_iff]
        intro x hx
        rw [g1 x hx]
        decide
      have none' : (iLc (iRange1 [(iBin oDiv (iVar 5) (iC (.int 2)))]) (ptB (.nm 8)) T2_law E1_law [8]) [S0, some (.ref b), e2, some (.str (fs l)), some (.lst (S.map dJo)), some (dI (2 ^ l.length)), some (.lst ((atl S).map dI)), f7, none] a1 = .ok (.lst []) a1 := by
        refine okd (eLc (eRg1N (n := 2 ^ l.length / 2) (eBin (eV rfl) (eN 2) (divN (by decide) (by decide))) (by omega)) (compL_if (c := fun _ => false) (o := dI) (fun k hk => ⟨[S0, some (.ref b), e2, some (.str (fs l)), some (.lst (S.map dJo)), some (dI (2 ^ l.length)), some (.lst ((atl S).map dI)), f7, some (dI k)], rfl, eTr (eBin (eCall (eA (eV rfl) (eA (eBin (eBin (eV rfl) (eN 1) (subN (by omega))) (eV rfl) (subN (by have := List.mem_range.mp hk; omega))) (eA eC eA0))) tup3) (eV rfl) ?_), fun z => nomatch z⟩) (by rw [List.length_nil, List.length_range]; exact small (by omega)))) (by simp)
        have kk := List.mem_range.mp hk
        have m := g2 k hk
        rw [hS] at m
        have nr := notin_rows (S := S) (r := (k, 2 ^ l.length - 1 - k, some Lt.L)) (a := a1) ss (ss _ m)
        rw [decide_eq_true m] at nr
        exact nr
      exact eSIfT (eTr (eBin (eBin (eV rfl) (eUn eC rfl) (last_fs hk (by omega))) eC (by rw [eq_L, decide_eq_true rfl]))) (eSIfF (eOrF (eTr (eBin (eDef (eA (eV rfl) eA0) lo) (eCall eA0 tup0) (by rw [l0]; exact (CN.ne (x := []) (y := []) ⟨by simp, by simp⟩ ⟨by simp, by simp⟩).trans (by rw [decide_eq_true rfl]; rfl)))) (eTr (eBin (eCall (eA none' eA0) lenL') (eN 0) (by rw [gtN]; rfl)))) eNx)
    · exact eSIfF (eTr (eBin (eBin (eV rfl) (eUn eC rfl) (last_fs hk (by omega))) eC (by rw [eq_L, decide_eq_false c]))) eNx
  exact ⟨_, _, _, _, _, a1, eSeq c1 (eSeq c2 (eSeq c3 (eSeq c4 (eSeq c5 (eSeq c6 (eSeq c7 c8)))))), B1⟩
theorem law_true (ns : List Int) (ah : AH) : ∃ a', F_law [.lst (ns.map D.int)] ah = .ok (.bl true) a' := by
  obtain ⟨ds, u, dg, dz⟩ := digits_ex ns ah 40 (by omega)
  have hB : Box (ah ++ u).length ((ah ++ u) ++ [.lst [.lst (ds.map D.int), dI 0]]) := ⟨ds, 0, dz, last_at⟩
  generalize hb : (ah ++ u).length = b at hB
  generalize hA : (ah ++ u) ++ [.lst [.lst (ds.map D.int), dI 0]] = A at hB
  have start : (iCall oLstM [(iDef F__law_digits [(iVar 0), (iC (.int 0)), (iC (.int 40))]), (iC (.int 0))]) [some (.lst (ns.map D.int)), none, none, none, none, none, none, none, none] ah = .ok (.ref b) A := by
    rw [← hb, ← hA]
    exact eCall (eA (eDef (eA (eV rfl) (eA eC (eA eC eA0))) dg) (eA eC eA0)) lstM2
  obtain ⟨f3, f4, f5, f6, f7, a1, l1, B1⟩ := lap_ok (S0 := some (.lst (ns.map D.int))) (e2 := some (dI 0)) (e3 := none) (e4 := none) (e5 := none) (e6 := none) (e7 := none) hB
  obtain ⟨g3, g4, g5, g6, g7, a2, l2, B2⟩ := lap_ok (S0 := some (.lst (ns.map D.int))) (e2 := some (dI 1)) (e3 := f3) (e4 := f4) (e5 := f5) (e6 := f6) (e7 := f7) B1
  exact ⟨a2, eBodyR (eSeq (eAsg start rfl) (eSeq (eFor (eRg1N (n := 2) (eN 2) (by decide)) (forL_cons rfl l1 (forL_cons rfl l2 forL_nil))) (eRet eC)))⟩
end K10
end
set_option maxHeartbeats 1500000
noncomputable section
namespace K10
open PySem PySem.Spec PyProof.Rows L2 DL FM
variable {P : Program} {w : World} {K : PySem.W.Frag} {mg : Str → Option Value} {base : Heap}
def kv_OTHER_FACE : List (Str × Lit) := [(⟨#[102, 114, 111, 110, 116]⟩, .str ⟨#[98, 97, 99, 107]⟩), (⟨#[98, 97, 99, 107]⟩, .str ⟨#[102, 114, 111, 110, 116]⟩)]
def kv_OTHER_HEAD : List (Str × Lit) := [(⟨#[117, 112]⟩, .str ⟨#[100, 111, 119, 110]⟩), (⟨#[100, 111, 119, 110]⟩, .str ⟨#[117, 112]⟩)]
def kv_EDGES : List (Str × Lit) := [(⟨#[76]⟩, .str ⟨#[108, 101, 102, 116]⟩), (⟨#[82]⟩, .str ⟨#[114, 105, 103, 104, 116]⟩), (⟨#[84]⟩, .str ⟨#[116, 111, 112]⟩), (⟨#[66]⟩, .str ⟨#[98, 111, 116, 116, 111, 109]⟩)]
def fnL : List He.DefD := [mkD "_flat_row" s__flat_row, mkD "_flat_sheet" s__flat_sheet, mkD "sheet_size" s_sheet_size, mkD "_meeting" s__meeting, mkD "_turned_leaf" s__turned_leaf, mkD "_turned" s__turned, mkD "_laid_on" s__laid_on, mkD "_folded_across" s__folded_across, mkD "_folded_down" s__folded_down, mkD "states" s_states, mkD "fold" s_fold, mkD "_law_cell" s__law_cell, mkD "_law_digits" s__law_digits, mkD "_law_draw" s__law_draw, mkD "_law_folding" s__law_folding, mkD "_law_size" s__law_size, mkD "_law_over" s__law_over, mkD "_law_folded" s__law_folded, mkD "_law_states" s__law_states, mkD "_law_parts" s__law_parts, mkD "_law_turned_edge" s__law_turned_edge, mkD "_law_joints" s__law_joints, mkD "_law_same" s__law_same, mkD "_moved" s__moved, mkD "_path" s__path, mkD "_edge" s__edge, mkD "joints" s_joints, mkD "loose_leaves" s_loose_leaves, mkD "law" s_law]
def faL : List He.Fa := [.glo "_flat_row", .glo "_flat_sheet", .glo "sheet_size", .glo "_meeting", .glo "_turned_leaf", .glo "_turned", .glo "_laid_on", .glo "_folded_across", .glo "_folded_down", .glo "states", .glo "fold", .glo "_law_cell", .glo "_law_digits", .glo "_law_draw", .glo "_law_folding", .glo "_law_size", .glo "_law_over", .glo "_law_folded", .glo "_law_states", .glo "_law_parts", .glo "_law_turned_edge", .glo "_law_joints", .glo "_law_same", .glo "_moved", .glo "_path", .glo "_edge", .glo "joints", .glo "loose_leaves", .glo "law", .free "enumerate", .free "int", .free "len", .free "list", .free "range", .free "repr", .free "reversed", .free "sorted", .free "tuple", .free "zip", .glo "OTHER_FACE", .glo "OTHER_HEAD", .glo "EDGES", .glo "BY_SIDES", .glo "BY_ENDS"]
def tsL : List He.Tab := [(fun K => He.ga K "OTHER_FACE", kv_OTHER_FACE.map (·.1)), (fun K => He.ga K "OTHER_HEAD", kv_OTHER_HEAD.map (·.1)), (fun K => He.ga K "EDGES", kv_EDGES.map (·.1)), (fun K => He.ga K "BY_SIDES", kv_BY_SIDES.map (·.1)), (fun K => He.ga K "BY_ENDS", kv_BY_ENDS.map (·.1))]
def exL (K : PySem.W.Frag) : Bool := noLst K && (tabB K "OTHER_FACE" kv_OTHER_FACE && (tabB K "OTHER_HEAD" kv_OTHER_HEAD && (tabB K "EDGES" kv_EDGES && (tabB K "BY_SIDES" kv_BY_SIDES && (tabB K "BY_ENDS" kv_BY_ENDS && (dctB K "BY_ENDS" kv_BY_ENDS && (dctB K "BY_SIDES" kv_BY_SIDES && true)))))))
abbrev RR : PySem.W.OpenRow := PySem.W.OpenLaw.row PySem.Challenge.rw_gathersheets_k10_edges_exact
abbrev hkL : PySem.W.Hook := He.hookX 3 faL fnL tsL [] exL
def obL (s : PySem.W.SharedT) := He.obsX 3 faL fnL tsL [] exL (HandSHeadRun.getT s)
theorem obL_eq (s : PySem.W.SharedT) : obL s = hkL.obs s.abs := He.obsX_eq (HandSHeadRun.getT_eq s)
def names0 : List PySem.Str := ["OTHER_FACE", "OTHER_HEAD", "sheet_size", "fold", "states", "_flat_sheet", "_flat_row", "_folded_across", "_folded_down", "_meeting", "_laid_on", "_turned", "_turned_leaf", "EDGES", "BY_SIDES", "BY_ENDS", "joints", "loose_leaves", "_edge", "_path", "_moved", "_law_is_integer", "_law_cell", "_law_list_is", "_law_same", "_law_digits", "_law_draw", "_law_pick", "_law_folding", "_law_size"]
def names1 : List PySem.Str := ["_law_over", "_law_folded", "_law_states", "_law_stack", "_law_turned_edge", "_law_parts", "_law_joints"]
def namesL : List PySem.Str := names0 ++ names1
theorem runL (w : World) : HandSHeadRun.RunEq RR (PySem.W.view RR.prog [40]) hkL obL 6000 namesL w := by
  refine PySem.W.byRow2 "special-get-raises" (P := fun w => HandSHeadRun.RunEq RR (PySem.W.view RR.prog [40]) hkL obL 6000 namesL w) (fun w os => ?_) (fun w os => ?_) w <;> kernel_rfl
theorem mods_of {h : Heap} (c : He.SaysX faL fnL tsL [] exL w h K) (X : K.In h) (G : h.Ns mainGlobals mg) : Mods w K mg where
  nb_enumerate := free_at c X G 29 rfl
  nb_int := free_at c X G 30 rfl
  nb_len := free_at c X G 31 rfl
  nb_list := free_at c X G 32 rfl
  nb_range := free_at c X G 33 rfl
  nb_repr := free_at c X G 34 rfl
  nb_reversed := free_at c X G 35 rfl
  nb_sorted := free_at c X G 36 rfl
  nb_tuple := free_at c X G 37 rfl
  nb_zip := free_at c X G 38 rfl
  k_OTHER_FACE := kon_tab (kvs := kv_OTHER_FACE) c X G 39 0 rfl rfl (He.ba (He.ba c.more).2).1
  k_OTHER_HEAD := kon_tab (kvs := kv_OTHER_HEAD) c X G 40 1 rfl rfl (He.ba (He.ba (He.ba c.more).2).2).1
  k_EDGES := kon_tab (kvs := kv_EDGES) c X G 41 2 rfl rfl (He.ba (He.ba (He.ba (He.ba c.more).2).2).2).1
  k_BY_SIDES := kon_tab (kvs := kv_BY_SIDES) c X G 42 3 rfl rfl (He.ba (He.ba (He.ba (He.ba (He.ba c.more).2).2).2).2).1
  k_BY_ENDS := kon_tab (kvs := kv_BY_ENDS) c X G 43 4 rfl rfl (He.ba (He.ba (He.ba (He.ba (He.ba (He.ba c.more).2).2).2).2).2).1
  d_BY_ENDS := by
    obtain ⟨es, n, q1, q2, _⟩ := c.t.tab 4 rfl
    exact dctB_ok (He.ba (He.ba (He.ba (He.ba (He.ba (He.ba (He.ba c.more).2).2).2).2).2).2).1 q1 q2
  m_BY_ENDS := He.glo_ok X G (c.t.d.fact 43 rfl)
  d_BY_SIDES := by
    obtain ⟨es, n, q1, q2, _⟩ := c.t.tab 3 rfl
    exact dctB_ok (He.ba (He.ba (He.ba (He.ba (He.ba (He.ba (He.ba (He.ba c.more).2).2).2).2).2).2).2).1 q1 q2
  m_BY_SIDES := He.glo_ok X G (c.t.d.fact 42 rfl)
  f__flat_row := by
    obtain ⟨f, fd, F, hm⟩ := def_at c X G 0 0 rfl rfl
    exact ⟨f, fd, F, hm, F.binds fun _ _ _ _ _ _ us hl => match us, hl with | [_, _], _ => rfl⟩
  f__flat_sheet := by
    obtain ⟨f, fd, F, hm⟩ := def_at c X G 1 1 rfl rfl
    exact ⟨f, fd, F, hm, F.binds fun _ _ _ _ _ _ us hl => match us, hl with | [_], _ => rfl⟩
  f_sheet_size := by
    obtain ⟨f, fd, F, hm⟩ := def_at c X G 2 2 rfl rfl
    exact ⟨f, fd, F, hm, F.binds fun _ _ _ _ _ _ us hl => match us, hl with | [_], _ => rfl⟩
  f__meeting := by
    obtain ⟨f, fd, F, hm⟩ := def_at c X G 3 3 rfl rfl
    exact ⟨f, fd, F, hm, F.binds fun _ _ _ _ _ _ us hl => match us, hl with | [_, _], _ => rfl⟩
  f__turned_leaf := by
    obtain ⟨f, fd, F, hm⟩ := def_at c X G 4 4 rfl rfl
    exact ⟨f, fd, F, hm, F.binds fun _ _ _ _ _ _ us hl => match us, hl with | [_, _], _ => rfl⟩
  f__turned := by
    obtain ⟨f, fd, F, hm⟩ := def_at c X G 5 5 rfl rfl
    exact ⟨f, fd, F, hm, F.binds fun _ _ _ _ _ _ us hl => match us, hl with | [_, _], _ => rfl⟩
  f__laid_on := by
    obtain ⟨f, fd, F, hm⟩ := def_at c X G 6 6 rfl rfl
    exact ⟨f, fd, F, hm, F.binds fun _ _ _ _ _ _ us hl => match us, hl with | [_, _, _], _ => rfl⟩
  f__folded_across := by
    obtain ⟨f, fd, F, hm⟩ := def_at c X G 7 7 rfl rfl
    exact ⟨f, fd, F, hm, F.binds fun _ _ _ _ _ _ us hl => match us, hl with | [_, _], _ => rfl⟩
  f__folded_down := by
    obtain ⟨f, fd, F, hm⟩ := def_at c X G 8 8 rfl rfl
    exact ⟨f, fd, F, hm, F.binds fun _ _ _ _ _ _ us hl => match us, hl with | [_, _], _ => rfl⟩
  f_states := by
    obtain ⟨f, fd, F, hm⟩ := def_at c X G 9 9 rfl rfl
    exact ⟨f, fd, F, hm, F.binds fun _ _ _ _ _ _ us hl => match us, hl with | [_], _ => rfl⟩
  f_fold := by
    obtain ⟨f, fd, F, hm⟩ := def_at c X G 10 10 rfl rfl
    exact ⟨f, fd, F, hm, F.binds fun _ _ _ _ _ _ us hl => match us, hl with | [_], _ => rfl⟩
  f__law_cell := by
    obtain ⟨f, fd, F, hm⟩ := def_at c X G 11 11 rfl rfl
    exact ⟨f, fd, F, hm, F.binds fun _ _ _ _ _ _ us hl => match us, hl with | [_, _], _ => rfl⟩
  f__law_digits := by
    obtain ⟨f, fd, F, hm⟩ := def_at c X G 12 12 rfl rfl
    exact ⟨f, fd, F, hm, F.binds fun _ _ _ _ _ _ us hl => match us, hl with | [_, _, _], _ => rfl⟩
  f__law_draw := by
    obtain ⟨f, fd, F, hm⟩ := def_at c X G 13 13 rfl rfl
    exact ⟨f, fd, F, hm, F.binds fun _ _ _ _ _ _ us hl => match us, hl with | [_, _], _ => rfl⟩
  f__law_folding := by
    obtain ⟨f, fd, F, hm⟩ := def_at c X G 14 14 rfl rfl
    exact ⟨f, fd, F, hm, F.binds fun _ _ _ _ _ _ us hl => match us, hl with | [_], _ => rfl⟩
  f__law_size := by
    obtain ⟨f, fd, F, hm⟩ := def_at c X G 15 15 rfl rfl
    exact ⟨f, fd, F, hm, F.binds fun _ _ _ _ _ _ us hl => match us, hl with | [_], _ => rfl⟩
  f__law_over := by
    obtain ⟨f, fd, F, hm⟩ := def_at c X G 16 16 rfl rfl
    exact ⟨f, fd, F, hm, F.binds fun _ _ _ _ _ _ us hl => match us, hl with | [_, _], _ => rfl⟩
  f__law_folded := by
    obtain ⟨f, fd, F, hm⟩ := def_at c X G 17 17 rfl rfl
    exact ⟨f, fd, F, hm, F.binds fun _ _ _ _ _ _ us hl => match us, hl with | [_, _], _ => rfl⟩
  f__law_states := by
    obtain ⟨f, fd, F, hm⟩ := def_at c X G 18 18 rfl rfl
    exact ⟨f, fd, F, hm, F.binds fun _ _ _ _ _ _ us hl => match us, hl with | [_], _ => rfl⟩
  f__law_parts := by
    obtain ⟨f, fd, F, hm⟩ := def_at c X G 19 19 rfl rfl
    exact ⟨f, fd, F, hm, F.binds fun _ _ _ _ _ _ us hl => match us, hl with | [_, _], _ => rfl⟩
  f__law_turned_edge := by
    obtain ⟨f, fd, F, hm⟩ := def_at c X G 20 20 rfl rfl
    exact ⟨f, fd, F, hm, F.binds fun _ _ _ _ _ _ us hl => match us, hl with | [_, _], _ => rfl⟩
  f__law_joints := by
    obtain ⟨f, fd, F, hm⟩ := def_at c X G 21 21 rfl rfl
    exact ⟨f, fd, F, hm, F.binds fun _ _ _ _ _ _ us hl => match us, hl with | [_], _ => rfl⟩
  f__law_same := by
    obtain ⟨f, fd, F, hm⟩ := def_at c X G 22 22 rfl rfl
    exact ⟨f, fd, F, hm, F.binds fun _ _ _ _ _ _ us hl => match us, hl with | [_, _], _ => rfl⟩
  f__moved := by
    obtain ⟨f, fd, F, hm⟩ := def_at c X G 23 23 rfl rfl
    exact ⟨f, fd, F, hm, F.binds fun _ _ _ _ _ _ us hl => match us, hl with | [_, _, _], _ => rfl⟩
  f__path := by
    obtain ⟨f, fd, F, hm⟩ := def_at c X G 24 24 rfl rfl
    exact ⟨f, fd, F, hm, F.binds fun _ _ _ _ _ _ us hl => match us, hl with | [_, _], _ => rfl⟩
  f__edge := by
    obtain ⟨f, fd, F, hm⟩ := def_at c X G 25 25 rfl rfl
    exact ⟨f, fd, F, hm, F.binds fun _ _ _ _ _ _ us hl => match us, hl with | [_, _, _], _ => rfl⟩
  f_joints := by
    obtain ⟨f, fd, F, hm⟩ := def_at c X G 26 26 rfl rfl
    exact ⟨f, fd, F, hm, F.binds fun _ _ _ _ _ _ us hl => match us, hl with | [_], _ => rfl⟩
  f_loose_leaves := by
    obtain ⟨f, fd, F, hm⟩ := def_at c X G 27 27 rfl rfl
    exact ⟨f, fd, F, hm, F.binds fun _ _ _ _ _ _ us hl => match us, hl with | [_], _ => rfl⟩
  f_law := by
    obtain ⟨f, fd, F, hm⟩ := def_at c X G 28 28 rfl rfl
    exact ⟨f, fd, F, hm, F.binds fun _ _ _ _ _ _ us hl => match us, hl with | [_], _ => rfl⟩
theorem law_ok (M : Mods w K mg) : Ok1 P w K mg base "law" 9 ["script"] F_law := by
  have o__flat_row : Ok1 P w K mg base "_flat_row" 1 ["columns", "row"] F__flat_row := ok__flat_row M
  have o__flat_sheet : Ok1 P w K mg base "_flat_sheet" 2 ["size"] F__flat_sheet := ok__flat_sheet M
  have o_sheet_size : Ok1 P w K mg base "sheet_size" 1 ["folding"] F_sheet_size := ok_sheet_size M
  have o__meeting : Ok1 P w K mg base "_meeting" 1 ["letter", "many"] F__meeting := ok__meeting M
  have o__turned_leaf : Ok1 P w K mg base "_turned_leaf" 1 ["leaf", "letter"] F__turned_leaf := ok__turned_leaf M
  have o__turned : Ok1 P w K mg base "_turned" 2 ["stack", "letter"] F__turned := ok__turned M
  have o__laid_on : Ok1 P w K mg base "_laid_on" 3 ["over", "under", "letter"] F__laid_on := ok__laid_on M
  have o__folded_across : Ok1 P w K mg base "_folded_across" 4 ["rows", "letter"] F__folded_across := ok__folded_across M
  have o__folded_down : Ok1 P w K mg base "_folded_down" 4 ["rows", "letter"] F__folded_down := ok__folded_down M
  have o_states : Ok1 P w K mg base "states" 5 ["folding"] F_states := ok_states M
  have o_fold : Ok1 P w K mg base "fold" 6 ["folding"] F_fold := ok_fold M
  have o__law_cell : Ok1 P w K mg base "_law_cell" 1 ["script", "k"] F__law_cell := raw__law_cell M
  have o__law_digits : Ok1 P w K mg base "_law_digits" 2 ["script", "first", "last"] F__law_digits := raw__law_digits M o__law_cell
  have o__law_draw : Ok1 P w K mg base "_law_draw" 1 ["box", "many"] F__law_draw := raw__law_draw M
  have o__law_folding : Ok1 P w K mg base "_law_folding" 2 ["box"] F__law_folding := raw__law_folding M o__law_draw
  have o__law_size : Ok1 P w K mg base "_law_size" 1 ["folding"] F__law_size := ok__law_size M
  have o__law_over : Ok1 P w K mg base "_law_over" 1 ["stack", "is_across"] F__law_over := ok__law_over M
  have o__law_folded : Ok1 P w K mg base "_law_folded" 2 ["grid", "letter"] F__law_folded := ok__law_folded M
  have o__law_states : Ok1 P w K mg base "_law_states" 3 ["folding"] F__law_states := ok__law_states M
  have o__law_parts : Ok1 P w K mg base "_law_parts" 1 ["grid", "letter"] F__law_parts := raw__law_parts M
  have o__law_turned_edge : Ok1 P w K mg base "_law_turned_edge" 1 ["edge", "letter"] F__law_turned_edge := raw__law_turned_edge M
  have o__law_joints : Ok1 P w K mg base "_law_joints" 4 ["folding"] F__law_joints := ok__law_joints M
  have o__law_same : Ok1 P w K mg base "_law_same" 1 ["actual", "due"] F__law_same := raw__law_same M
  have o__moved : Ok1 P w K mg base "_moved" 1 ["letter", "place", "half"] F__moved := raw__moved M
  have o__path : Ok1 P w K mg base "_path" 2 ["folding", "panel"] F__path := ok__path M
  have o__edge : Ok1 P w K mg base "_edge" 3 ["folding", "panel", "other"] F__edge := ok__edge M
  have o_joints : Ok1 P w K mg base "joints" 7 ["folding"] F_joints := ok_joints M
  have o_loose_leaves : Ok1 P w K mg base "loose_leaves" 8 ["folding"] F_loose_leaves := ok_loose_leaves M
  have o_law : Ok1 P w K mg base "law" 9 ["script"] F_law := raw_law M o__law_digits o__law_folding o__law_joints o__law_same o_joints o_loose_leaves
  exact o_law
theorem law_at (w : World) (mg : Str → Option Value) (h : Heap) (Y : hkL.says w h) (G : h.Ns mainGlobals mg) : ∃ K : PySem.W.Frag, K.In h ∧ noLst K = true ∧ ∀ b : Heap, K.In b → b.Ns mainGlobals mg → Ok1 PySem.Challenge.rw_gathersheets_k10_edges_exact.prog w K mg b (HandSHeadRun.topDef RR.prog 40).name 9 ["script"] F_law := by
  obtain ⟨K, X, c⟩ := Y
  refine ⟨K, X, (He.ba c.more).1, fun b _ _ => ?_⟩
  have e : (HandSHeadRun.topDef RR.prog 40).name = ("law" : Str) := by kernel_rfl
  rw [e]
  exact law_ok (mods_of c X G)
end K10
end
open PySem PySem.W PySem.Calls PyProof.Rows
set_option maxHeartbeats 0 in
theorem PySem.Challenge.cw_gathersheets_k10_edges_exact_holds : PySem.Challenge.rw_gathersheets_k10_edges_exact.Holds := by
  w_on; o_law
  refine HandSHeadRun.head_any (r := OpenLaw.row PySem.Challenge.rw_gathersheets_k10_edges_exact) (q := view (OpenLaw.row PySem.Challenge.rw_gathersheets_k10_edges_exact).prog [40]) (H := K10.hkL) (ob := K10.obL) (M := 6000) (loose := K10.namesL) (d := HandSHeadRun.topDef (OpenLaw.row PySem.Challenge.rw_gathersheets_k10_edges_exact).prog 40) (kwd := []) K10.obL_eq
    (by kernel_rfl) (fun s => by kernel_rfl) K10.runL (by kernel_rfl) (by kernel_rfl) (by kernel_rfl) (by rfl) (by first | assumption | decide +kernel) (by decide +kernel) ⟨rfl, rfl, rfl, rfl, rfl, by decide +kernel⟩ ?hw ?hc
  case hw => w_witness2
  case hc => exact DL.walk_law (l := PySem.Challenge.rw_gathersheets_k10_edges_exact) (n := 63) (k := 9) (ps := ["script"]) (F := K10.F_law) rfl (by decide) (by kernel_rfl) ⟨rfl, by decide, by decide⟩ rfl K10.law_at fun ns => K10.law_true ns []
