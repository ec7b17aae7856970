import PyProof.Rows.All
import Wide.All
import OpenK.AllK
import Wide.FinOn
import HandS.ForMost
import HandS.Zip
import HandS.Rev
import HandS.RevRange
import HandS.Small
import HandS.Deep
import HandS.Exc
import HandS.More
import HandS.Conv
import HandS.HeadHook4
import KE.KDictKeyed
import HandS.TupAny
import HandS.TupLe
import HandS.TupLen
import HandS.IsInst
import HandS.Style
import HandS.TupMul
import HandS.SortInts
import HandS.RaiseMore
import HandS.NoneIn
import PyProof.ReprRoads
import HandS.TryOnly
import HandS.Words
import KE.GoesEnum
import HandS.WordsDict
import PyProof.ReprBulk
import HandS.Text
import HandS.Dict
import PyProof.ListMulRoad
import HandS.SortKw
import KE.KTupSum
import PyProof.TupleOfSeq
import KE.GoesEnumKw
import PyProof.StrBlock2
import KE.SortData
import KE.DataMinMax
import PyProof.Claim2Refuses
import PyProof.P3In
import HandS.Replace
import PyProof.Rows.StrCountLaw
import PyProof.Rows.StrLawsPart
import HandS.DictComp
import HandS.AnyAll
import HandS.Head0
import HandS.Head1
import HandS.Head2
import HandS.HeadHook1
import HandS.HeadHook2
import HandS.HeadHook3
import HandS.Ends
import HandS.Defaults
import HandS.ExcInit
import HandS.ExcField
import HandS.ExcOwn
import HandS.WordsExc
import KE.KExcIs
import KE.KIsAll
import HandS.ExcInitHot
import HandS.StrMore
import KE.GoesZip
import KE.GoesMore
import KE.KDictZip
import HandS.Zip0
import HandS.FStr
import HandS.ReplaceLit
import HandS.ReplaceList
import HandS.Codes
import PySem.Challenge.RW_gathersheets_k26_many_deeds
set_option Elab.async false
set_option linter.all false
set_option autoImplicit false
set_option maxRecDepth 100000
set_option maxHeartbeats 3999999
namespace DL
open PySem PySem.Spec PyProof.Rows L2
structure KW where
  K : PySem.W.Frag
  w : World
abbrev gX (X : Cx) : KW := ⟨X.K, X.w⟩
/-- data: what never changes any more; ref n: the n-th object of the abstract heap -/
inductive D where
  | non | bl (b : Bool) | int (i : Int) | str (x : Str) | tup (xs : List D) | lst (xs : List D)
  | dk (ks : List Key) (xs : List D) | dt (ks : List (List Key)) (xs : List D)
  | cd (ks : List Str) (xs : List D) | ct (xs : List D)
  | ref (n : Nat) | fn (a : Addr) | ty (n : String)
  deriving Inhabited
/-- an exception: the class, the values of its fields -/
structure AX where
  cls : Str
  fs : List (Str × D)
/-- an object that may change; fz d: it is d for ever; gone: nothing is known -/
inductive AO where
  | lst (xs : List D) | dk (ks : List Key) (xs : List D) | dt (ks : List (List Key)) (xs : List D)
  | fz (d : D) | gone | tab (x : Str) | xd (e dd : Addr) (x : AX) | rng (lo hi : Int) | dx (ks : List D) (ds : List D) | ins (C : Str) (fs : List (Str × D))
abbrev AH := List AO
abbrev AE := List (Option D)
inductive Res (α : Type) where
  | ok (a : α) (h : AH)
  | exc (x : AX) (e : AE) (h : AH)
  | bad
def Res.bind {α β : Type} (r : Res α) (k : α → AH → Res β) : Res β := match r with
  | .ok a h => k a h
  | .exc x e h => .exc x e h
  | .bad => .bad
@[simp] theorem Res.bind_ok {α β : Type} (a : α) (h : AH) (k : α → AH → Res β) : (Res.ok a h).bind k = k a h := rfl
@[simp] theorem Res.bind_exc {α β : Type} (x : AX) (e : AE) (h : AH) (k : α → AH → Res β) : (Res.exc x e h : Res α).bind k = .exc x e h := rfl
@[simp] theorem Res.bind_bad {α β : Type} (k : α → AH → Res β) : (Res.bad : Res α).bind k = .bad := rfl
/-- what must not raise -/
def Res.nox {α : Type} (r : Res α) : Res α := match r with
  | .ok a h => .ok a h
  | _ => .bad
@[simp] theorem Res.nox_ok {α : Type} (a : α) (h : AH) : (Res.ok a h).nox = .ok a h := rfl
abbrev FE := AE → AH → Res D
abbrev LX := List (NestedKey × Addr × V)
abbrev Rx (p : NestedKey × Addr × V) (q : NestedKey × Addr × Value) : Prop := p.1 = q.1 ∧ p.2.1 = q.2.1 ∧ RelV p.2.2 q.2.2
/-- a dict with keys of any depth: what its one object tells -/
def DxOk (w : World) (h : Heap) (a : Addr) (L : LX) : Prop := L.length ≤ sizeLine ∧ (a == sysModules) = false ∧ (∀ p ∈ L, p.1.depth ≤ 8) ∧ ∃ xs : List (NestedKey × Addr × Value), Paired Rx L xs ∧
  ∃ (P : Program) (o : Obj) (es : Array DictEntry) (ep : Nat), h.get? a = some o ∧ o.ExactDict ∧ o.data = .dict es ep ∧ es.toList = xs.map (entryOfKey (nestedKind P w)) ∧ (xs.map (·.1)).Nodup
def DTx (w : World) (a : Addr) (L : LX) : HO := .ext fun h => DxOk w h a L
mutual
/-- the key that the data is -/
def nkD : D → Option NestedKey
  | .non => some .none
  | .bl b => some (.num (if b = true then 1 else 0))
  | .int i => some (.num i)
  | .str x => some (.text x)
  | .tup ds => (nkDs ds).map .tup
  | .ct ds => (nkDs ds).map .tup
  | _ => none
def nkDs : List D → Option (List NestedKey)
  | [] => some []
  | d :: ds => match nkD d, nkDs ds with
    | some k, some ks => some (k :: ks)
    | _, _ => none
end
def FzL (H : Hp) (a : Addr) (vs : List V) : Prop := ∃ o, H a = some (.frz o (.lst vs))
theorem FzL.rd {H : Hp} {a : Addr} {vs : List V} (h : FzL H a vs) : Rd H a (.lst vs) := .inr h
theorem FzL.sq {K : PySem.W.Frag} {H : Hp} {a : Addr} {vs : List V} (h : FzL H a vs) : SqL K H a vs := .inl h.rd
/-- what lasts: tuples and what is frozen -/
def Ext (H H' : Hp) : Prop := (∀ a xs, H a = some (.tup xs) → H' a = some (.tup xs)) ∧ ∀ a o u, H a = some (.frz o u) → H' a = some (.frz o u)
theorem Ext.refl (H : Hp) : Ext H H := ⟨fun _ _ h => h, fun _ _ _ h => h⟩
theorem Ext.trans {H H1 H2 : Hp} (a : Ext H H1) (b : Ext H1 H2) : Ext H H2 := ⟨fun c xs h => b.1 c xs (a.1 c xs h), fun c o u h => b.2 c o u (a.2 c o u h)⟩
theorem Ext.of_same {H H' : Hp} (h : Same H H') : Ext H H' := ⟨fun a xs e => h a _ e, fun a o u e => h a _ e⟩
theorem same_new {H : Hp} {p : Addr} {o : HO} (h : H p = none) : Same H (upd H p o) := fun b x e => by
  rw [upd_ne (ne_of_none e h)]
  exact e
theorem Ext.upd {H : Hp} {p : Addr} {o u : HO} (h : H p = some o) (ht : ∀ xs, o ≠ .tup xs) (hf : ∀ ob v, o ≠ .frz ob v) : Ext H (L2.upd H p u) := by
  refine ⟨fun a xs e => ?_, fun a ob v e => ?_⟩
  · have : a ≠ p := fun q => by subst q; rw [h] at e; exact ht xs (Option.some.inj e)
    rw [upd_ne this]; exact e
  · have : a ≠ p := fun q => by subst q; rw [h] at e; exact hf ob v (Option.some.inj e)
    rw [upd_ne this]; exact e
/-- a tuple that stands in the module, or one whose object is known -/
def CtO (G : KW) (H : Hp) (a : Addr) (vs : List V) : Prop := (∃ (o : Obj) (its : Array Value) (n : Nat), G.K.lookup a = some o ∧ o.cls = .type "tuple" ∧ o.data = .seq its n ∧ its.size ≤ sizeLine ∧ Vals vs its.toList ∧ o.dict = none) ∨ ∃ o : Obj, H a = some (.frz o (.tup vs)) ∧ o.dict = none
theorem CtO.sqt {G : KW} {H : Hp} {a : Addr} {vs : List V} (h : CtO G H a vs) : SqT G.K H a vs := by
  rcases h with ⟨o, its, n, h1, h2, h3, h4, h5, _⟩ | ⟨o, h, _⟩
  · exact .inr ⟨o, its, n, h1, h2, h3, h4, h5⟩
  · exact .inl (.inr ⟨o, h⟩)
theorem CtO.ext {G : KW} {H H' : Hp} (e : Ext H H') {a : Addr} {vs : List V} (h : CtO G H a vs) : CtO G H' a vs := by
  rcases h with h | ⟨o, h, k⟩
  · exact .inl h
  · exact .inr ⟨o, e.2 _ _ _ h, k⟩
section
variable (G : KW) (η : List Addr) (H : Hp)
mutual
inductive Rel : D → V → Prop
  | non : Rel .non .non
  | bl (b : Bool) : Rel (.bl b) (.bl b)
  | int (i : Int) : Rel (.int i) (.int i)
  | str (x : Str) : Rel (.str x) (.str x)
  | tup {a : Addr} {vs : List V} {ds : List D} : H a = some (.tup vs) → RelAll ds vs → Rel (.tup ds) (.ref a)
  | ct {a : Addr} {vs : List V} {ds : List D} : CtO G H a vs → RelAll ds vs → Rel (.ct ds) (.ref a)
  | lst {a : Addr} {vs : List V} {ds : List D} : FzL H a vs → RelAll ds vs → Rel (.lst ds) (.ref a)
  | dk {a : Addr} {o : Obj} {kvs : List (Key × V)} {ks : List Key} {ds : List D} : H a = some (.frz o (.dK kvs)) → kvs.map (·.1) = ks → RelAll ds (kvs.map (·.2)) → Rel (.dk ks ds) (.ref a)
  | dt {a : Addr} {o : Obj} {kvs : List (List Key × V)} {ks : List (List Key)} {ds : List D} : H a = some (.frz o (.dT kvs)) → kvs.map (·.1) = ks → RelAll ds (kvs.map (·.2)) → Rel (.dt ks ds) (.ref a)
  | cd {a : Addr} {ks : List Str} {ds : List D} {vs : List V} : (∀ (i : Nat) z v, ks[i]? = some z → vs[i]? = some v → KDct G.K G.w a z v) → ks.length = vs.length → RelAll ds vs → Rel (.cd ks ds) (.ref a)
  | ref {n : Nat} {a : Addr} : η[n]? = some a → Rel (.ref n) (.ref a)
  | fn (a : Addr) : Rel (.fn a) (.ref a)
  | ty (n : String) : Rel (.ty n) (.ty n)
inductive RelAll : List D → List V → Prop
  | nil : RelAll [] []
  | cons {d : D} {v : V} {ds : List D} {vs : List V} : Rel d v → RelAll ds vs → RelAll (d :: ds) (v :: vs)
end
end
section
variable {G : KW} {η η' : List Addr} {H H' : Hp}
theorem SqT.ext {K : PySem.W.Frag} (e : Ext H H') {a : Addr} {vs : List V} (h : SqT K H a vs) : SqT K H' a vs := by
  rcases h with (h | ⟨o, h⟩) | h
  · exact .inl (.inl (e.1 _ _ h))
  · exact .inl (.inr ⟨o, e.2 _ _ _ h⟩)
  · exact .inr h
theorem FzL.ext (e : Ext H H') {a : Addr} {vs : List V} (h : FzL H a vs) : FzL H' a vs := by
  obtain ⟨o, h⟩ := h
  exact ⟨o, e.2 _ _ _ h⟩
mutual
theorem Rel.ext (g : η <+: η') (e : Ext H H') : ∀ {d : D} {v : V}, Rel G η H d v → Rel G η' H' d v
  | _, _, .non => .non
  | _, _, .bl b => .bl b
  | _, _, .int b => .int b
  | _, _, .str b => .str b
  | _, _, .tup h r => .tup (e.1 _ _ h) (RelAll.ext g e r)
  | _, _, .ct h r => .ct (h.ext e) (RelAll.ext g e r)
  | _, _, .lst h r => .lst (FzL.ext e h) (RelAll.ext g e r)
  | _, _, .dk h k r => .dk (e.2 _ _ _ h) k (RelAll.ext g e r)
  | _, _, .dt h k r => .dt (e.2 _ _ _ h) k (RelAll.ext g e r)
  | _, _, .cd h k r => .cd h k (RelAll.ext g e r)
  | _, _, .ref h => .ref (by
      obtain ⟨t, rfl⟩ := g
      rw [List.getElem?_append_left (List.getElem?_eq_some_iff.mp h).1]
      exact h)
  | _, _, .fn a => .fn a
  | _, _, .ty a => .ty a
theorem RelAll.ext (g : η <+: η') (e : Ext H H') : ∀ {ds : List D} {vs : List V}, RelAll G η H ds vs → RelAll G η' H' ds vs
  | _, _, .nil => .nil
  | _, _, .cons h r => .cons (Rel.ext g e h) (RelAll.ext g e r)
end
theorem RelAll.length : ∀ {ds : List D} {vs : List V}, RelAll G η H ds vs → ds.length = vs.length
  | _, _, .nil => rfl
  | _, _, .cons _ r => congrArg (· + 1) (RelAll.length r)
theorem RelAll.get : ∀ {ds : List D} {vs : List V} {i : Nat} {d : D}, RelAll G η H ds vs → ds[i]? = some d → ∃ v, vs[i]? = some v ∧ Rel G η H d v
  | _, _, i, d, .nil, h => by simp at h
  | _, _, 0, d, .cons h r, e => by simp at e; subst e; exact ⟨_, by simp, h⟩
  | _, _, i + 1, d, .cons h r, e => by
    obtain ⟨v, h1, h2⟩ := RelAll.get (i := i) r (by simpa using e)
    exact ⟨v, by simpa using h1, h2⟩
theorem RelAll.append : ∀ {ds es : List D} {vs us : List V}, RelAll G η H ds vs → RelAll G η H es us → RelAll G η H (ds ++ es) (vs ++ us)
  | _, _, _, _, .nil, h => h
  | _, _, _, _, .cons h r, q => .cons h (RelAll.append r q)
theorem RelAll.set {d : D} {v : V} (h : Rel G η H d v) : ∀ {ds : List D} {vs : List V} (i : Nat), RelAll G η H ds vs → RelAll G η H (ds.set i d) (vs.set i v)
  | _, _, _, .nil => .nil
  | _, _, 0, .cons _ r => .cons h r
  | _, _, i + 1, .cons q r => .cons q (RelAll.set h i r)
theorem RelAll.take : ∀ {ds : List D} {vs : List V} (n : Nat), RelAll G η H ds vs → RelAll G η H (ds.take n) (vs.take n)
  | _, _, 0, _ => .nil
  | _, _, _ + 1, .nil => .nil
  | _, _, n + 1, .cons h r => .cons h (RelAll.take n r)
theorem RelAll.drop : ∀ {ds : List D} {vs : List V} (n : Nat), RelAll G η H ds vs → RelAll G η H (ds.drop n) (vs.drop n)
  | _, _, 0, h => h
  | _, _, _ + 1, .nil => .nil
  | _, _, n + 1, .cons h r => RelAll.drop n r
theorem RelAll.snoc {ds : List D} {vs : List V} {d : D} {v : V} (r : RelAll G η H ds vs) (h : Rel G η H d v) : RelAll G η H (ds ++ [d]) (vs ++ [v]) := r.append (.cons h .nil)
theorem RelAll.reverse : ∀ {ds : List D} {vs : List V}, RelAll G η H ds vs → RelAll G η H ds.reverse vs.reverse
  | _, _, .nil => .nil
  | _, _, .cons h r => by
    rw [List.reverse_cons, List.reverse_cons]
    exact (RelAll.reverse r).snoc h
theorem RelAll.rep {d : D} {v : V} (h : Rel G η H d v) : ∀ n : Nat, RelAll G η H (List.replicate n d) (List.replicate n v)
  | 0 => .nil
  | n + 1 => .cons h (RelAll.rep h n)
theorem RelAll.repL {ds : List D} {vs : List V} (h : RelAll G η H ds vs) : ∀ n : Nat, RelAll G η H (List.replicate n ds).flatten (List.replicate n vs).flatten
  | 0 => .nil
  | n + 1 => h.append (RelAll.repL h n)
end
section
variable (G : KW) (η : List Addr) (H : Hp)
def AOk (a : Addr) : AO → Prop
  | .lst ds => ∃ vs, H a = some (.lst vs) ∧ RelAll G η H ds vs
  | .dk ks ds => ∃ kvs, H a = some (.dK kvs) ∧ kvs.map (·.1) = ks ∧ RelAll G η H ds (kvs.map (·.2))
  | .dt ks ds => ∃ kvs, H a = some (.dT kvs) ∧ kvs.map (·.1) = ks ∧ RelAll G η H ds (kvs.map (·.2))
  | .fz d => (∃ o, H a = some o) ∧ Rel G η H d (.ref a)
  | .gone => ∃ o, H a = some o
  | .rng lo hi => H a = some (.rng lo hi)
  | .dx ks ds => ∃ L : LX, H a = some (DTx G.w a L) ∧ (L.map fun p => some p.1) = ks.map nkD ∧ RelAll G η H ks (L.map fun p => V.ref p.2.1) ∧ RelAll G η H ds (L.map (·.2.2))
  | .ins C fs => ∃ dx vs, H a = some (.ins (He.ga G.K C) dx vs) ∧ vs.map (·.1) = fs.map (·.1) ∧ RelAll G η H (fs.map (·.2)) (vs.map (·.2))
  | .xd _ dd x => a = dd ∧ ∃ vs, H a = some (.xd vs) ∧ vs.map (·.1) = x.fs.map (·.1) ∧ RelAll G η H (x.fs.map (·.2)) (vs.map (·.2))
  | .tab x => a = (He.cT G.K (x, none)).2 ∧ ∃ ps : Array Value, H a = some (.tbl ps) ∧ TriplesOk ps.toList
structure HpOk (ah : AH) : Prop where
  len : η.length = ah.length
  nd : η.Nodup
  ok : ∀ (n : Nat) (a : Addr) (o : AO), η[n]? = some a → ah[n]? = some o → AOk G η H a o
/-- the names' values -/
structure EnvOk (env : AE) (S : L2.St) : Prop where
  len : env.length = S.length
  ok : ∀ (i : Nat) (d : D), env[i]? = some (some d) → ∃ v, S[i]? = some (some v) ∧ Rel G η H d v
end
section
variable {G : KW} {η η' : List Addr} {H H' : Hp} {ah : AH} {env : AE} {S : L2.St}
theorem EnvOk.ext (g : η <+: η') (e : Ext H H') (h : EnvOk G η H env S) : EnvOk G η' H' env S := ⟨h.len, fun i d q => by
  obtain ⟨v, h1, h2⟩ := h.ok i d q
  exact ⟨v, h1, h2.ext g e⟩⟩
theorem EnvOk.set (h : EnvOk G η H env S) (i : Nat) {d : D} {v : V} (r : Rel G η H d v) : EnvOk G η H (env.set i (some d)) (S.set i (some v)) := by
  refine ⟨by simp [h.len], fun j e q => ?_⟩
  by_cases hj : j = i
  · subst hj
    have hl : j < env.length := by
      have := (List.getElem?_eq_some_iff.mp q).1
      simpa using this
    rw [List.getElem?_set_self hl] at q
    cases q
    exact ⟨v, List.getElem?_set_self (by rw [← h.len]; exact hl), r⟩
  · rw [List.getElem?_set_ne (Ne.symm hj)] at q
    obtain ⟨w, h1, h2⟩ := h.ok j e q
    exact ⟨w, by rw [List.getElem?_set_ne (Ne.symm hj)]; exact h1, h2⟩
theorem AOk.keep (g : η <+: η') (s : Same H H') {a : Addr} : ∀ {o : AO}, AOk G η H a o → AOk G η' H' a o
  | .lst ds, ⟨vs, h, r⟩ => ⟨vs, s _ _ h, r.ext g (.of_same s)⟩
  | .dk _ ds, ⟨vs, h, k, r⟩ => ⟨vs, s _ _ h, k, r.ext g (.of_same s)⟩
  | .dt _ ds, ⟨vs, h, k, r⟩ => ⟨vs, s _ _ h, k, r.ext g (.of_same s)⟩
  | .fz d, ⟨⟨o, h⟩, r⟩ => ⟨⟨o, s _ _ h⟩, r.ext g (.of_same s)⟩
  | .gone, ⟨o, h⟩ => ⟨o, s _ _ h⟩
  | .rng _ _, h => s _ _ h
  | .dx _ _, ⟨L, h, k, e, r⟩ => ⟨L, s _ _ h, k, e.ext g (.of_same s), r.ext g (.of_same s)⟩
  | .tab _, ⟨e, ps, h, t⟩ => ⟨e, ps, s _ _ h, t⟩
  | .xd _ _ _, ⟨z, vs, h, e, r⟩ => ⟨z, vs, s _ _ h, e, r.ext g (.of_same s)⟩
  | .ins _ _, ⟨dx, vs, h, e, r⟩ => ⟨dx, vs, s _ _ h, e, r.ext g (.of_same s)⟩
theorem AOk.there {a : Addr} : ∀ {o : AO}, AOk G η H a o → ∃ u, H a = some u
  | .lst ds, ⟨vs, h, r⟩ => ⟨_, h⟩
  | .dk _ ds, ⟨vs, h, k, r⟩ => ⟨_, h⟩
  | .dt _ ds, ⟨vs, h, k, r⟩ => ⟨_, h⟩
  | .fz d, ⟨⟨o, h⟩, r⟩ => ⟨_, h⟩
  | .gone, ⟨o, h⟩ => ⟨_, h⟩
  | .rng _ _, h => ⟨_, h⟩
  | .dx _ _, ⟨L, h, _⟩ => ⟨_, h⟩
  | .tab _, ⟨e, ps, h, t⟩ => ⟨_, h⟩
  | .xd _ _ _, ⟨z, vs, h, e, r⟩ => ⟨_, h⟩
  | .ins _ _, ⟨dx, vs, h, e, r⟩ => ⟨_, h⟩
theorem HpOk.same (h : HpOk G η H ah) (s : Same H H') : HpOk G η H' ah := ⟨h.len, h.nd, fun n a o e1 e2 => (h.ok n a o e1 e2).keep (List.prefix_refl _) s⟩
theorem HpOk.at (h : HpOk G η H ah) {n : Nat} {a : Addr} (e : η[n]? = some a) : ∃ o, ah[n]? = some o ∧ AOk G η H a o := by
  have hl : n < ah.length := by rw [← h.len]; exact (List.getElem?_eq_some_iff.mp e).1
  exact ⟨ah[n], by simp [hl], h.ok n a _ e (by simp [hl])⟩
theorem HpOk.in_there (h : HpOk G η H ah) {a : Addr} (m : a ∈ η) : ∃ u, H a = some u := by
  obtain ⟨n, hn, rfl⟩ := List.mem_iff_getElem.mp m
  obtain ⟨o, _, q⟩ := h.at (n := n) (a := η[n]) (by simp [hn])
  exact q.there
theorem HpOk.fresh (h : HpOk G η H ah) {p : Addr} (hp : H p = none) : p ∉ η := fun m => by
  obtain ⟨u, e⟩ := h.in_there m
  rw [hp] at e; cases e
/-- a new object -/
theorem HpOk.new (h : HpOk G η H ah) {p : Addr} {u : HO} {o : AO} (hp : H p = none) (ok : AOk G (η ++ [p]) (upd H p u) p o) : HpOk G (η ++ [p]) (upd H p u) (ah ++ [o]) := by
  refine ⟨by simp [h.len], ?_, fun n a o' e1 e2 => ?_⟩
  · rw [List.nodup_append]
    refine ⟨h.nd, by simp, fun a ha b hb => ?_⟩
    simp at hb
    subst hb
    rintro rfl
    exact h.fresh hp ha
  · by_cases hn : n < η.length
    · rw [List.getElem?_append_left hn] at e1
      rw [List.getElem?_append_left (by rw [← h.len]; exact hn)] at e2
      exact (h.ok n a o' e1 e2).keep (List.prefix_append _ _) (same_new hp)
    · rw [List.getElem?_append_right (by omega)] at e1
      rw [List.getElem?_append_right (by rw [← h.len]; omega)] at e2
      rw [h.len] at e1
      have h0 : n - ah.length = 0 := by
        have := (List.getElem?_eq_some_iff.mp e1).1
        simp at this
        omega
      rw [h0] at e1 e2
      simp at e1 e2
      subst e1; subst e2
      exact ok
/-- an object is changed -/
theorem HpOk.put (h : HpOk G η H ah) {n : Nat} {a : Addr} {o0 : HO} {u : HO} {o : AO} (ha : η[n]? = some a) (e : H a = some o0) (ht : ∀ xs, o0 ≠ .tup xs) (hf : ∀ ob v, o0 ≠ .frz ob v)
    (ok : AOk G η (upd H a u) a o) : HpOk G η (upd H a u) (ah.set n o) := by
  have E : Ext H (upd H a u) := Ext.upd e ht hf
  have pf := List.prefix_refl η
  refine ⟨by simp [h.len], h.nd, fun m b o' e1 e2 => ?_⟩
  by_cases hm : m = n
  · subst hm
    rw [ha] at e1; cases e1
    have hl : m < ah.length := by
      have := (List.getElem?_eq_some_iff.mp e2).1
      simpa using this
    rw [List.getElem?_set_self hl] at e2
    cases e2
    exact ok
  · rw [List.getElem?_set_ne (Ne.symm hm)] at e2
    have hab : b ≠ a := fun q => by
      subst q
      exact hm ((List.getElem_inj h.nd).mp (((List.getElem?_eq_some_iff.mp e1).2).trans ((List.getElem?_eq_some_iff.mp ha).2).symm))
    have k := h.ok m b o' e1 e2
    cases o' with
    | lst ds => obtain ⟨vs, q, r⟩ := k; exact ⟨vs, by rw [upd_ne hab]; exact q, r.ext pf E⟩
    | dk ks ds => obtain ⟨vs, q, z, r⟩ := k; exact ⟨vs, by rw [upd_ne hab]; exact q, z, r.ext pf E⟩
    | dt ks ds => obtain ⟨vs, q, z, r⟩ := k; exact ⟨vs, by rw [upd_ne hab]; exact q, z, r.ext pf E⟩
    | fz d => obtain ⟨⟨ob, q⟩, r⟩ := k; exact ⟨⟨ob, by rw [upd_ne hab]; exact q⟩, r.ext pf E⟩
    | gone => obtain ⟨ob, q⟩ := k; exact ⟨ob, by rw [upd_ne hab]; exact q⟩
    | rng lo hi => exact (show upd _ _ _ _ = _ by rw [upd_ne hab]; exact k)
    | dx ks ds => obtain ⟨L, q, kk, e, r⟩ := k; exact ⟨L, by rw [upd_ne hab]; exact q, kk, e.ext pf E, r.ext pf E⟩
    | tab p => obtain ⟨e, ps, q, t⟩ := k; exact ⟨e, ps, by rw [upd_ne hab]; exact q, t⟩
    | xd b dd x => obtain ⟨z, vs, q, e, r⟩ := k; exact ⟨z, vs, by rw [upd_ne hab]; exact q, e, r.ext pf E⟩
    | ins C fs => obtain ⟨dx, vs, q, e, r⟩ := k; exact ⟨dx, vs, by rw [upd_ne hab]; exact q, e, r.ext pf E⟩
end
structure Mv (η : List Addr) (H : Hp) (η' : List Addr) (H' : Hp) : Prop where
  pre : η <+: η'
  ext : Ext H H'
  new : ∀ a, a ∈ η' → a ∈ η ∨ H a = none
  frm : ∀ a u, H a = some u → a ∉ η → H' a = some u
  live : ∀ a u, H a = some u → ∃ u', H' a = some u'
section
variable {G : KW} {η η1 η' : List Addr} {H H1 H' : Hp}
theorem Mv.refl : Mv η H η H := ⟨List.prefix_refl _, Ext.refl _, fun _ h => .inl h, fun _ _ h _ => h, fun _ u h => ⟨u, h⟩⟩
theorem Mv.trans (m : Mv η H η1 H1) (k : Mv η1 H1 η' H') : Mv η H η' H' where
  pre := m.pre.trans k.pre
  ext := m.ext.trans k.ext
  new := fun a h => by
    rcases k.new a h with q | q
    · exact m.new a q
    · cases e : H a with
      | none => exact .inr rfl
      | some u => obtain ⟨u', z⟩ := m.live a u e; rw [q] at z; cases z
  frm := fun a u e n => k.frm a u (m.frm a u e n) fun z => (m.new a z).elim n fun q => by rw [e] at q; cases q
  live := fun a u e => by
    obtain ⟨u1, e1⟩ := m.live a u e
    exact k.live a u1 e1
theorem Mv.same (s : Same H H') : Mv η H η H' := ⟨List.prefix_refl _, .of_same s, fun _ h => .inl h, fun a u h _ => s a u h, fun a u h => ⟨u, s a u h⟩⟩
/-- an object of ours is changed -/
theorem Mv.upd {a : Addr} {o u : HO} (m : a ∈ η) (h : H a = some o) (ht : ∀ xs, o ≠ .tup xs) (hf : ∀ ob v, o ≠ .frz ob v) : Mv η H η (L2.upd H a u) where
  pre := List.prefix_refl _
  ext := Ext.upd h ht hf
  new := fun _ h => .inl h
  frm := fun b v e n => by rw [upd_ne (fun z => n (by rw [z]; exact m))]; exact e
  live := fun b v e => by
    by_cases hb : b = a
    · subst hb; exact ⟨u, upd_same⟩
    · exact ⟨v, by rw [upd_ne hb]; exact e⟩
/-- a new object of ours -/
theorem Mv.made {a : Addr} {u : HO} (h : H a = none) : Mv η H (η ++ [a]) (L2.upd H a u) where
  pre := List.prefix_append _ _
  ext := .of_same (same_new h)
  new := fun b m => by
    rcases List.mem_append.mp m with q | q
    · exact .inl q
    · simp at q; subst q; exact .inr h
  frm := fun b v e n => same_new h b v e
  live := fun b v e => ⟨v, same_new h b v e⟩
/-- an object that is not ours (yet), new since the base, is changed -/
theorem Mv.side {a : Addr} {o u : HO} (m : Mv η H η1 H1) (h0 : H a = none) (h : H1 a = some o) : Mv η H η1 (L2.upd H1 a u) where
  pre := m.pre
  ext := ⟨fun b xs e => by rw [upd_ne (ne_of_none e h0)]; exact m.ext.1 b xs e, fun b ob v e => by rw [upd_ne (ne_of_none e h0)]; exact m.ext.2 b ob v e⟩
  new := m.new
  frm := fun b v e n => by rw [upd_ne (ne_of_none e h0)]; exact m.frm b v e n
  live := fun b v e => by rw [upd_ne (ne_of_none e h0)]; exact m.live b v e
theorem HpOk.side {a : Addr} {o u : HO} {ah : AH} (p : HpOk G η H ah) (n : a ∉ η) (h : H a = some o) (ht : ∀ xs, o ≠ .tup xs) (hf : ∀ ob v, o ≠ .frz ob v) : HpOk G η (L2.upd H a u) ah := by
  have E : Ext H (L2.upd H a u) := Ext.upd h ht hf
  have pf := List.prefix_refl η
  refine ⟨p.len, p.nd, fun m b o' e1 e2 => ?_⟩
  have hb : b ≠ a := fun z => n (by rw [← z]; exact List.mem_of_getElem? e1)
  have k := p.ok m b o' e1 e2
  cases o' with
  | lst ds => obtain ⟨vs, q, r⟩ := k; exact ⟨vs, by rw [upd_ne hb]; exact q, r.ext pf E⟩
  | dk ks ds => obtain ⟨vs, q, z, r⟩ := k; exact ⟨vs, by rw [upd_ne hb]; exact q, z, r.ext pf E⟩
  | dt ks ds => obtain ⟨vs, q, z, r⟩ := k; exact ⟨vs, by rw [upd_ne hb]; exact q, z, r.ext pf E⟩
  | fz d => obtain ⟨⟨ob, q⟩, r⟩ := k; exact ⟨⟨ob, by rw [upd_ne hb]; exact q⟩, r.ext pf E⟩
  | gone => obtain ⟨ob, q⟩ := k; exact ⟨ob, by rw [upd_ne hb]; exact q⟩
  | rng lo hi => exact (show upd _ _ _ _ = _ by rw [upd_ne hb]; exact k)
  | dx ks ds => obtain ⟨L, q, kk, e, r⟩ := k; exact ⟨L, by rw [upd_ne hb]; exact q, kk, e.ext pf E, r.ext pf E⟩
  | tab p => obtain ⟨e, ps, q, t⟩ := k; exact ⟨e, ps, by rw [upd_ne hb]; exact q, t⟩
  | xd b dd x => obtain ⟨z, vs, q, e, r⟩ := k; exact ⟨z, vs, by rw [upd_ne hb]; exact q, e, r.ext pf E⟩
  | ins C fs => obtain ⟨dx, vs, q, e, r⟩ := k; exact ⟨dx, vs, by rw [upd_ne hb]; exact q, e, r.ext pf E⟩
theorem Mv.fresh {d : Option Addr} (m : Mv η H η1 H1) (h : ∀ dd, d = some dd → H1 dd = none) : ∀ dd, d = some dd → H dd = none := fun dd e => by
  cases q : H dd with
  | none => rfl
  | some u =>
    obtain ⟨u', z⟩ := m.live dd u q
    rw [h dd e] at z
    cases z
/-- an object that stands becomes ours -/
theorem HpOk.add {a : Addr} {o : AO} {ah : AH} (p : HpOk G η H ah) (n : a ∉ η) (ok : AOk G (η ++ [a]) H a o) : HpOk G (η ++ [a]) H (ah ++ [o]) := by
  refine ⟨by simp [p.len], ?_, fun m b o' e1 e2 => ?_⟩
  · rw [List.nodup_append]
    refine ⟨p.nd, by simp, fun c hc b hb => ?_⟩
    simp at hb
    subst hb
    rintro rfl
    exact n hc
  · by_cases hn : m < η.length
    · rw [List.getElem?_append_left hn] at e1
      rw [List.getElem?_append_left (by rw [← p.len]; exact hn)] at e2
      exact (p.ok m b o' e1 e2).keep (List.prefix_append _ _) (Same.refl _)
    · rw [List.getElem?_append_right (by omega)] at e1
      rw [List.getElem?_append_right (by rw [← p.len]; omega)] at e2
      rw [p.len] at e1
      have h0 : m - ah.length = 0 := by
        have := (List.getElem?_eq_some_iff.mp e1).1
        simp at this
        omega
      rw [h0] at e1 e2
      simp at e1 e2
      subst e1; subst e2
      exact ok
/-- nothing more is known of an object -/
theorem HpOk.lose {ah : AH} (p : HpOk G η H ah) (n : Nat) : HpOk G η H (ah.set n .gone) := by
  refine ⟨by rw [List.length_set]; exact p.len, p.nd, fun m a o e1 e2 => ?_⟩
  by_cases h : m = n
  · subst h
    obtain ⟨o2, z, k⟩ := p.at e1
    have hl : m < ah.length := (List.getElem?_eq_some_iff.mp z).1
    rw [List.getElem?_set_self hl] at e2
    cases e2
    exact k.there
  · rw [List.getElem?_set_ne (Ne.symm h)] at e2
    exact p.ok m a o e1 e2
theorem Rel.mv {d : D} {v : V} (r : Rel G η H d v) (m : Mv η H η' H') : Rel G η' H' d v := r.ext m.pre m.ext
theorem RelAll.mv {d : List D} {v : List V} (r : RelAll G η H d v) (m : Mv η H η' H') : RelAll G η' H' d v := r.ext m.pre m.ext
theorem EnvOk.mv {env : AE} {S : L2.St} (r : EnvOk G η H env S) (m : Mv η H η' H') : EnvOk G η' H' env S := r.ext m.pre m.ext
end
/-- what is wanted of an exception -/
abbrev XW := WX
def noW : XW := fun _ _ _ _ => False
section
variable (G : KW) (W : XW)
/-- an exception's object: its own dict holds the fields -/
def ExcOk (η : List Addr) (H : Hp) (x : AX) (d : Option Addr) : Prop := ∃ (dd : Addr) (vs : List (Str × V)), d = some dd ∧ dd ∉ η ∧ H dd = some (.xd vs) ∧ vs.map (·.1) = x.fs.map (·.1) ∧ RelAll G η H (x.fs.map (·.2)) (vs.map (·.2))
/-- what stands behind a reading -/
def Post {α : Type} (η : List Addr) (H : Hp) (r : Res α) (Q : α → List Addr → Hp → AH → Prop) : Prop := match r with
  | .ok d ah' => ∀ η' H', Mv η H η' H' → HpOk G η' H' ah' → Q d η' H' ah'
  | .exc x env' ah' => ∀ η' H' d S', Mv η H η' H' → HpOk G η' H' ah' → ExcOk G η' H' x d → (∀ dd, d = some dd → H dd = none) → EnvOk G η' H' env' S' → W (.ref (He.ga G.K x.cls)) d S' H'
  | .bad => False
/-- behind: the value is told -/
def QV (Q : VK) : D → List Addr → Hp → AH → Prop := fun d η H _ => ∀ v, Rel G η H d v → Q v H
end
section
variable {G : KW} {W : XW}
theorem Post.imp {α : Type} {η η1 : List Addr} {H H1 : Hp} {r : Res α} {Q Q' : α → List Addr → Hp → AH → Prop} (h : Post G W η H r Q) (m : Mv η H η1 H1) (k : ∀ d η' H' ah', Mv η1 H1 η' H' → HpOk G η' H' ah' → Q d η' H' ah' → Q' d η' H' ah') :
    Post G W η1 H1 r Q' := by
  cases r with
  | ok d ah' => exact fun η' H' m' p => k d η' H' ah' m' p (h η' H' (m.trans m') p)
  | exc x env' ah' => exact fun η' H' d S' m' p q n => h η' H' d S' (m.trans m') p q (m.fresh n)
  | bad => exact h
theorem Post.imp0 {α : Type} {η : List Addr} {H : Hp} {r : Res α} {Q Q' : α → List Addr → Hp → AH → Prop} (h : Post G W η H r Q) (k : ∀ d η' H' ah', Mv η H η' H' → HpOk G η' H' ah' → Q d η' H' ah' → Q' d η' H' ah') :
    Post G W η H r Q' := h.imp Mv.refl k
theorem Post.mono {α : Type} {η η1 : List Addr} {H H1 : Hp} {r : Res α} {Q : α → List Addr → Hp → AH → Prop} (h : Post G W η H r Q) (m : Mv η H η1 H1) : Post G W η1 H1 r Q := h.imp m fun _ _ _ _ _ _ q => q
theorem Post.bind {α β : Type} {η : List Addr} {H : Hp} {r : Res α} {k : α → AH → Res β} {Q : β → List Addr → Hp → AH → Prop} (h : Post G W η H (r.bind k) Q) :
    Post G W η H r fun d η' H' ah' => Post G W η' H' (k d ah') Q := by
  cases r with
  | ok d ah' => exact fun η' H' m p => h.mono m
  | exc x env' ah' => exact h
  | bad => exact h
/-- .. the rest stays told from the base -/
theorem Post.bindB {α β : Type} {η η1 : List Addr} {H H1 : Hp} {r : Res α} {k : α → AH → Res β} {Q : β → List Addr → Hp → AH → Prop} (h : Post G W η1 H1 (r.bind k) Q) (m : Mv η1 H1 η H) :
    Post G W η H r fun d _ _ ah' => Post G W η1 H1 (k d ah') Q := by
  cases r with
  | ok d ah' => exact fun η' H' _ p => h
  | exc x env' ah' => exact fun η' H' d S' m' p q n => h η' H' d S' (m.trans m') p q (m.fresh n)
  | bad => exact h
theorem Post.at {α : Type} {η : List Addr} {H : Hp} {d : α} {ah : AH} {Q : α → List Addr → Hp → AH → Prop} (h : Post G W η H (.ok d ah) Q) (p : HpOk G η H ah) : Q d η H ah := h η H Mv.refl p
theorem Post.nox {α : Type} {W' : XW} {η : List Addr} {H : Hp} {r : Res α} {Q : α → List Addr → Hp → AH → Prop} (h : Post G W η H r.nox Q) : Post G W' η H r Q := by
  cases r with
  | ok d ah' => exact h
  | exc x env' ah' => exact h.elim
  | bad => exact h
end
/-- an expression, by its function -/
def SJ (G : KW) (W : XW) (f : FE) : TE := fun S H Q => ∃ (env : AE) (ah : AH) (η : List Addr), EnvOk G η H env S ∧ HpOk G η H ah ∧ Post G W η H (f env ah) (QV G Q)
/-- weaken a reading -/
theorem PE.imp {X : Cx} {e : Expr} {t t' : TE} (h : PE X e t) (k : ∀ S H Q, t' S H Q → t S H Q) : PE X e t' := ⟨fun pins s σ H Q I q => h.run pins s σ H Q I (k σ H Q q)⟩
theorem PT.imp {X : Cx} {e : Expr} {t t' : TT} (h : PT X e t) (k : ∀ S H Q, t' S H Q → t S H Q) : PT X e t' := ⟨fun pins s σ H Q I q => h.run pins s σ H Q I (k σ H Q q)⟩
theorem PA.imp {X : Cx} {e : List Expr} {t t' : TA} (h : PA X e t) (k : ∀ S H Q, t' S H Q → t S H Q) : PA X e t' := ⟨fun pos pins s σ H Q I q => h.run pos pins s σ H Q I (k σ H Q q)⟩
theorem PS.imp {X : Cx} {e : Stmt} {t t' : TS} (h : PS X e t) (k : ∀ D S H, t' D S H → t D S H) : PS X e t' := ⟨fun pins s σ H D I q => h.run pins s σ H D I (k D σ H q)⟩
theorem PSs.imp {X : Cx} {e : List Stmt} {t t' : TS} (h : PSs X e t) (k : ∀ D S H, t' D S H → t D S H) : PSs X e t' := ⟨fun pins s σ H D I q => h.run pins s σ H D I (k D σ H q)⟩
theorem PI.imp {X : Cx} {tg e : Expr} {t t' : TI} (h : PI X tg e t) (k : ∀ S H R, t' S H R → t S H R) : PI X tg e t' := ⟨fun pins s σ H R I q => h.run pins s σ H R I (k σ H R q)⟩
theorem PG.imp {X : Cx} {e : Expr} {t t' : TG} (h : PG X e t) (k : ∀ v S H Q, t' v S H Q → t v S H Q) : PG X e t' := ⟨fun pins s σ H v u Q I r q => h.run pins s σ H v u Q I r (k v σ H Q q)⟩
theorem PGs.imp {X : Cx} {e : List Expr} {t t' : TGs} (h : PGs X e t) (k : ∀ v S H Q, t' v S H Q → t v S H Q) : PGs X e t' := ⟨fun pins s σ H v u Q I r q => h.run pins s σ H v u Q I r (k v σ H Q q)⟩
theorem PTs.imp {X : Cx} {e : List Expr} {t t' : TT} (h : PTs X e t) (k : ∀ S H Q, t' S H Q → t S H Q) : PTs X e t' := ⟨fun pins s σ H Q I q => h.run pins s σ H Q I (k σ H Q q)⟩
/-- the value's list (dict) is frozen behind an expression, where that is wanted -/
theorem pe_fz {X : Cx} {e : Expr} {t : TE} (h : PE X e t) : PE X e fun S H Q => t S H fun v H1 => Q v H1 ∨ ∃ a u, v = .ref a ∧ H1 a = some u ∧ Mut (some u) ∧ ∀ od, Q v (upd H1 a (.frz od u)) := by
  refine ⟨fun pins s σ H Q I q => ?_⟩
  refine thn (h.run pins s σ H _ I q) fun w s1 ⟨v, H1, I1, r1, q1⟩ => ?_
  rcases q1 with q1 | ⟨a, u, rfl, ha, hm, q1⟩
  · exact ⟨v, H1, I1, r1, q1⟩
  · obtain ⟨od, I2⟩ := I1.lock ha hm
    exact ⟨.ref a, _, I2, r1, q1 od⟩
end DL
namespace DL
open PySem PySem.Spec PyProof.Rows L2
abbrev SX (X : Cx) (W : XW) (f : FE) : TE := SJ (gX X) W f
/-- wanted, or wanted behind a freeze -/
def QF (Q : VK) : VK := fun v H1 => Q v H1 ∨ ∃ a u, v = .ref a ∧ H1 a = some u ∧ Mut (some u) ∧ ∀ od, Q v (upd H1 a (.frz od u))
/-- a sequence's items; true: a tuple -/
def seqD (ah : AH) : D → Option (Bool × List D)
  | .tup ds => some (true, ds)
  | .ct ds => some (true, ds)
  | .lst ds => some (false, ds)
  | .ref n => match ah[n]? with
    | some (.lst ds) => some (false, ds)
    | some (.fz (.lst ds)) => some (false, ds)
    | _ => none
  | _ => none
def keyD : D → Option Key
  | .int i => some (.inl i)
  | .str x => some (.inr x)
  | _ => none
def keysL : List D → Option (List Key)
  | [] => some []
  | d :: ds => match keyD d, keysL ds with
    | some k, some ks => some (k :: ks)
    | _, _ => none
def dkD (ah : AH) : D → Option (List Key × List D)
  | .dk ks xs => some (ks, xs)
  | .ref n => match ah[n]? with
    | some (.dk ks xs) => some (ks, xs)
    | some (.fz (.dk ks xs)) => some (ks, xs)
    | _ => none
  | _ => none
def dtD (ah : AH) : D → Option (List (List Key) × List D)
  | .dt ks xs => some (ks, xs)
  | .ref n => match ah[n]? with
    | some (.dt ks xs) => some (ks, xs)
    | some (.fz (.dt ks xs)) => some (ks, xs)
    | _ => none
  | _ => none
def lkD {κ : Type} [DecidableEq κ] : List κ → List D → κ → Option D
  | k :: ks, d :: ds, q => if k = q then some d else lkD ks ds q
  | _, _, _ => none
def hasD {κ : Type} [DecidableEq κ] (ks : List κ) (q : κ) : Bool := ks.any fun k => decide (k = q)
/-- the values behind d[q] = e -/
def ptV {κ : Type} [DecidableEq κ] : List κ → List D → κ → D → List D
  | k :: ks, d :: ds, q, e => (if k = q then e else d) :: ptV ks ds q e
  | _, _, _, _ => []
def ptD {κ : Type} [DecidableEq κ] (ks : List κ) (ds : List D) (q : κ) (e : D) : List κ × List D :=
  if hasD ks q then (ks, ptV ks ds q e) else (ks ++ [q], ds ++ [e])
section
variable {G : KW} {η : List Addr} {H : Hp} {ah : AH} {d : D} {v : V}
theorem seq_rel {b : Bool} {ds : List D} (p : HpOk G η H ah) (r : Rel G η H d v) (e : seqD ah d = some (b, ds)) :
    ∃ a vs, v = .ref a ∧ RelAll G η H ds vs ∧ (b = true → SqT G.K H a vs) ∧ (b = false → Rd H a (.lst vs)) := by
  cases r with
  | tup h r => cases e; exact ⟨_, _, rfl, r, (fun _ => .inl (.inl h)), fun z => Bool.noConfusion z⟩
  | ct h r => cases e; exact ⟨_, _, rfl, r, (fun _ => h.sqt), fun z => Bool.noConfusion z⟩
  | lst h r => cases e; exact ⟨_, _, rfl, r, (fun z => Bool.noConfusion z), fun _ => h.rd⟩
  | ref hn =>
    obtain ⟨o, ho, k⟩ := p.at hn
    simp only [seqD, ho] at e
    cases o with
    | lst xs => cases e; obtain ⟨vs, h1, h2⟩ := k; exact ⟨_, vs, rfl, h2, (fun z => Bool.noConfusion z), fun _ => .inl h1⟩
    | fz d =>
      cases d with
      | lst xs => cases e; obtain ⟨_, h2⟩ := k; cases h2 with | lst h r => exact ⟨_, _, rfl, r, (fun z => Bool.noConfusion z), fun _ => h.rd⟩
      | _ => cases e
    | _ => cases e
  | _ => cases e
theorem keyD_rel {k : Key} (r : Rel G η H d v) (e : keyD d = some k) : v = kV k := by
  cases r <;> cases e <;> rfl
theorem keysL_rel : ∀ {ds : List D} {vs : List V} {ks : List Key}, RelAll G η H ds vs → keysL ds = some ks → vs = ks.map kV
  | _, _, _, .nil, e => by cases e; rfl
  | d :: ds, _, ks, .cons h r, e => by
    simp only [keysL] at e
    split at e
    · rename_i k ks' h1 h2
      cases e
      rw [List.map_cons, keyD_rel h h1, ← keysL_rel r h2]
    · cases e
theorem lk_some {κ : Type} [DecidableEq κ] : ∀ {kvs : List (κ × V)} {ks : List κ} {ds : List D} {q : κ} {e : D}, kvs.map (·.1) = ks → RelAll G η H ds (kvs.map (·.2)) → lkD ks ds q = some e → ∃ v, valV kvs q = some v ∧ Rel G η H e v
  | [], _, _, _, _, hk, r, h => by subst hk; cases r; cases h
  | (k, w) :: kvs, _, _, q, e, hk, r, h => by
    subst hk
    cases r with
    | cons h1 r =>
      simp only [List.map_cons, lkD] at h
      by_cases e1 : k = q
      · rw [if_pos e1] at h
        cases h
        exact ⟨w, valV_pos (p := (k, w)) e1, h1⟩
      · rw [if_neg e1] at h
        rw [valV_neg (p := (k, w)) e1]
        exact lk_some rfl r h
theorem lk_none {κ : Type} [DecidableEq κ] : ∀ {kvs : List (κ × V)} {ks : List κ} {ds : List D} {q : κ}, kvs.map (·.1) = ks → RelAll G η H ds (kvs.map (·.2)) → lkD ks ds q = none → valV kvs q = none
  | [], _, _, _, hk, r, h => rfl
  | (k, w) :: kvs, _, _, q, hk, r, h => by
    subst hk
    cases r with
    | cons h1 r =>
      simp only [List.map_cons, lkD] at h
      by_cases e1 : k = q
      · rw [if_pos e1] at h; cases h
      · rw [if_neg e1] at h
        rw [valV_neg (p := (k, w)) e1]
        exact lk_none rfl r h
theorem has_any {κ : Type} [DecidableEq κ] {kvs : List (κ × V)} {ks : List κ} (hk : kvs.map (·.1) = ks) (q : κ) : (kvs.any fun kv => decide (kv.1 = q)) = hasD ks q := by
  subst hk
  unfold hasD
  rw [List.any_map]
  rfl
theorem ptV_rel {κ : Type} [DecidableEq κ] {q : κ} {e : D} {w : V} (h : Rel G η H e w) : ∀ {kvs : List (κ × V)} {ds : List D}, RelAll G η H ds (kvs.map (·.2)) →
    RelAll G η H (ptV (kvs.map (·.1)) ds q e) ((kvs.map (fun kv => if kv.1 = q then (kv.1, w) else kv)).map (·.2))
  | [], _, r => by cases r; exact .nil
  | (k, u) :: kvs, _, r => by
    cases r with
    | cons h1 r =>
      simp only [List.map_cons, ptV]
      refine .cons ?_ (ptV_rel h r)
      by_cases e1 : k = q
      · rw [if_pos e1, if_pos e1]; exact h
      · rw [if_neg e1, if_neg e1]; exact h1
theorem pt_rel {κ : Type} [DecidableEq κ] {q : κ} {e : D} {w : V} {kvs : List (κ × V)} {ks : List κ} {ds : List D} (h : Rel G η H e w) (hk : kvs.map (·.1) = ks) (r : RelAll G η H ds (kvs.map (·.2))) :
    (putK kvs q w).map (·.1) = (ptD ks ds q e).1 ∧ RelAll G η H (ptD ks ds q e).2 ((putK kvs q w).map (·.2)) := by
  unfold putK ptD
  rw [has_any hk q]
  by_cases c : hasD ks q = true
  · rw [if_pos c, if_pos c]
    subst hk
    refine ⟨?_, ptV_rel h r⟩
    rw [List.map_map]
    refine List.map_congr_left fun kv _ => ?_
    show (if kv.1 = q then (kv.1, w) else kv).1 = kv.1
    split <;> rfl
  · rw [if_neg c, if_neg c]
    subst hk
    exact ⟨by simp, by rw [List.map_append]; exact r.append (.cons h .nil)⟩
end
theorem at_rel {G : KW} {η : List Addr} {H : Hp} {ds : List D} {vs : List V} {i : Int} {d : D} (r : RelAll G η H ds vs) (e : atI ds i = some d) : ∃ v, atI vs i = some v ∧ Rel G η H d v := by
  unfold atI at e ⊢
  rw [← r.length]
  cases h : ixN ds.length i with
  | none => rw [h] at e; cases e
  | some j =>
    rw [h] at e
    exact r.get (i := j) e
section
variable {G : KW} {W : XW} {η : List Addr} {H : Hp} {ah : AH} {Q : VK}
theorem post_val {d : D} {v : V} (p : HpOk G η H ah) (r : Rel G η H d v) (h : Post G W η H (.ok d ah) (QV G Q)) : QF Q v H := .inl (h.at p v r)
theorem post_same {d : D} {v : V} {H' : Hp} (p : HpOk G η H ah) (s : Same H H') (r : Rel G η H' d v) (h : Post G W η H (.ok d ah) (QV G Q)) : Q v H' :=
  h η H' (.same s) (p.same s) v r
theorem post_tup {ds : List D} {vs : List V} {a : Addr} (p : HpOk G η H ah) (r : RelAll G η H ds vs) (h : Post G W η H (.ok (.tup ds) ah) (QV G Q)) (ha : H a = none) : QF Q (.ref a) (upd H a (.tup vs)) :=
  .inl (post_same p (same_new ha) (.tup upd_same (r.mv (.same (same_new ha)))) h)
theorem post_fz {ds : List D} {vs : List V} {a : Addr} (p : HpOk G η H ah) (r : RelAll G η H ds vs) (h : Post G W η H (.ok (.lst ds) ah) (QV G Q)) (ha : H a = none) : QF Q (.ref a) (upd H a (.lst vs)) := by
  refine .inr ⟨a, .lst vs, rfl, upd_same, trivial, fun od => ?_⟩
  rw [upd_upd]
  exact post_same p (same_new ha) (.lst ⟨od, upd_same⟩ (r.mv (.same (same_new ha)))) h
/-- a new list that will change -/
theorem post_mut {ds : List D} {vs : List V} {a : Addr} (p : HpOk G η H ah) (r : RelAll G η H ds vs) (h : Post G W η H (.ok (.ref ah.length) (ah ++ [.lst ds])) (QV G Q)) (ha : H a = none) : QF Q (.ref a) (upd H a (.lst vs)) := by
  have m : Mv η H (η ++ [a]) (upd H a (.lst vs)) := .made ha
  refine .inl (h (η ++ [a]) _ m (p.new ha ⟨vs, upd_same, r.mv m⟩) _ (.ref ?_))
  rw [← p.len, List.getElem?_append_right (Nat.le_refl _)]
  simp
end
def iC (d : D) : FE := fun _ ah => .ok d ah
def iVar (i : Nat) : FE := fun env ah => match env[i]? with
  | some (some d) => .ok d ah
  | _ => .bad
def iBin (o : D → D → AH → Res D) (fa fb : FE) : FE := fun env ah => (fa env ah).bind fun x ah1 => (fb env ah1).bind fun y ah2 => o x y ah2
def iUn (o : D → AH → Res D) (fa : FE) : FE := fun env ah => (fa env ah).bind fun x ah1 => o x ah1
/-- a two-place rule serves an operation -/
def OpOk (G : KW) (W : XW) (r : R2) (o : D → D → AH → Res D) : Prop :=
  ∀ (η : List Addr) (H : Hp) (ah : AH) (x y : D) (v u : V) (Q : VK), HpOk G η H ah → Rel G η H x v → Rel G η H y u → Post G W η H (o x y ah) (QV G Q) → r v u H (QF Q)
def UnOk (G : KW) (W : XW) (r : V → Hp → VK → Prop) (o : D → AH → Res D) : Prop :=
  ∀ (η : List Addr) (H : Hp) (ah : AH) (x : D) (v : V) (Q : VK), HpOk G η H ah → Rel G η H x v → Post G W η H (o x ah) (QV G Q) → r v H (QF Q)
section
variable {X : Cx} {W : XW} {a b e : Expr} {fa fb f : FE} {pos : Pos}
theorem j_int {i : Int} {j : Nat} : PE X (.Constant (.int i) j pos) (SX X W (iC (.int i))) := PE.imp pe_int fun S H Q ⟨env, ah, η, e, p, h⟩ => h.at p _ (.int i)
theorem j_str {x : Str} {j : Nat} (y : Str) (hxy : x = y) : PE X (.Constant (.str x) j pos) (SX X W (iC (.str y))) := PE.imp pe_str fun S H Q ⟨env, ah, η, e, p, h⟩ => h.at p _ (by rw [hxy]; exact .str y)
theorem j_bl {x : Bool} {j : Nat} : PE X (.Constant (.bool x) j pos) (SX X W (iC (.bl x))) := PE.imp pe_bl fun S H Q ⟨env, ah, η, e, p, h⟩ => h.at p _ (.bl x)
theorem j_non {j : Nat} : PE X (.Constant .none j pos) (SX X W (iC .non)) := PE.imp pe_non fun S H Q ⟨env, ah, η, e, p, h⟩ => h.at p _ .non
theorem j_var (i : Nat) {x : Str} (hN : X.N[i]? = some x := by rfl) (hv : Vis X.env.scope x := by first | exact Or.inl rfl | exact Or.inr (Or.inl rfl) | exact Or.inr (Or.inr rfl)) (hd : (x == ("__debug__" : Str)) = false := by decide)
    (hcd : (x == ("__classdict__" : Str)) = false := by decide) : PE X (.Name x pos) (SX X W (iVar i)) := PE.imp (pe_var hN hv hd hcd) fun S H Q ⟨env, ah, η, e, p, h⟩ => by
  unfold iVar at h
  split at h
  · rename_i d hd
    obtain ⟨v, h1, h2⟩ := e.ok i d hd
    exact ⟨v, h1, h.at p v h2⟩
  · exact h.elim
theorem bin2 {G : KW} {r : R2} {o : D → D → AH → Res D} (k : OpOk G W r o) {S : L2.St} {H : Hp} {Q : VK} (h : SJ G W (iBin o fa fb) S H Q) : tOp r (SJ G W fa) (SJ G W fb) S H (QF Q) := by
  obtain ⟨env, ah, η, e, p, h⟩ := h
  have pf := List.prefix_refl η
  refine ⟨env, ah, η, e, p, h.bind.imp0 fun d η1 H1 ah1 m1 p1 q => fun v rv => ?_⟩
  refine ⟨env, ah1, η1, e.mv m1, p1, q.bind.imp0 fun d2 η2 H2 ah2 m2 p2 q2 => fun u ru => ?_⟩
  exact k η2 H2 ah2 d d2 v u Q p2 (rv.mv m2) ru q2
theorem un1 {G : KW} {r : V → Hp → VK → Prop} {o : D → AH → Res D} (k : UnOk G W r o) {S : L2.St} {H : Hp} {Q : VK} (h : SJ G W (iUn o fa) S H Q) : tUn r (SJ G W fa) S H (QF Q) := by
  obtain ⟨env, ah, η, e, p, h⟩ := h
  exact ⟨env, ah, η, e, p, h.bind.imp0 fun d η1 H1 ah1 m1 p1 q => fun v rv => k η1 H1 ah1 d v Q p1 rv q⟩
theorem j_bin {op : Operator} {r : R2} {o : D → D → AH → Res D} (ho : OpR X (binaryOp op) r) (k : OpOk (gX X) W r o) (ha : PE X a (SX X W fa)) (hb : PE X b (SX X W fb)) : PE X (.BinOp a op b pos) (SX X W (iBin o fa fb)) :=
  PE.imp (pe_fz (pe_op ho ha hb)) fun S H Q h => bin2 k h
theorem j_un {op : UnaryOp} {r : V → Hp → VK → Prop} {o : D → AH → Res D} (ho : UnR X (unaryOp op) r) (k : UnOk (gX X) W r o) (ha : PE X a (SX X W fa)) : PE X (.UnaryOp op a pos) (SX X W (iUn o fa)) :=
  PE.imp (pe_fz (pe_un ho ha)) fun S H Q h => un1 k h
theorem j_ix0 {r : R2} {o : D → D → AH → Res D} (ho : IxR X r) (k : OpOk (gX X) W r o) (ha : PE X a (SX X W fa)) (hb : PE X b (SX X W fb)) (hs : PlainIx b := by exact fun _ _ => rfl) : PE X (.Subscript a b pos) (SX X W (iBin o fa fb)) :=
  PE.imp (pe_fz (pe_ix ho ha hb hs)) fun S H Q h => bin2 k h
end
end DL
namespace DL
open PySem PySem.Spec PyProof.Rows L2
mutual
def toPy : D → Option PyData
  | .non => some .none
  | .bl b => some (.bool b)
  | .int i => some (.int i)
  | .str x => some (.str x)
  | .tup ds => match toPyL ds with
    | some ps => some (.tuple ps)
    | none => none
  | .ct ds => match toPyL ds with
    | some ps => some (.tuple ps)
    | none => none
  | .lst ds => match toPyL ds with
    | some ps => some (.list ps)
    | none => none
  | .dk _ _ => none
  | .dt _ _ => none
  | .cd _ _ => none
  | .ref _ => none
  | .fn _ => none
  | .ty _ => none
def toPyL : List D → Option (List PyData)
  | [] => some []
  | d :: ds => match toPy d, toPyL ds with
    | some p, some ps => some (p :: ps)
    | _, _ => none
end
section
variable {G : KW} {η : List Addr} {H : Hp} {ah : AH}
mutual
theorem rel_dp : ∀ (d : D) {v : V} {q : PyData}, Rel G η H d v → toPy d = some q → Dp G.K H v q
  | .non, _, _, r, e => by cases r; simp only [toPy] at e; cases e; exact .non
  | .bl b, _, _, r, e => by cases r; simp only [toPy] at e; cases e; exact .bl b
  | .int b, _, _, r, e => by cases r; simp only [toPy] at e; cases e; exact .int b
  | .str b, _, _, r, e => by cases r; simp only [toPy] at e; cases e; exact .str b
  | .tup ds, _, _, r, e => by
    cases r with
    | tup h r =>
      simp only [toPy] at e
      split at e
      · rename_i ps hp
        cases e
        exact .tup (.inl (.inl h)) (rel_dpL ds r hp)
      · cases e
  | .ct ds, _, _, r, e => by
    cases r with
    | ct h r =>
      simp only [toPy] at e
      split at e
      · rename_i ps hp
        cases e
        exact .tup h.sqt (rel_dpL ds r hp)
      · cases e
  | .lst ds, _, _, r, e => by
    cases r with
    | lst h r =>
      simp only [toPy] at e
      split at e
      · rename_i ps hp
        cases e
        exact .lst h.sq (rel_dpL ds r hp)
      · cases e
  | .dk _ _, _, _, _, e => by simp only [toPy] at e; cases e
  | .dt _ _, _, _, _, e => by simp only [toPy] at e; cases e
  | .cd _ _, _, _, _, e => by simp only [toPy] at e; cases e
  | .ref _, _, _, _, e => by simp only [toPy] at e; cases e
  | .fn _, _, _, _, e => by simp only [toPy] at e; cases e
  | .ty _, _, _, _, e => by simp only [toPy] at e; cases e
theorem rel_dpL : ∀ (ds : List D) {vs : List V} {qs : List PyData}, RelAll G η H ds vs → toPyL ds = some qs → DpAll G.K H vs qs
  | [], _, _, r, e => by cases r; simp only [toPyL] at e; cases e; exact .nil
  | d :: ds, _, _, r, e => by
    cases r with
    | cons h r =>
      simp only [toPyL] at e
      split at e
      · rename_i p ps hp hq
        cases e
        exact .cons (rel_dp d h hp) (rel_dpL ds r hq)
      · cases e
end
end
def rCatL : R2 := fun x y H Q => ∃ l b xs zs, x = .ref l ∧ y = .ref b ∧ Rd H l (.lst xs) ∧ Rd H b (.lst zs) ∧ xs.length + zs.length ≤ sizeLine ∧ ∀ p, H p = none → Q (.ref p) (upd H p (.lst (xs ++ zs)))
section
variable {X : Cx} {W : XW}
theorem lstRd {pnz : List (Addr × Obj)} {σ : L2.St} {H : Hp} {s : Shared} {l : Addr} {xs : List V} (I : Inv X pnz σ H s) (h : Rd H l (.lst xs)) : xs.length ≤ sizeLine ∧ ∃ (its : List Value) (n : Nat), Vals xs its ∧ xs.length = its.length ∧ s.heap.get? l = some { cls := .type "list", data := .seq its.toArray n } := by
  obtain ⟨z, its, n, r, e⟩ := h.ok I.hok
  exact ⟨z, its, n, r, r.length, e⟩
theorem op_catL : OpR X (binaryOp .Add) rCatL := by
  intro pnz s σ H x y v u Q I rx ry h
  obtain ⟨l, b, xs, zs, rfl, rfl, hH, hB, hzz, q⟩ := h
  cases rx
  cases ry
  obtain ⟨z, its, n, r, hl, e⟩ := lstRd I hH
  obtain ⟨z2, its2, n2, r2, hl2, e2⟩ := lstRd I hB
  refine PySem.P.add_list e e2 ?_ (by rw [List.size_toArray, List.size_toArray]; omega)
  have ea : its.toArray ++ its2.toArray = (its ++ its2).toArray := by simp
  rw [ea]
  exact ⟨.ref _, _, I.lnew (t' := s.toks) (r.append r2) (by rw [List.length_append]; omega), rfl, q _ I.fresh⟩
def oAdd (x y : D) (ah : AH) : Res D := match x, y with
  | .int i, .int j => .ok (.int (i + j)) ah
  | .str a, .str b => if a.length + b.length ≤ sizeLine then .ok (.str (a ++ b)) ah else .bad
  | .int i, .bl b => .ok (.int (i + b2i b)) ah
  | x, y => match seqD ah x, seqD ah y with
    | some (true, xs), some (true, ys) => if xs.length + ys.length ≤ sizeLine then (if xs = [] then .ok y ah else if ys = [] then .ok x ah else .ok (.tup (xs ++ ys)) ah) else .bad
    | some (false, xs), some (false, ys) => if xs.length + ys.length ≤ sizeLine then .ok (.lst (xs ++ ys)) ah else .bad
    | _, _ => .bad
def rAddA (K : PySem.W.Frag) : R2 := fun x y H Q => (∃ i j, x = .int i ∧ y = .int j ∧ Q (.int (i + j)) H) ∨ (∃ i j, x = .str i ∧ y = .str j ∧ i.length + j.length ≤ sizeLine ∧ Q (.str (i ++ j)) H) ∨ (∃ i k, x = .int i ∧ y = .bl k ∧ Q (.int (i + b2i k)) H) ∨ rCatA K x y H Q ∨ rCatL x y H Q
theorem op_addA : OpR X (binaryOp .Add) (rAddA X.K) := op_add.or (op_add_str.or (op_add_ib.or (op_catA.or op_catL)))
end
section
variable {G : KW} {W : XW}
theorem nil_rel {η : List Addr} {H : Hp} {ds : List D} {vs : List V} (r : RelAll G η H ds vs) : ds = [] ↔ vs = [] := by
  cases r <;> simp
theorem ok_add : OpOk G W (rAddA G.K) oAdd := by
  intro η H ah x y v u Q p rx ry h
  unfold oAdd at h
  split at h
  · cases rx; cases ry; exact .inl ⟨_, _, rfl, rfl, post_val p (.int _) h⟩
  · cases rx; cases ry
    split at h
    · exact .inr (.inl ⟨_, _, rfl, rfl, by assumption, post_val p (.str _) h⟩)
    · exact h.elim
  · cases rx; cases ry; exact .inr (.inr (.inl ⟨_, _, rfl, rfl, post_val p (.int _) h⟩))
  · split at h
    · rename_i xs ys e1 e2
      split at h
      · rename_i hzz
        obtain ⟨a, vs, rfl, r1, q1, _⟩ := seq_rel p rx e1
        obtain ⟨b, us, rfl, r2, q2, _⟩ := seq_rel p ry e2
        refine .inr (.inr (.inr (.inl ⟨a, b, vs, us, rfl, rfl, q1 rfl, q2 rfl, by rw [← r1.length, ← r2.length]; exact hzz, fun z => ?_, fun z1 z2 => ?_, fun z1 z2 q hq => ?_⟩)))
        · rw [if_pos ((nil_rel r1).mpr z)] at h; exact post_val p ry h
        · rw [if_neg (fun z => z1 ((nil_rel r1).mp z)), if_pos ((nil_rel r2).mpr z2)] at h; exact post_val p rx h
        · rw [if_neg (fun z => z1 ((nil_rel r1).mp z)), if_neg (fun z => z2 ((nil_rel r2).mp z))] at h; exact post_tup p (r1.append r2) h hq
      · exact h.elim
    · rename_i xs ys e1 e2
      split at h
      · rename_i hzz
        obtain ⟨a, vs, rfl, r1, _, q1⟩ := seq_rel p rx e1
        obtain ⟨b, us, rfl, r2, _, q2⟩ := seq_rel p ry e2
        exact .inr (.inr (.inr (.inr ⟨a, b, vs, us, rfl, rfl, q1 rfl, q2 rfl, by rw [← r1.length, ← r2.length]; exact hzz, fun q hq => post_fz p (r1.append r2) h hq⟩)))
      · exact h.elim
    · exact h.elim
def oI (C : Int → Int → Prop) [∀ i j, Decidable (C i j)] (g : Int → Int → Int) (x y : D) (ah : AH) : Res D := match x, y with
  | .int i, .int j => if C i j then .ok (.int (g i j)) ah else .bad
  | _, _ => .bad
theorem ok_i {C : Int → Int → Prop} [∀ i j, Decidable (C i j)] {g : Int → Int → Int} : OpOk G W (rI C fun i j => .int (g i j)) (oI C g) := by
  intro η H ah x y v u Q p rx ry h
  unfold oI at h
  split at h
  · cases rx; cases ry
    split at h
    · exact ⟨_, _, rfl, rfl, by assumption, post_val p (.int _) h⟩
    · exact h.elim
  · exact h.elim
def oSub (x y : D) (ah : AH) : Res D := match x, y with
  | .int i, .int j => .ok (.int (i - j)) ah
  | _, _ => .bad
theorem ok_sub : OpOk G W (rI0 fun i j => .int (i - j)) oSub := by
  intro η H ah x y v u Q p rx ry h
  unfold oSub at h
  split at h
  · cases rx; cases ry; exact ⟨_, _, rfl, rfl, post_val p (.int _) h⟩
  · exact h.elim
instance : ∀ i j, Decidable (CMul i j) := fun i j => by unfold CMul; infer_instance
instance : ∀ i j, Decidable (CDiv i j) := fun i j => by unfold CDiv; infer_instance
instance : ∀ i j, Decidable (CPow i j) := fun i j => by unfold CPow; infer_instance
def C0 (_ j : Int) : Prop := 0 < j
instance : ∀ i j, Decidable (C0 i j) := fun i j => by unfold C0; infer_instance
def oDiv : D → D → AH → Res D := oI CDiv fun i j => i / j
def oMod : D → D → AH → Res D := oI C0 fun i j => i % j
def oPow : D → D → AH → Res D := oI CPow fun i j => i ^ j.toNat
def oShl : D → D → AH → Res D := oI CPow fun i j => i * 2 ^ j.toNat
def Cnn (_ j : Int) : Prop := 0 ≤ j
instance : ∀ i j, Decidable (Cnn i j) := fun i j => by unfold Cnn; infer_instance
def oShr : D → D → AH → Res D := oI Cnn fun i j => i / 2 ^ j.toNat
def Ct (_ _ : Int) : Prop := True
instance : ∀ i j, Decidable (Ct i j) := fun i j => by unfold Ct; infer_instance
def rRepL : R2 := fun x y H Q => ∃ l k xs, x = .ref l ∧ y = .int k ∧ Rd H l (.lst xs) ∧ -(2 ^ 63) ≤ k ∧ k < 2 ^ 63 ∧ xs.length * k.toNat ≤ sizeLine ∧ ∀ p, H p = none → Q (.ref p) (upd H p (.lst (List.replicate k.toNat xs).flatten))
end
section
variable {X : Cx} {W : XW}
theorem op_repL : OpR X (binaryOp .Mult) rRepL := by
  intro pnz s σ H x y v u Q I rx ry h
  obtain ⟨l, k, xs, rfl, rfl, hH, h1, h2, hzz, q⟩ := h
  rcases hH with hH | ⟨ob, hH⟩
  · exact op_rep pnz s σ H _ _ v u Q I rx ry ⟨l, k, xs, rfl, rfl, hH, h1, h2, hzz, q⟩
  · cases rx
    obtain ⟨t, rfl⟩ := ry
    obtain ⟨z, its, n, r, hl, e⟩ := lstRd I (.inr ⟨ob, hH⟩)
    have hln : its.toArray.size * k.toNat ≤ sizeLine := by rw [List.size_toArray, ← hl]; exact hzz
    have hcap : ¬ its.toArray.size * k.toNat > (2 ^ 63 - 1) / 8 := by
      have : (sizeLine : Nat) ≤ (2 ^ 63 - 1) / 8 := by decide
      omega
    have hfit : ¬ (!Builtin.List.listFitsIndex k) = true := by
      rw [fitsIndex_both h1 h2]
      exact Bool.false_ne_true
    have hlong : ¬ Builtin.List.listTooLong (its.toArray.size * k.toNat) = true := by
      rw [notLongL hln]
      exact Bool.false_ne_true
    have hnew : List.foldl (fun a b => a ++ b) #[] (List.replicate (if its.toArray.isEmpty = true then 0 else k.toNat) its.toArray) = (List.replicate k.toNat its).flatten.toArray := by
      have f0 : ∀ m : Nat, List.foldl (fun a b => a ++ b) #[] (List.replicate m its.toArray) = (List.replicate m its).flatten.toArray := fun m => by simpa using foldl_rep its m []
      rw [f0]
      cases its with
      | nil => simp
      | cons _ _ => rw [if_neg (by simp)]
    refine wpAny_binaryOp_repeat_ref (T := "list") (U := "int") (by decide) ⟨_, e, rfl⟩ (fun z => typeIs_int z k t) noFill_list_mul F.fills_int_mul
      F.slot_int_rmul repeat_list F.slot_int_index.lookup (call_meets F.slot_int_rmul (typeIs_int s k t) F.entry_int_rmul
      (F.args_int_rmul_2 _ _) (int___rmul___int_list k t l its.toArray n) ⟨e, rfl, ⟨_, e, rfl⟩,
      call_meets F.slot_list_mul ⟨_, e, rfl⟩ F.entry_list_mul (F.args_list_mul_2 _ _)
      (AutoListH.list___mul___list_int_3 l its.toArray n k t hfit hcap hlong) ⟨e, ?_⟩⟩)
    rw [hnew]
    exact ⟨.ref _, _, I.lnew (t' := s.toks) (r.rep k.toNat) (by rw [PyProof.Rows.lm_len_rep_flat, Nat.mul_comm]; exact hzz), rfl, q _ I.fresh⟩
end
section
variable {X : Cx} {G : KW} {W : XW}
def oMul (x y : D) (ah : AH) : Res D := match x, y with
  | .int i, .int j => if CMul i j then .ok (.int (i * j)) ah else .bad
  | x, .int k => match seqD ah x with
    | some (false, xs) => if -(2 ^ 63) ≤ k ∧ k < 2 ^ 63 ∧ xs.length * k.toNat ≤ sizeLine then .ok (.lst (List.replicate k.toNat xs).flatten) ah else .bad
    | some (true, xs) => if xs ≠ [] ∧ 2 ≤ k ∧ k ≤ 1000 ∧ xs.length ≤ 1000 then .ok (.tup (List.replicate k.toNat xs).flatten) ah else .bad
    | _ => .bad
  | _, _ => .bad
/-- the list will change -/
def oMulM (x y : D) (ah : AH) : Res D := match y with
  | .int k => match seqD ah x with
    | some (false, xs) => if -(2 ^ 63) ≤ k ∧ k < 2 ^ 63 ∧ xs.length * k.toNat ≤ sizeLine then .ok (.ref ah.length) (ah ++ [.lst (List.replicate k.toNat xs).flatten]) else .bad
    | _ => .bad
  | _ => .bad
def rMulA (K : PySem.W.Frag) : R2 := fun x y H Q => rI CMul (fun i j => .int (i * j)) x y H Q ∨ rRepL x y H Q ∨ rRepT K x y H Q
theorem op_mulA : OpR X (binaryOp .Mult) (rMulA X.K) := op_mul.or (op_repL.or op_repT)
theorem ok_mul : OpOk G W (rMulA G.K) oMul := by
  intro η H ah x y v u Q p rx ry h
  unfold oMul at h
  split at h
  · cases rx; cases ry
    split at h
    · exact .inl ⟨_, _, rfl, rfl, by assumption, post_val p (.int _) h⟩
    · exact h.elim
  · cases ry
    split at h
    · rename_i xs e1
      split at h
      · rename_i hzz
        obtain ⟨a, vs, rfl, r1, _, q1⟩ := seq_rel p rx e1
        exact .inr (.inl ⟨a, _, vs, rfl, rfl, q1 rfl, hzz.1, hzz.2.1, by rw [← r1.length]; exact hzz.2.2, fun q hq => post_fz p (r1.repL _) h hq⟩)
      · exact h.elim
    · rename_i xs e1
      split at h
      · rename_i hzz
        obtain ⟨a, vs, rfl, r1, q1, _⟩ := seq_rel p rx e1
        exact .inr (.inr ⟨a, _, vs, rfl, rfl, q1 rfl, fun z => hzz.1 ((nil_rel r1).mpr z), hzz.2.1, hzz.2.2.1, by rw [← r1.length]; exact hzz.2.2.2, fun q hq => post_tup p (r1.repL _) h hq⟩)
      · exact h.elim
    · exact h.elim
  · exact h.elim
theorem ok_mulM : OpOk G W (rMulA G.K) oMulM := by
  intro η H ah x y v u Q p rx ry h
  unfold oMulM at h
  split at h
  · cases ry
    split at h
    · rename_i xs e1
      split at h
      · rename_i hzz
        obtain ⟨a, vs, rfl, r1, _, q1⟩ := seq_rel p rx e1
        exact .inr (.inl ⟨a, _, vs, rfl, rfl, q1 rfl, hzz.1, hzz.2.1, by rw [← r1.length]; exact hzz.2.2, fun q hq => post_mut p (r1.repL _) h hq⟩)
      · exact h.elim
    · exact h.elim
  · exact h.elim
/-- scalars -/
def scalD : D → D → Option Bool
  | .non, .non => some true
  | .non, .int _ => some false
  | .int _, .non => some false
  | .non, .bl _ => some false
  | .bl _, .non => some false
  | .non, .str _ => some false
  | .str _, .non => some false
  | .int i, .int j => some (decide (i = j))
  | .bl i, .bl j => some (decide (i = j))
  | .str i, .str j => some (decide (i = j))
  | .int _, .str _ => some false
  | .str _, .int _ => some false
  | .bl _, .str _ => some false
  | .str _, .bl _ => some false
  | _, _ => none
def eqD (x y : D) : Option Bool := match scalD x y with
  | some b => some b
  | none => match toPy x, toPy y with
    | some p, some q => if SeqAt.shaped p = true ∧ SeqAt.shaped q = true then some (PyData.eqv p q) else none
    | _, _ => none
def oEq (x y : D) (ah : AH) : Res D := match eqD x y with
  | some b => .ok (.bl b) ah
  | none => .bad
def oNe (x y : D) (ah : AH) : Res D := match eqD x y with
  | some b => .ok (.bl (!b)) ah
  | none => .bad
theorem scal_rel {η : List Addr} {H : Hp} {x y : D} {v u : V} {b : Bool} (rx : Rel G η H x v) (ry : Rel G η H y u) (e : scalD x y = some b) : scal v u = true ∧ decide (v = u) = b := by
  unfold scalD at e
  split at e <;> first
    | (cases e; done)
    | (cases rx; cases ry; cases e; refine ⟨rfl, ?_⟩; first | rfl | (simp; done) | (rw [Bool.eq_iff_iff]; simp))
def rEqA (K : PySem.W.Frag) : R2 := fun x y H Q => rEq x y H Q ∨ rEqD K x y H Q
def rNeA (K : PySem.W.Frag) : R2 := fun x y H Q => rNe x y H Q ∨ rNeD K x y H Q
theorem op_eqA (hu : X.A.units + 64 < cLine) : OpR X (compareOp .Eq) (rEqA X.K) := op_eq.or (op_eqD hu)
theorem op_neA (hu : X.A.units + 64 < cLine) : OpR X (compareOp .NotEq) (rNeA X.K) := op_ne.or (op_neD hu)
theorem ok_eq : OpOk G W (rEqA G.K) oEq := by
  intro η H ah x y v u Q p rx ry h
  unfold oEq eqD at h
  cases e : scalD x y with
  | some b =>
    simp only [e] at h
    obtain ⟨h1, h2⟩ := scal_rel rx ry e
    exact .inl ⟨h1, by rw [h2]; exact post_val p (.bl b) h⟩
  | none =>
    simp only [e] at h
    cases e1 : toPy x with
    | none => simp only [e1] at h; exact h.elim
    | some q1 =>
      cases e2 : toPy y with
      | none => simp only [e1, e2] at h; exact h.elim
      | some q2 =>
        simp only [e1, e2] at h
        by_cases c : SeqAt.shaped q1 = true ∧ SeqAt.shaped q2 = true
        · simp only [if_pos c] at h
          exact .inr ⟨q1, q2, rel_dp x rx e1, rel_dp y ry e2, c.1, c.2, post_val p (.bl _) h⟩
        · simp only [if_neg c] at h; exact h.elim
theorem ok_ne : OpOk G W (rNeA G.K) oNe := by
  intro η H ah x y v u Q p rx ry h
  unfold oNe eqD at h
  cases e : scalD x y with
  | some b =>
    simp only [e] at h
    obtain ⟨h1, h2⟩ := scal_rel rx ry e
    exact .inl ⟨h1, by rw [h2]; exact post_val p (.bl (!b)) h⟩
  | none =>
    simp only [e] at h
    cases e1 : toPy x with
    | none => simp only [e1] at h; exact h.elim
    | some q1 =>
      cases e2 : toPy y with
      | none => simp only [e1, e2] at h; exact h.elim
      | some q2 =>
        simp only [e1, e2] at h
        by_cases c : SeqAt.shaped q1 = true ∧ SeqAt.shaped q2 = true
        · simp only [if_pos c] at h
          exact .inr ⟨q1, q2, rel_dp x rx e1, rel_dp y ry e2, c.1, c.2, post_val p (.bl _) h⟩
        · simp only [if_neg c] at h; exact h.elim
def oCmp (pi : Int → Int → Bool) (ps : Str → Str → Bool) (x y : D) (ah : AH) : Res D := match x, y with
  | .int i, .int j => .ok (.bl (pi i j)) ah
  | .str i, .str j => .ok (.bl (ps i j)) ah
  | _, _ => .bad
def rCmpA (pi : Int → Int → Bool) (ps : Str → Str → Bool) : R2 := fun x y H Q => rI0 (fun i j => .bl (pi i j)) x y H Q ∨ ∃ i j, x = .str i ∧ y = .str j ∧ Q (.bl (ps i j)) H
theorem ok_cmp {pi : Int → Int → Bool} {ps : Str → Str → Bool} : OpOk G W (rCmpA pi ps) (oCmp pi ps) := by
  intro η H ah x y v u Q p rx ry h
  unfold oCmp at h
  split at h
  · cases rx; cases ry; exact .inl ⟨_, _, rfl, rfl, post_val p (.bl _) h⟩
  · cases rx; cases ry; exact .inr ⟨_, _, rfl, rfl, post_val p (.bl _) h⟩
  · exact h.elim
def oLt : D → D → AH → Res D := oCmp (fun i j => decide (i < j)) fun i j => decide (i.cps.toList < j.cps.toList)
def oLe : D → D → AH → Res D := oCmp (fun i j => decide (i ≤ j)) fun i j => !decide (j.cps.toList < i.cps.toList)
def oGt : D → D → AH → Res D := oCmp (fun i j => decide (j < i)) fun i j => decide (j.cps.toList < i.cps.toList)
def oGe : D → D → AH → Res D := oCmp (fun i j => decide (j ≤ i)) fun i j => !decide (i.cps.toList < j.cps.toList)
theorem op_ltA : OpR X (compareOp .Lt) (rCmpA (fun i j => decide (i < j)) fun i j => decide (i.cps.toList < j.cps.toList)) := op_lt.or op_lt_str
theorem op_leA : OpR X (compareOp .LtE) (rCmpA (fun i j => decide (i ≤ j)) fun i j => !decide (j.cps.toList < i.cps.toList)) := op_le.or op_le_str
theorem op_gtA : OpR X (compareOp .Gt) (rCmpA (fun i j => decide (j < i)) fun i j => decide (j.cps.toList < i.cps.toList)) := op_gt.or op_gt_str
theorem op_geA : OpR X (compareOp .GtE) (rCmpA (fun i j => decide (j ≤ i)) fun i j => !decide (i.cps.toList < j.cps.toList)) := op_ge.or op_ge_str
def isNonD : D → Bool
  | .non => true
  | _ => false
def isD (x y : D) : Option Bool := match y with
  | .non => some (isNonD x)
  | .bl b => match x with | .bl a => some (decide (a = b)) | _ => none
  | _ => none
def oIs (x y : D) (ah : AH) : Res D := match isD x y with
  | some b => .ok (.bl b) ah
  | none => .bad
def oIsNot (x y : D) (ah : AH) : Res D := match isD x y with
  | some b => .ok (.bl (!b)) ah
  | none => .bad
def rIsA : R2 := fun x y H Q => (y = .non ∧ Q (.bl (decide (x = .non))) H) ∨ rIsB x y H Q
def rIsNotA : R2 := fun x y H Q => (y = .non ∧ Q (.bl (!decide (x = .non))) H) ∨ rNotB x y H Q
theorem op_isA : OpR X (compareOp .Is) rIsA := op_isN.or op_isBl
theorem op_isNotA : OpR X (compareOp .IsNot) rIsNotA := op_notN.or op_notBl
theorem non_rel {η : List Addr} {H : Hp} {x : D} {v : V} (rx : Rel G η H x v) : isNonD x = decide (v = .non) := by
  cases rx <;> simp [isNonD]
theorem ok_is : OpOk G W rIsA oIs := by
  intro η H ah x y v u Q p rx ry h
  unfold oIs isD at h
  cases ry with
  | non => exact .inl ⟨rfl, by rw [← non_rel rx]; exact post_val p (.bl _) h⟩
  | bl b =>
    cases rx with
    | bl a => exact .inr ⟨a, b, rfl, rfl, post_val p (.bl _) h⟩
    | _ => exact h.elim
  | _ => exact h.elim
theorem ok_isNot : OpOk G W rIsNotA oIsNot := by
  intro η H ah x y v u Q p rx ry h
  unfold oIsNot isD at h
  cases ry with
  | non => exact .inl ⟨rfl, by rw [← non_rel rx]; exact post_val p (.bl _) h⟩
  | bl b =>
    cases rx with
    | bl a => exact .inr ⟨a, b, rfl, rfl, post_val p (.bl _) h⟩
    | _ => exact h.elim
  | _ => exact h.elim
def flatD : D → Option V
  | .non => some .non
  | .bl b => some (.bl b)
  | .int i => some (.int i)
  | .str x => some (.str x)
  | _ => none
def flatL : List D → Option (List V)
  | [] => some []
  | d :: ds => match flatD d, flatL ds with
    | some v, some vs => some (v :: vs)
    | _, _ => none
/-- what d is said to hold, of a key -/
def dgD (ah : AH) (d k : D) : Option (Option D) := match dkD ah d with
  | some (ks, xs) => match keyD k with
    | some q => some (lkD ks xs q)
    | none => none
  | none => match dtD ah d with
    | some (ks, xs) => match k with
      | .tup ds => match keysL ds with
        | some q => some (lkD ks xs q)
        | none => none
      | _ => none
    | none => none
def oInB (ah : AH) (x y : D) : Option Bool := match y with
  | .str z => match x with
    | .str i => some (match i.cps.toList with
      | [c] => decide (c ∈ z.cps.toList)
      | _ => !(Builtin.Str.occurrences z i 0 z.length 1).isEmpty)
    | _ => none
  | y => match seqD ah y with
    | some (_, ds) => match flatD x, flatL ds with
      | some v, some vs => some (inV v vs)
      | _, _ => match toPy x, toPy (.lst ds), y with
        | some p, some (.list qs), .lst _ => if SeqAt.shaped p = true ∧ SeqAt.shaped (.list qs) = true then some (qs.any fun z => PyData.eqv z p) else none
        | _, _, _ => none
    | none => match dgD ah y x with
      | some o => some o.isSome
      | none => none
def oIn (x y : D) (ah : AH) : Res D := match oInB ah x y with
  | some b => .ok (.bl b) ah
  | none => .bad
def oNotIn (x y : D) (ah : AH) : Res D := match oInB ah x y with
  | some b => .ok (.bl (!b)) ah
  | none => .bad
theorem flat_rel {η : List Addr} {H : Hp} {x : D} {v w : V} (rx : Rel G η H x v) (e : flatD x = some w) : v = w ∧ flatV v = true := by
  cases rx <;> cases e <;> exact ⟨rfl, rfl⟩
theorem flatL_rel {η : List Addr} {H : Hp} : ∀ {ds : List D} {vs ws : List V}, RelAll G η H ds vs → flatL ds = some ws → vs = ws ∧ vs.all flatV = true
  | _, _, _, .nil, e => by cases e; exact ⟨rfl, rfl⟩
  | d :: ds, _, ws, .cons h r, e => by
    simp only [flatL] at e
    split at e
    · rename_i v vs h1 h2
      cases e
      obtain ⟨rfl, f1⟩ := flat_rel h h1
      obtain ⟨rfl, f2⟩ := flatL_rel r h2
      exact ⟨rfl, by rw [List.all_cons, f1, f2]; rfl⟩
    · cases e
theorem dk_rel {η : List Addr} {H : Hp} {ah : AH} {d : D} {v : V} {ks : List Key} {xs : List D} (p : HpOk G η H ah) (r : Rel G η H d v) (e : dkD ah d = some (ks, xs)) :
    ∃ a kvs, v = .ref a ∧ Rd H a (.dK kvs) ∧ kvs.map (·.1) = ks ∧ RelAll G η H xs (kvs.map (·.2)) := by
  cases r with
  | dk h k r => cases e; exact ⟨_, _, rfl, .inr ⟨_, h⟩, k, r⟩
  | ref hn =>
    obtain ⟨o, ho, k⟩ := p.at hn
    simp only [dkD, ho] at e
    cases o with
    | dk ks xs => cases e; obtain ⟨kvs, h1, h2, h3⟩ := k; exact ⟨_, kvs, rfl, .inl h1, h2, h3⟩
    | fz d =>
      cases d with
      | dk ks xs => cases e; obtain ⟨_, h2⟩ := k; cases h2 with | dk h k r => exact ⟨_, _, rfl, .inr ⟨_, h⟩, k, r⟩
      | _ => cases e
    | _ => cases e
  | _ => cases e
theorem dt_rel {η : List Addr} {H : Hp} {ah : AH} {d : D} {v : V} {ks : List (List Key)} {xs : List D} (p : HpOk G η H ah) (r : Rel G η H d v) (e : dtD ah d = some (ks, xs)) :
    ∃ a kvs, v = .ref a ∧ Rd H a (.dT kvs) ∧ kvs.map (·.1) = ks ∧ RelAll G η H xs (kvs.map (·.2)) := by
  cases r with
  | dt h k r => cases e; exact ⟨_, _, rfl, .inr ⟨_, h⟩, k, r⟩
  | ref hn =>
    obtain ⟨o, ho, k⟩ := p.at hn
    simp only [dtD, ho] at e
    cases o with
    | dt ks xs => cases e; obtain ⟨kvs, h1, h2, h3⟩ := k; exact ⟨_, kvs, rfl, .inl h1, h2, h3⟩
    | fz d =>
      cases d with
      | dt ks xs => cases e; obtain ⟨_, h2⟩ := k; cases h2 with | dt h k r => exact ⟨_, _, rfl, .inr ⟨_, h⟩, k, r⟩
      | _ => cases e
    | _ => cases e
  | _ => cases e
theorem dg_rel {η : List Addr} {H : Hp} {ah : AH} {d k : D} {v u : V} {o : Option D} (p : HpOk G η H ah) (r : Rel G η H d v) (rk : Rel G η H k u) (e : dgD ah d k = some o) :
    ∃ a w, v = .ref a ∧ DGet H a u w ∧ (∀ x, o = some x → ∃ z, w = some z ∧ Rel G η H x z) ∧ (o = none → w = none) := by
  unfold dgD at e
  split at e
  · rename_i ks xs e1
    split at e
    · rename_i q e2
      cases e
      obtain ⟨a, kvs, rfl, h1, h2, h3⟩ := dk_rel p r e1
      refine ⟨a, _, rfl, .inl ⟨kvs, q, h1, keyD_rel rk e2, rfl⟩, fun x hx => ?_, fun hx => lk_none h2 h3 hx⟩
      exact lk_some h2 h3 hx
    · cases e
  · split at e
    · rename_i ks xs e1
      split at e
      · rename_i ds
        split at e
        · rename_i q e2
          cases e
          obtain ⟨a, kvs, rfl, h1, h2, h3⟩ := dt_rel p r e1
          cases rk with
          | tup hb rb =>
            have := keysL_rel rb e2
            subst this
            refine ⟨a, _, rfl, .inr ⟨kvs, q, _, h1, rfl, hb, rfl⟩, fun x hx => ?_, fun hx => lk_none h2 h3 hx⟩
            exact lk_some h2 h3 hx
        · cases e
      · cases e
    · cases e
def rInDct (neg : Bool) : R2 := fun x y H Q => ∃ a o, y = .ref a ∧ DGet H a x o ∧ Q (.bl (if neg then !o.isSome else o.isSome)) H
theorem op_inDct (hu : X.A.units + 1 < cLine) : OpR X (compareOp .In) (rInDct false) := by
  intro pnz s σ H x y v u Q I rx ry h
  obtain ⟨a, o, rfl, g, q⟩ := h
  cases ry
  exact d_in hu I g rx fun s' I' => ⟨.bl o.isSome, H, I', rfl, q⟩
theorem op_notInDct (hu : X.A.units + 1 < cLine) : OpR X (compareOp .NotIn) (rInDct true) := by
  intro pnz s σ H x y v u Q I rx ry h
  obtain ⟨a, o, rfl, g, q⟩ := h
  cases ry
  exact d_notIn hu I g rx fun s' I' => ⟨.bl (!o.isSome), H, I', rfl, q⟩
def rInA (K : PySem.W.Frag) : R2 := fun x y H Q => (∃ (c : Nat) (z : Str), x = .str ⟨#[c]⟩ ∧ y = .str z ∧ Q (.bl (decide (c ∈ z.cps.toList))) H) ∨
  (∃ i j, x = .str i ∧ y = .str j ∧ Q (.bl (!(Builtin.Str.occurrences j i 0 j.length 1).isEmpty)) H) ∨ rIn K false x y H Q ∨ rInD K x y H Q ∨ rInDct false x y H Q
def rNotInA (K : PySem.W.Frag) : R2 := fun x y H Q => (∃ (c : Nat) (z : Str), x = .str ⟨#[c]⟩ ∧ y = .str z ∧ Q (.bl (!decide (c ∈ z.cps.toList))) H) ∨
  (∃ i j, x = .str i ∧ y = .str j ∧ Q (.bl (!(!(Builtin.Str.occurrences j i 0 j.length 1).isEmpty))) H) ∨ rIn K true x y H Q ∨ rNotInD K x y H Q ∨ rInDct true x y H Q
theorem op_inA (hu : X.A.units + 65 < cLine) : OpR X (compareOp .In) (rInA X.K) := op_in_sign.or (op_in_str.or (op_in_seq.or ((op_inD hu).or (op_inDct (by omega)))))
theorem op_notInA (hu : X.A.units + 65 < cLine) : OpR X (compareOp .NotIn) (rNotInA X.K) := op_notIn_sign.or (op_notin_str.or (op_notIn_seq.or ((op_notInD hu).or (op_notInDct (by omega)))))
theorem in_cases {η : List Addr} {H : Hp} {ah : AH} {x y : D} {v u : V} {b : Bool} (p : HpOk G η H ah) (rx : Rel G η H x v) (ry : Rel G η H y u) (e : oInB ah x y = some b) {Q : VK} :
    (Q (.bl b) H → rInA G.K v u H Q) ∧ (Q (.bl (!b)) H → rNotInA G.K v u H Q) := by
  unfold oInB at e
  split at e
  · rename_i z
    cases ry
    split at e
    · rename_i i
      cases rx
      cases e
      split
      · rename_i c hc
        have hi : i = ⟨#[c]⟩ := by
          cases i with | mk a => cases a; simp at hc; subst hc; rfl
        subst hi
        exact ⟨fun q => .inl ⟨c, z, rfl, rfl, q⟩, fun q => .inl ⟨c, z, rfl, rfl, q⟩⟩
      · exact ⟨fun q => .inr (.inl ⟨_, _, rfl, rfl, q⟩), fun q => .inr (.inl ⟨_, _, rfl, rfl, q⟩)⟩
    · cases e
  · split at e
    · rename_i bb ds e1
      split at e
      · rename_i w ws e2 e3
        cases e
        obtain ⟨a, vs, rfl, r1, q1, q2⟩ := seq_rel p ry e1
        obtain ⟨rfl, f1⟩ := flat_rel rx e2
        obtain ⟨rfl, f2⟩ := flatL_rel r1 e3
        have hq : SqL G.K H a vs ∨ SqT G.K H a vs := by
          cases bb with
          | true => exact .inr (q1 rfl)
          | false => exact .inl (.inl (q2 rfl))
        exact ⟨fun q => .inr (.inr (.inl ⟨a, vs, rfl, hq, f1, f2, q⟩)), fun q => .inr (.inr (.inl ⟨a, vs, rfl, hq, f1, f2, q⟩))⟩
      · split at e
        · rename_i p1 qs zs e2 e3 e9
          split at e
          · rename_i hc
            cases e
            simp only [seqD] at e1
            cases e1
            exact ⟨fun q => .inr (.inr (.inr (.inl ⟨p1, qs, rel_dp x rx e2, rel_dp _ ry e3, hc.1, hc.2, q⟩))), fun q => .inr (.inr (.inr (.inl ⟨p1, qs, rel_dp x rx e2, rel_dp _ ry e3, hc.1, hc.2, q⟩)))⟩
          · cases e
        · cases e
    · split at e
      · rename_i o e1
        cases e
        obtain ⟨a, w, rfl, g, h1, h2⟩ := dg_rel p ry rx e1
        have hs : o.isSome = w.isSome := by
          cases o with
          | none => rw [h2 rfl]; rfl
          | some x => obtain ⟨z, rfl, _⟩ := h1 x rfl; rfl
        rw [hs]
        exact ⟨fun q => .inr (.inr (.inr (.inr ⟨a, w, rfl, g, q⟩))), fun q => .inr (.inr (.inr (.inr ⟨a, w, rfl, g, q⟩)))⟩
      · cases e
theorem ok_in : OpOk G W (rInA G.K) oIn := by
  intro η H ah x y v u Q p rx ry h
  unfold oIn at h
  cases e : oInB ah x y with
  | none => simp only [e] at h; exact h.elim
  | some b => simp only [e] at h; exact (in_cases p rx ry e).1 (post_val p (.bl b) h)
theorem ok_notIn : OpOk G W (rNotInA G.K) oNotIn := by
  intro η H ah x y v u Q p rx ry h
  unfold oNotIn at h
  cases e : oInB ah x y with
  | none => simp only [e] at h; exact h.elim
  | some b => simp only [e] at h; exact (in_cases p rx ry e).2 (post_val p (.bl (!b)) h)
end
end DL
namespace DL
open PySem PySem.Spec PyProof.Rows L2
def oIx (x y : D) (ah : AH) : Res D := match y with
  | .int i => match seqD ah x with
    | some (_, ds) => match atI ds i with
      | some d => .ok d ah
      | none => .bad
    | none => match x with
      | .str z => if z.length ≤ sizeLine then (match atI z.cps.toList i with
        | some c => .ok (.str ⟨#[c]⟩) ah
        | none => .bad) else .bad
      | x => match dgD ah x (.int i) with
        | some (some d) => .ok d ah
        | _ => .bad
  | y => match x with
    | .cd ks xs => match y with
      | .str z => match lkD ks xs z with
        | some d => .ok d ah
        | none => .bad
      | _ => .bad
    | x => match dgD ah x y with
      | some (some d) => .ok d ah
      | _ => .bad
section
variable {X : Cx} {G : KW} {W : XW}
def rIxDct : R2 := fun x y H Q => ∃ a w, x = .ref a ∧ DGet H a y (some w) ∧ Q w H
theorem ix_dct (hu : X.A.units + 1 < cLine) : IxR X rIxDct := by
  intro value slice pnz s σ H x y v u Q Iv rx ry h hs
  obtain ⟨a, w, rfl, g, q⟩ := h
  cases rx
  exact tail_any (dict_typeIs Iv g) PySem.F.slot_dict_getitem.lookup (d_getItem hu Iv g ry fun w' s' I' r' => ⟨w, H, I', r', q⟩) hs
def rIxA (K : PySem.W.Frag) (w : World) : R2 := fun x y H Q => rIx K x y H Q ∨ rIxDct x y H Q ∨ rIxD K w x y H Q
theorem ix_all (hu : X.A.units + 1 < cLine) : IxR X (rIxA X.K X.w) := ix_seq.or ((ix_dct hu).or ix_kdict)
theorem cd_rel {η : List Addr} {H : Hp} {a : Addr} : ∀ {ks : List Str} {ds : List D} {vs : List V} {z : Str} {d : D}, (∀ (i : Nat) z v, ks[i]? = some z → vs[i]? = some v → KDct G.K G.w a z v) → RelAll G η H ds vs → lkD ks ds z = some d →
    ∃ v, KDct G.K G.w a z v ∧ Rel G η H d v
  | [], _, _, _, _, _, r, h => by cases h
  | k :: ks, _, _, z, d, hk, .nil, h => by cases h
  | k :: ks, _, _, z, d, hk, .cons h1 r, h => by
    simp only [lkD] at h
    by_cases e : k = z
    · rw [if_pos e] at h
      cases h
      subst e
      exact ⟨_, hk 0 _ _ rfl rfl, h1⟩
    · rw [if_neg e] at h
      exact cd_rel (fun i z v e1 e2 => hk (i + 1) z v (by simpa using e1) (by simpa using e2)) r h
theorem ok_ix : OpOk G W (rIxA G.K G.w) oIx := by
  intro η H ah x y v u Q p rx ry h
  have dct : ∀ d, dgD ah x y = some (some d) → Post G W η H (.ok d ah) (QV G Q) → rIxA G.K G.w v u H (QF Q) := fun d e h => by
    obtain ⟨a, w, rfl, g, h1, _⟩ := dg_rel p rx ry e
    obtain ⟨z, rfl, rz⟩ := h1 d rfl
    exact .inr (.inl ⟨a, z, rfl, g, post_val p rz h⟩)
  unfold oIx at h
  split at h
  · rename_i i
    split at h
    · rename_i b ds e1
      split at h
      · rename_i d e2
        obtain ⟨a, vs, rfl, r1, q1, q2⟩ := seq_rel p rx e1
        obtain ⟨w, hw, rw'⟩ := at_rel r1 e2
        cases ry
        cases b with
        | true => exact .inl (.inr (.inl ⟨a, vs, i, w, rfl, rfl, q1 rfl, hw, post_val p rw' h⟩))
        | false => exact .inl (.inl ⟨a, vs, i, w, rfl, rfl, .inl (q2 rfl), hw, post_val p rw' h⟩)
      · exact h.elim
    · split at h
      · cases rx; cases ry
        split at h
        · split at h
          · exact .inl (.inr (.inr ⟨_, i, _, rfl, rfl, by assumption, by assumption, post_val p (.str _) h⟩))
          · exact h.elim
        · exact h.elim
      · split at h
        · exact dct _ (by assumption) h
        · exact h.elim
  · split at h
    · split at h
      · split at h
        · rename_i e1
          cases ry
          cases rx with
          | cd hk hl r =>
            obtain ⟨w, k1, r1⟩ := cd_rel hk r e1
            exact .inr (.inr ⟨_, _, w, rfl, rfl, k1, post_val p r1 h⟩)
        · exact h.elim
      · exact h.elim
    · split at h
      · exact dct _ (by assumption) h
      · exact h.elim
variable {a b e : Expr} {fa fb f : FE} {pos : Pos}
theorem j_ix (hu : X.A.units + 1 < cLine) (ha : PE X a (SX X W fa)) (hb : PE X b (SX X W fb)) (hs : PlainIx b := by exact fun _ _ => rfl) : PE X (.Subscript a b pos) (SX X W (iBin oIx fa fb)) := j_ix0 (ix_all hu) ok_ix ha hb hs
def cutD (xs : List D) (lo hi : Option Int) : List D := (xs.drop (HT.sIx xs.length 0 lo)).take (HT.sIx xs.length xs.length hi - HT.sIx xs.length 0 lo)
theorem cut_rel {η : List Addr} {H : Hp} {xs : List D} {vs : List V} (r : RelAll G η H xs vs) (lo hi : Option Int) : RelAll G η H (cutD xs lo hi) (cutV vs lo hi) := by
  unfold cutD cutV
  rw [← r.length]
  exact (r.drop _).take _
abbrev FO := AE → AH → Res (Option Int)
def iNoP : FO := fun _ ah => .ok none ah
def iPart (f : FE) : FO := fun env ah => (f env ah).bind fun d ah1 => match d with
  | .int i => .ok (some i) ah1
  | _ => .bad
def OJ (G : KW) (W : XW) (f : FO) : TO := fun S H Q => ∃ (env : AE) (ah : AH) (η : List Addr), EnvOk G η H env S ∧ HpOk G η H ah ∧ Post G W η H (f env ah) fun o _ H' _ => Q o H'
theorem j_noP : PO X none (OJ (gX X) W iNoP) := ⟨fun pnz s σ H Q Iv ⟨env, ah, η, e, p, h⟩ => po_none.run pnz s σ H Q Iv (h.at p)⟩
theorem j_part (h : PE X e (SX X W f)) : PO X (some e) (OJ (gX X) W (iPart f)) := ⟨fun pnz s σ H Q Iv ⟨env, ah, η, e, p, q⟩ => (po_some h).run pnz s σ H Q Iv ⟨env, ah, η, e, p, q.bind.imp0 fun d η1 H1 ah1 m1 p1 q1 => fun v rvv => by
  cases rvv with
  | int i => exact ⟨i, rfl, q1.at p1⟩
  | _ => exact q1.elim⟩⟩
def iSl (o : D → Option Int → Option Int → AH → Res D) (f : FE) (fl fh : FO) : FE := fun env ah => (f env ah).bind fun x ah1 => (fl env ah1).bind fun l ah2 => (fh env ah2).bind fun u ah3 => o x l u ah3
def SlOk (G : KW) (W : XW) (r : V → Option Int → Option Int → Hp → VK → Prop) (o : D → Option Int → Option Int → AH → Res D) : Prop :=
  ∀ (η : List Addr) (H : Hp) (ah : AH) (x : D) (v : V) (l u : Option Int) (Q : VK), HpOk G η H ah → Rel G η H x v → Post G W η H (o x l u ah) (QV G Q) → r v l u H (QF Q)
theorem j_sl0 {r : V → Option Int → Option Int → Hp → VK → Prop} {o : D → Option Int → Option Int → AH → Res D} {lo hi : Option Expr} {fl fh : FO} {p2 : Pos} (hr : SlR X r) (k : SlOk (gX X) W r o) (he : PE X e (SX X W f)) (hl : PO X lo (OJ (gX X) W fl)) (hu : PO X hi (OJ (gX X) W fh)) :
    PE X (.Subscript e (.Slice lo hi none p2) pos) (SX X W (iSl o f fl fh)) := PE.imp (pe_fz (pe_slice hr he hl hu)) fun S H Q ⟨env, ah, η, e, p, h⟩ => by
  refine ⟨env, ah, η, e, p, h.bind.imp0 fun d η1 H1 ah1 m1 p1 q => fun v rvv => ?_⟩
  refine ⟨env, ah1, η1, e.mv m1, p1, q.bind.imp0 fun l η2 H2 ah2 m2 p2 q2 => ?_⟩
  refine ⟨env, ah2, η2, (e.mv m1).mv m2, p2, q2.bind.imp0 fun u η3 H3 ah3 m3 p3 q3 => ?_⟩
  exact k η3 H3 ah3 d v l u Q p3 ((rvv.mv m2).mv m3) q3
def oSl (x : D) (l u : Option Int) (ah : AH) : Res D := match x with
  | .str z => if z.length ≤ sizeLine then .ok (.str (cutS z l u)) ah else .bad
  | x => match seqD ah x with
    | some (true, xs) => if HT.sIx xs.length 0 l = 0 ∧ HT.sIx xs.length xs.length u = xs.length then .ok x ah else .ok (.tup (cutD xs l u)) ah
    | some (false, xs) => .ok (.lst (cutD xs l u)) ah
    | none => .bad
def rSlAll (K : PySem.W.Frag) : V → Option Int → Option Int → Hp → VK → Prop := fun x lo hi H Q => rSlS x lo hi H Q ∨ rSlA K x lo hi H Q ∨ rSlL K x lo hi H Q
theorem sl_all : SlR X (rSlAll X.K) := sl_str.or (sl_tupA.or sl_list)
theorem ok_sl : SlOk G W (rSlAll G.K) oSl := by
  intro η H ah x v l u Q p rx h
  unfold oSl at h
  split at h
  · cases rx
    split at h
    · exact .inl ⟨_, rfl, by assumption, post_val p (.str _) h⟩
    · exact h.elim
  · split at h
    · rename_i xs e1
      obtain ⟨a, vs, rfl, r1, q1, _⟩ := seq_rel p rx e1
      refine .inr (.inl ⟨a, vs, rfl, q1 rfl, fun c => ?_, fun c q hq => ?_⟩)
      · rw [if_pos (by rw [r1.length]; exact c)] at h; exact post_val p rx h
      · rw [if_neg (by rw [r1.length]; exact c)] at h; exact post_tup p (cut_rel r1 l u) h hq
    · rename_i xs e1
      obtain ⟨a, vs, rfl, r1, _, q1⟩ := seq_rel p rx e1
      exact .inr (.inr ⟨a, vs, rfl, .inl (q1 rfl), fun q hq => post_fz p (cut_rel r1 l u) h hq⟩)
    · exact h.elim
theorem j_sl {lo hi : Option Expr} {fl fh : FO} {p2 : Pos} (he : PE X e (SX X W f)) (hl : PO X lo (OJ (gX X) W fl)) (hu : PO X hi (OJ (gX X) W fh)) : PE X (.Subscript e (.Slice lo hi none p2) pos) (SX X W (iSl oSl f fl fh)) := j_sl0 sl_all ok_sl he hl hu
def oNeg (x : D) (ah : AH) : Res D := match x with
  | .int i => .ok (.int (-i)) ah
  | _ => .bad
theorem ok_neg : UnOk G W (rU fun i => .int (-i)) oNeg := by
  intro η H ah x v Q p rx h
  unfold oNeg at h
  split at h
  · cases rx; exact ⟨_, rfl, post_val p (.int _) h⟩
  · exact h.elim
def truD (ah : AH) : D → Option Bool
  | .bl b => some b
  | .int i => some (i != 0)
  | .str x => if x.length ≤ sizeLine then some ((x.length : Int) != 0) else none
  | .non => some false
  | d => match seqD ah d with
    | some (_, ds) => some (!ds.isEmpty)
    | none => none
abbrev FT := AE → AH → Res Bool
def iTr (f : FE) : FT := fun env ah => (f env ah).bind fun d ah1 => match d with
  | .bl b => .ok b ah1
  | _ => .bad
def TJ (G : KW) (W : XW) (f : FT) : TT := fun S H Q => ∃ (env : AE) (ah : AH) (η : List Addr), EnvOk G η H env S ∧ HpOk G η H ah ∧ Post G W η H (f env ah) fun b _ H' _ => Q b H'
abbrev TX (X : Cx) (W : XW) (f : FT) : TT := TJ (gX X) W f
theorem tr_tB {S : L2.St} {H : Hp} {Q : Bool → Hp → Prop} (h : TJ G W (iTr f) S H Q) : tB (SJ G W f) S H Q := by
  obtain ⟨env, ah, η, e, p, h⟩ := h
  exact ⟨env, ah, η, e, p, h.bind.imp0 fun d η1 H1 ah1 m1 p1 q1 => fun v rvv => by
    cases rvv with
    | bl b => exact ⟨b, rfl, q1.at p1⟩
    | _ => exact q1.elim⟩
/-- a comparison -/
def PCx (X : Cx) (op : CmpOp) (a b : Expr) (f : FE) (W : XW) : Prop := PC X op a b (SX X W f)
theorem pc_fz {op : CmpOp} {t : TE} (h : PC X op a b t) : PC X op a b fun S H Q => t S H (QF Q) := by
  refine ⟨fun pnz s σ H Q Iv q => ?_⟩
  refine thn (h.run pnz s σ H _ Iv q) fun v s1 h1 => thn h1 fun u s2 h2 => thn h2 fun w s3 ⟨x, H1, I1, r1, q1⟩ => ?_
  rcases q1 with q1 | ⟨c, o, rfl, ha, hm, q1⟩
  · exact ⟨x, H1, I1, r1, q1⟩
  · obtain ⟨od, I2⟩ := I1.lock ha hm
    exact ⟨.ref c, _, I2, r1, q1 od⟩
theorem PC.imp {op : CmpOp} {t t' : TE} (h : PC X op a b t) (k : ∀ S H Q, t' S H Q → t S H Q) : PC X op a b t' := ⟨fun pnz s σ H Q Iv q => h.run pnz s σ H Q Iv (k σ H Q q)⟩
theorem pc_op {op : CmpOp} {r : R2} {ta tb : TE} (ho : OpR X (compareOp op) r) (ha : PE X a ta) (hb : PE X b tb) : PC X op a b (tOp r ta tb) :=
  ⟨fun pnz s σ H Q Iv h => binT ha hb Iv h fun v u s2 x y H2 I2 rx ry q => ho pnz s2 σ H2 x y v u Q I2 rx ry q⟩
theorem j_pc {op : CmpOp} {r : R2} {o : D → D → AH → Res D} (ho : OpR X (compareOp op) r) (k : OpOk (gX X) W r o) (ha : PE X a (SX X W fa)) (hb : PE X b (SX X W fb)) : PC X op a b (SX X W (iBin o fa fb)) :=
  PC.imp (pc_fz (pc_op ho ha hb)) fun S H Q h => bin2 k h
theorem j_cmp {op : CmpOp} (h : PC X op a b (SX X W f)) (h1 : behindInMarks op b = false := by first | exact nobehind _ (by decide) (by decide) | rfl) : PE X (.Compare a [op] [b] pos) (SX X W f) := pe_cmp h h1
theorem t_cmp {op : CmpOp} (h : PC X op a b (SX X W f)) (h1 : behindInMarks op b = false := by first | exact nobehind _ (by decide) (by decide) | rfl) : PT X (.Compare a [op] [b] pos) (TX X W (iTr f)) := PT.imp (pt_cmp h h1) fun S H Q q => tr_tB q
/-- any expression whose value is a bool -/
theorem t_val (h : PE X e (SX X W f)) (he : ∀ whole, isTrue e X.env whole = (do let v ← whole; standAt e.pos; holding [v] (truthy v)) := by exact fun _ => rfl) : PT X e (TX X W (iTr f)) := PT.imp (pt_val h he) fun S H Q q => tr_tB q
/-- by truth -/
def iTru (f : FE) : FT := fun env ah => (f env ah).bind fun d ah1 => match truD ah1 d with
  | some b => .ok b ah1
  | none => .bad
theorem tru_rel {η : List Addr} {H : Hp} {ah : AH} {d : D} {v : V} {b : Bool} (p : HpOk G η H ah) (r : Rel G η H d v) (e : truD ah d = some b) : TruV G.K v H b := by
  have sq : ∀ {ds : List D} {t : Bool}, seqD ah d = some (t, ds) → (!ds.isEmpty) = b → TruV G.K v H b := fun {ds t} h1 h2 => by
    obtain ⟨a, vs, rfl, r1, q1, q2⟩ := seq_rel p r h1
    have hv : ds.isEmpty = vs.isEmpty := by
      cases r1 <;> rfl
    subst h2
    rw [hv]
    cases t with
    | true => exact .inr (.inl ⟨vs, q1 rfl, rfl⟩)
    | false => exact .inl ⟨vs, .inl (q2 rfl), rfl⟩
  have fin : (match seqD ah d with
      | some (_, ds) => some (!ds.isEmpty)
      | none => none) = some b → TruV G.K v H b := fun e => by
    split at e
    · rename_i t ds e1
      exact sq e1 (Option.some.inj e)
    · cases e
  cases r with
  | non => simp only [truD] at e; cases e; exact rfl
  | bl _ => simp only [truD] at e; cases e; exact rfl
  | int _ => simp only [truD] at e; cases e; exact rfl
  | str z =>
    simp only [truD] at e
    split at e
    · cases e; exact ⟨by assumption, rfl⟩
    · cases e
  | _ => exact fin e
theorem t_tru (h : PE X e (SX X W f)) (he : ∀ whole, isTrue e X.env whole = (do let v ← whole; standAt e.pos; holding [v] (truthy v)) := by exact fun _ => rfl) : PT X e (TX X W (iTru f)) := PT.imp (pt_truth h he) fun S H Q ⟨env, ah, η, e, p, h⟩ =>
  ⟨env, ah, η, e, p, h.bind.imp0 fun d η1 H1 ah1 m1 p1 q1 => fun v rvv => by
    split at q1
    · rename_i b eb
      exact ⟨b, tru_rel p1 rvv eb, q1.at p1⟩
    · exact q1.elim⟩
def bAnd (f g : FT) : FT := fun env ah => (f env ah).bind fun b ah1 => if b = true then g env ah1 else .ok false ah1
def bOr (f g : FT) : FT := fun env ah => (f env ah).bind fun b ah1 => if b = true then .ok true ah1 else g env ah1
def bNot (f : FT) : FT := fun env ah => (f env ah).bind fun b ah1 => .ok (!b) ah1
variable {ft gt : FT} {rest : List Expr}
theorem tj_and {S : L2.St} {H : Hp} {Q : Bool → Hp → Prop} {G : KW} (h : TJ G W (bAnd ft gt) S H Q) : tAnd (TJ G W ft) (TJ G W gt) S H Q := by
  obtain ⟨env, ah, η, e, p, h⟩ := h
  refine ⟨env, ah, η, e, p, h.bind.imp0 fun b η1 H1 ah1 m1 p1 q1 => ?_⟩
  cases b with
  | true => exact ⟨env, ah1, η1, e.mv m1, p1, q1⟩
  | false => exact q1.at p1
theorem tj_or {S : L2.St} {H : Hp} {Q : Bool → Hp → Prop} {G : KW} (h : TJ G W (bOr ft gt) S H Q) : tOr (TJ G W ft) (TJ G W gt) S H Q := by
  obtain ⟨env, ah, η, e, p, h⟩ := h
  refine ⟨env, ah, η, e, p, h.bind.imp0 fun b η1 H1 ah1 m1 p1 q1 => ?_⟩
  cases b with
  | false => exact ⟨env, ah1, η1, e.mv m1, p1, q1⟩
  | true => exact q1.at p1
theorem PW.imp {t t' : TT} (h : PW X e t) (k : ∀ S H Q, t' S H Q → t S H Q) : PW X e t' := ⟨fun w pnz s σ H Q Iv q => h.run w pnz s σ H Q Iv (k σ H Q q)⟩
theorem w_and1 (h : PT X a (TX X W ft)) : PW X (.BoolOp .And [a] pos) (TX X W ft) := pw_and1 h
theorem w_or1 (h : PT X a (TX X W ft)) : PW X (.BoolOp .Or [a] pos) (TX X W ft) := pw_or1 h
theorem w_and (h : PT X a (TX X W ft)) (k : PW X (.BoolOp .And (b :: rest) pos) (TX X W gt)) : PW X (.BoolOp .And (a :: b :: rest) pos) (TX X W (bAnd ft gt)) := PW.imp (pw_and h k) fun _ _ _ q => tj_and q
theorem w_or (h : PT X a (TX X W ft)) (k : PW X (.BoolOp .Or (b :: rest) pos) (TX X W gt)) : PW X (.BoolOp .Or (a :: b :: rest) pos) (TX X W (bOr ft gt)) := PW.imp (pw_or h k) fun _ _ _ q => tj_or q
theorem t_not (h : PT X a (TX X W ft)) : PT X (.UnaryOp .Not a pos) (TX X W (bNot ft)) := PT.imp (pt_not h) fun S H Q ⟨env, ah, η, e, p, h⟩ => ⟨env, ah, η, e, p, h.bind.imp0 fun b η1 H1 ah1 m1 p1 q1 => q1.at p1⟩
/-- as values: bools -/
def iAnd (f g : FE) : FE := fun env ah => (f env ah).bind fun d ah1 => match d with
  | .bl true => g env ah1
  | .bl false => .ok (.bl false) ah1
  | _ => .bad
def iOr (f g : FE) : FE := fun env ah => (f env ah).bind fun d ah1 => match d with
  | .bl true => .ok (.bl true) ah1
  | .bl false => g env ah1
  | _ => .bad
def iNot (f : FE) : FE := fun env ah => (f env ah).bind fun d ah1 => match d with
  | .bl b => .ok (.bl (!b)) ah1
  | _ => .bad
theorem j_one {op : BoolOp} (h : PE X a (SX X W f)) : PE X (.BoolOp op [a] pos) (SX X W f) := pe_one h
theorem j_and (h : PE X a (SX X W fa)) (k : PE X (.BoolOp .And (b :: rest) pos) (SX X W fb)) : PE X (.BoolOp .And (a :: b :: rest) pos) (SX X W (iAnd fa fb)) := PE.imp (pe_and h k) fun S H Q ⟨env, ah, η, e, p, h⟩ =>
  ⟨env, ah, η, e, p, h.bind.imp0 fun d η1 H1 ah1 m1 p1 q1 => fun v rvv => by
    cases rvv with
    | bl b =>
      cases b with
      | true => exact ⟨true, rfl, env, ah1, η1, e.mv m1, p1, q1⟩
      | false => exact ⟨false, rfl, q1.at p1 _ (.bl _)⟩
    | _ => exact q1.elim⟩
theorem j_or (h : PE X a (SX X W fa)) (k : PE X (.BoolOp .Or (b :: rest) pos) (SX X W fb)) : PE X (.BoolOp .Or (a :: b :: rest) pos) (SX X W (iOr fa fb)) := PE.imp (pe_or h k) fun S H Q ⟨env, ah, η, e, p, h⟩ =>
  ⟨env, ah, η, e, p, h.bind.imp0 fun d η1 H1 ah1 m1 p1 q1 => fun v rvv => by
    cases rvv with
    | bl b =>
      cases b with
      | false => exact ⟨false, rfl, env, ah1, η1, e.mv m1, p1, q1⟩
      | true => exact ⟨true, rfl, q1.at p1 _ (.bl _)⟩
    | _ => exact q1.elim⟩
theorem j_not (h : PE X a (SX X W fa)) : PE X (.UnaryOp .Not a pos) (SX X W (iNot fa)) := PE.imp (pe_not h) fun S H Q ⟨env, ah, η, e, p, h⟩ =>
  ⟨env, ah, η, e, p, h.bind.imp0 fun d η1 H1 ah1 m1 p1 q1 => fun v rvv => by
    cases rvv with
    | bl b => exact ⟨b, rfl, q1.at p1 _ (.bl _)⟩
    | _ => exact q1.elim⟩
def iIf (t : FT) (f g : FE) : FE := fun env ah => (t env ah).bind fun b ah1 => if b = true then f env ah1 else g env ah1
theorem j_if {c : Expr} (hc : PT X c (TX X W ft)) (ha : PE X a (SX X W fa)) (hb : PE X b (SX X W fb)) : PE X (.IfExp c a b pos) (SX X W (iIf ft fa fb)) := PE.imp (pe_ifExp hc ha hb) fun S H Q ⟨env, ah, η, e, p, h⟩ =>
  ⟨env, ah, η, e, p, h.bind.imp0 fun b η1 H1 ah1 m1 p1 q1 => by
    cases b with
    | true => exact ⟨env, ah1, η1, e.mv m1, p1, q1⟩
    | false => exact ⟨env, ah1, η1, e.mv m1, p1, q1⟩⟩
def iArgs : List FE → AE → AH → Res (List D)
  | [], _, ah => .ok [] ah
  | f :: fs, env, ah => (f env ah).bind fun d ah1 => (iArgs fs env ah1).bind fun ds ah2 => .ok (d :: ds) ah2
def AJ (G : KW) (W : XW) (fs : List FE) : TA := fun S H Q => ∃ (env : AE) (ah : AH) (η : List Addr), EnvOk G η H env S ∧ HpOk G η H ah ∧ Post G W η H (iArgs fs env ah) fun ds η' H' _ => ∀ vs, RelAll G η' H' ds vs → Q vs H'
abbrev AX' (X : Cx) (W : XW) (fs : List FE) : TA := AJ (gX X) W fs
variable {es : List Expr} {fs : List FE}
theorem a_nil : PA X [] (AX' X W []) := PA.imp pa_nil fun S H Q ⟨env, ah, η, e, p, h⟩ => h.at p _ .nil
theorem a_cons (h : PE X e (SX X W f)) (k : PA X es (AX' X W fs)) (hs : starEach (e :: es) X.env = (false, eval e X.env) :: starEach es X.env := by rfl) : PA X (e :: es) (AX' X W (f :: fs)) := PA.imp (pa_cons h k hs) fun S H Q ⟨env, ah, η, e, p, h⟩ =>
  ⟨env, ah, η, e, p, (show Post _ _ _ _ ((f env ah).bind fun d ah1 => (iArgs fs env ah1).bind fun ds ah2 => .ok (d :: ds) ah2) _ from h).bind.imp0 fun d η1 H1 ah1 m1 p1 q1 => fun v rvv =>
    ⟨env, ah1, η1, e.mv m1, p1, q1.bind.imp0 fun ds η2 H2 ah2 m2 p2 q2 => fun vs rs => q2.at p2 _ (.cons (rvv.mv m2) rs)⟩⟩
theorem PA.fz {t : TA} (h : PA X es t) : PA X es t := h
def iCall (o : List D → AH → Res D) (fs : List FE) : FE := fun env ah => (iArgs fs env ah).bind fun ds ah1 => o ds ah1
def oTup (ds : List D) (ah : AH) : Res D := if ds.length ≤ sizeLine then .ok (.tup ds) ah else .bad
def oLst (ds : List D) (ah : AH) : Res D := if ds.length ≤ sizeLine then .ok (.lst ds) ah else .bad
def oLstM (ds : List D) (ah : AH) : Res D := if ds.length ≤ sizeLine then .ok (.ref ah.length) (ah ++ [.lst ds]) else .bad
theorem j_disp {o : List D → AH → Res D} {t : TA → TE} (ht : ∀ {ta : TA}, PA X es ta → PE X e (t ta)) (hk : ∀ (η : List Addr) (H : Hp) (ah : AH) (ds : List D) (vs : List V) (Q : VK), HpOk (gX X) η H ah → RelAll (gX X) η H ds vs → Post (gX X) W η H (o ds ah) (QV (gX X) Q) → t (fun _ H Q => Q vs H) [] H (QF Q)) (hl : ∀ ta S H Q, ta S H (fun vs H1 => t (fun _ H Q => Q vs H) [] H1 Q) → t ta S H Q)
    (k : PA X es (AX' X W fs)) : PE X e (SX X W (iCall o fs)) := PE.imp (pe_fz (ht k)) fun S H Q ⟨env, ah, η, e, p, h⟩ => hl _ _ _ _ ⟨env, ah, η, e, p, h.bind.imp0 fun ds η1 H1 ah1 m1 p1 q1 => fun vs rs => hk η1 H1 ah1 ds vs Q p1 rs q1⟩
theorem j_tup {x1 : _} (k : PA X es (AX' X W fs)) : PE X (.Tuple es x1 pos) (SX X W (iCall oTup fs)) :=
  j_disp (t := tTup) (fun h => pe_tup h) (fun η H ah ds vs Q p r h => by
    unfold oTup at h
    split at h
    · exact ⟨by rw [← r.length]; assumption, fun a ha => post_tup p r h ha⟩
    · exact h.elim) (fun ta S H Q h => h) k
theorem j_lst (k : PA X es (AX' X W fs)) : PE X (.List es pos) (SX X W (iCall oLst fs)) :=
  j_disp (t := tLst) (fun h => pe_lst h) (fun η H ah ds vs Q p r h => by
    unfold oLst at h
    split at h
    · exact ⟨by rw [← r.length]; assumption, fun a ha => post_fz p r h ha⟩
    · exact h.elim) (fun ta S H Q h => h) k
theorem j_lstM (k : PA X es (AX' X W fs)) : PE X (.List es pos) (SX X W (iCall oLstM fs)) :=
  j_disp (t := tLst) (fun h => pe_lst h) (fun η H ah ds vs Q p r h => by
    unfold oLstM at h
    split at h
    · exact ⟨by rw [← r.length]; assumption, fun a ha => post_mut p r h ha⟩
    · exact h.elim) (fun ta S H Q h => h) k
def CaOk (G : KW) (W : XW) (r : List V → Hp → VK → Prop) (o : List D → AH → Res D) : Prop :=
  ∀ (η : List Addr) (H : Hp) (ah : AH) (ds : List D) (vs : List V) (Q : VK), HpOk G η H ah → RelAll G η H ds vs → Post G W η H (o ds ah) (QV G Q) → r vs H (QF Q)
theorem ca_tCB {S : L2.St} {H : Hp} {Q : VK} {G : KW} {r : List V → Hp → VK → Prop} {o : List D → AH → Res D} (k : CaOk G W r o) (h : SJ G W (iCall o fs) S H Q) : tCB r (AJ G W fs) S H (QF Q) := by
  obtain ⟨env, ah, η, e, p, h⟩ := h
  exact ⟨env, ah, η, e, p, h.bind.imp0 fun ds η1 H1 ah1 m1 p1 q1 => fun vs rs => k η1 H1 ah1 ds vs Q p1 rs q1⟩
variable {x : Str} {p0 : Pos}
theorem j_callB {id : String} {r : List V → Hp → VK → Prop} {o : List D → AH → Res D} (hc : CallR X (.builtin id) r) (k : CaOk (gX X) W r o) (hg : Gl X x) (hm : X.mg x = none) (hv : bootBuiltins x = some (.builtin id)) (ha : PA X (e :: es) (AX' X W fs)) (hn : x ≠ "__name__" := by decide) (hdb : (x == ("__debug__" : Str)) = false := by decide)
    (he : starEach (e :: es) X.env = (false, eval e X.env) :: starEach es X.env := by rfl) (hpl : (backTo pos (starEach es X.env)).any (·.1) = false := by rfl) : PE X (.Call (.Name x p0) (e :: es) [] pos) (SX X W (iCall o fs)) :=
  PE.imp (pe_fz (pe_callB hc hg hm hv ha hn hdb he hpl)) fun S H Q h => ca_tCB k h
theorem j_callT {id : String} {r : List V → Hp → VK → Prop} {o : List D → AH → Res D} (hc : CallR X (.type id) r) (k : CaOk (gX X) W r o) (hg : Gl X x) (hm : X.mg x = none) (hv : bootBuiltins x = some (.type id)) (ha : PA X (e :: es) (AX' X W fs)) (hn : x ≠ "__name__" := by decide) (hdb : (x == ("__debug__" : Str)) = false := by decide)
    (he : starEach (e :: es) X.env = (false, eval e X.env) :: starEach es X.env := by rfl) (hpl : (backTo pos (starEach es X.env)).any (·.1) = false := by rfl) : PE X (.Call (.Name x p0) (e :: es) [] pos) (SX X W (iCall o fs)) :=
  PE.imp (pe_fz (pe_callTy hc hg hm hv ha hn hdb he hpl)) fun S H Q h => ca_tCB k h
end
end DL
namespace DL
open PySem PySem.Spec PyProof.Rows L2
def fzD (d : D) (ah : AH) : Res D := match d with
  | .ref n => match ah[n]? with
    | some (.lst ds) => .ok (.lst ds) (ah.set n (.fz (.lst ds)))
    | some (.dk ks ds) => .ok (.dk ks ds) (ah.set n (.fz (.dk ks ds)))
    | some (.dt ks ds) => .ok (.dt ks ds) (ah.set n (.fz (.dt ks ds)))
    | some (.fz d) => .ok d ah
    | _ => .bad
  | d => .ok d ah
def iFz (f : FE) : FE := iUn fzD f
section
variable {X : Cx} {G : KW} {W : XW} {e : Expr} {f : FE}
theorem fz_ok {η : List Addr} {H : Hp} {ah : AH} {d : D} {v : V} {Q : VK} (p : HpOk G η H ah) (r : Rel G η H d v) (h : Post G W η H (fzD d ah) (QV G Q)) : QF Q v H := by
  cases r with
  | ref hn =>
    rename_i n a
    obtain ⟨o, ho, k⟩ := p.at hn
    simp only [fzD, ho] at h
    have pf := List.prefix_refl η
    cases o with
    | lst ds =>
      obtain ⟨vs, h1, r1⟩ := k
      refine .inr ⟨a, .lst vs, rfl, h1, trivial, fun od => ?_⟩
      have E : Mv η H η (upd H a (.frz od (.lst vs))) := .upd (List.mem_of_getElem? hn) h1 (fun _ z => nomatch z) (fun _ _ z => nomatch z)
      have r2 : Rel G η (upd H a (.frz od (.lst vs))) (.lst ds) (.ref a) := .lst ⟨od, upd_same⟩ (r1.mv E)
      exact h η _ E (p.put hn h1 (fun _ z => nomatch z) (fun _ _ z => nomatch z) ⟨⟨_, upd_same⟩, r2⟩) _ r2
    | dk ks ds =>
      obtain ⟨vs, h1, k1, r1⟩ := k
      refine .inr ⟨a, .dK vs, rfl, h1, trivial, fun od => ?_⟩
      have E : Mv η H η (upd H a (.frz od (.dK vs))) := .upd (List.mem_of_getElem? hn) h1 (fun _ z => nomatch z) (fun _ _ z => nomatch z)
      have r2 : Rel G η (upd H a (.frz od (.dK vs))) (.dk ks ds) (.ref a) := .dk (o := od) upd_same k1 (r1.mv E)
      exact h η _ E (p.put hn h1 (fun _ z => nomatch z) (fun _ _ z => nomatch z) ⟨⟨_, upd_same⟩, r2⟩) _ r2
    | dt ks ds =>
      obtain ⟨vs, h1, k1, r1⟩ := k
      refine .inr ⟨a, .dT vs, rfl, h1, trivial, fun od => ?_⟩
      have E : Mv η H η (upd H a (.frz od (.dT vs))) := .upd (List.mem_of_getElem? hn) h1 (fun _ z => nomatch z) (fun _ _ z => nomatch z)
      have r2 : Rel G η (upd H a (.frz od (.dT vs))) (.dt ks ds) (.ref a) := .dt (o := od) upd_same k1 (r1.mv E)
      exact h η _ E (p.put hn h1 (fun _ z => nomatch z) (fun _ _ z => nomatch z) ⟨⟨_, upd_same⟩, r2⟩) _ r2
    | fz d =>
      obtain ⟨_, r1⟩ := k
      exact post_val p r1 h
    | gone => exact h.elim
    | tab p => exact h.elim
    | rng lo hi => exact h.elim
    | dx ks ds => exact h.elim
    | xd _ _ _ => exact h.elim
    | ins _ _ => exact h.elim
  | non => exact post_val p .non h
  | bl b => exact post_val p (.bl b) h
  | int b => exact post_val p (.int b) h
  | str b => exact post_val p (.str b) h
  | tup a b => exact post_val p (.tup a b) h
  | lst a b => exact post_val p (.lst a b) h
  | dk a b c => exact post_val p (.dk a b c) h
  | dt a b c => exact post_val p (.dt a b c) h
  | cd a b c => exact post_val p (.cd a b c) h
  | ct a b => exact post_val p (.ct a b) h
  | fn a => exact post_val p (.fn a) h
  | ty a => exact post_val p (.ty a) h
theorem j_fz (h : PE X e (SX X W f)) : PE X e (SX X W (iFz f)) := PE.imp (pe_fz h) fun S H Q ⟨env, ah, η, e, p, h⟩ =>
  ⟨env, ah, η, e, p, h.bind.imp0 fun d η1 H1 ah1 m1 p1 q1 => fun v rv => fz_ok p1 rv q1⟩
end
abbrev FI := AE → AH → Res (List D)
/-- the iterator J yields the data ds, one after another -/
structure ItOk (G : KW) (η : List Addr) (H : Hp) (J : It) (ds : List D) : Prop where
  go : ∀ (i : Nat) (d : D), ds[i]? = some d → ∀ H', Ext H H' → J.go i H' ∧ ∀ x H'', J.yld i H' x H'' → Same H' H'' ∧ Rel G η H'' d x
  stop : ∀ i, ds.length ≤ i → ∀ H', Ext H H' → J.stop i H'
def IJ (G : KW) (W : XW) (f : FI) : TI := fun S H R => ∃ (env : AE) (ah : AH) (η : List Addr), EnvOk G η H env S ∧ HpOk G η H ah ∧ Post G W η H (f env ah) fun ds η' H' _ => ∀ J, ItOk G η' H' J ds → R J H'
abbrev IX (X : Cx) (W : XW) (f : FI) : TI := IJ (gX X) W f
def iSeq1 (f : FE) : FI := fun env ah => (f env ah).bind fun d ah1 => match d with
  | .tup ds => .ok ds ah1
  | .ct ds => .ok ds ah1
  | .lst ds => .ok ds ah1
  | _ => .bad
def rangeD (lo : Int) (n : Nat) : List D := (List.range n).map fun i => .int (lo + (i : Nat))
def rangeC (lo c : Int) (n : Nat) : List D := (List.range n).map fun i => .int (lo + (i : Nat) * c)
def rgIn (i : Int) : Prop := -(2 ^ 62) ≤ i ∧ i < 2 ^ 62
instance (i : Int) : Decidable (rgIn i) := by unfold rgIn; infer_instance
def iRange1 (fs : List FE) : FI := fun env ah => (iArgs fs env ah).bind fun ds ah1 => match ds with
  | [.int j] => if rgIn j then .ok (rangeD 0 j.toNat) ah1 else .bad
  | _ => .bad
def iRange2 (fs : List FE) : FI := fun env ah => (iArgs fs env ah).bind fun ds ah1 => match ds with
  | [.int i, .int j] => if rgIn i ∧ rgIn j then .ok (rangeD i (j - i).toNat) ah1 else .bad
  | _ => .bad
def iStrI (f : FE) : FI := fun env ah => (f env ah).bind fun d ah1 => match d with
  | .str x => .ok (x.cps.toList.map fun c => .str ⟨#[c]⟩) ah1
  | _ => .bad
def iRevI (f : FE) : FI := fun env ah => (f env ah).bind fun d ah1 => match d with
  | .tup ds => .ok ds.reverse ah1
  | .ct ds => .ok ds.reverse ah1
  | .lst ds => .ok ds.reverse ah1
  | _ => .bad
def zipD : List D → List D → List D
  | x :: xs, y :: ys => .tup [x, y] :: zipD xs ys
  | _, _ => []
def iZipI (fs : List FE) : FI := fun env ah => (iArgs fs env ah).bind fun ds ah1 => match ds with
  | [x, y] => match x, y with
    | .lst xs, .lst ys => .ok (zipD xs ys) ah1
    | .tup xs, .tup ys => .ok (zipD xs ys) ah1
    | _, _ => .bad
  | _ => .bad
def numD (k : Nat) : List D → List D
  | [] => []
  | d :: ds => .tup [.int (k : Nat), d] :: numD (k + 1) ds
def iEnumI (fs : List FE) : FI := fun env ah => (iArgs fs env ah).bind fun ds ah1 => match ds with
  | [.lst xs] => .ok (numD 0 xs) ah1
  | _ => .bad
theorem rangeD_len (lo : Int) (n : Nat) : (rangeD lo n).length = n := by simp [rangeD]
theorem zipD_len : ∀ xs ys : List D, (zipD xs ys).length = min xs.length ys.length
  | [], _ => by simp [zipD]
  | _ :: _, [] => by simp [zipD]
  | x :: xs, y :: ys => by simp only [zipD, List.length_cons, zipD_len xs ys]; omega
theorem zipD_get : ∀ {xs ys : List D} {i : Nat} {d : D}, (zipD xs ys)[i]? = some d → ∃ x y, xs[i]? = some x ∧ ys[i]? = some y ∧ d = .tup [x, y]
  | [], _, _, _, h => by simp [zipD] at h
  | _ :: _, [], _, _, h => by simp [zipD] at h
  | x :: xs, y :: ys, 0, d, h => by simp [zipD] at h; exact ⟨x, y, by simp, by simp, h.symm⟩
  | x :: xs, y :: ys, i + 1, d, h => by
    obtain ⟨a, b, h1, h2, h3⟩ := zipD_get (xs := xs) (ys := ys) (i := i) (by simpa [zipD] using h)
    exact ⟨a, b, by simpa using h1, by simpa using h2, h3⟩
theorem numD_len : ∀ (xs : List D) (k : Nat), (numD k xs).length = xs.length
  | [], _ => rfl
  | _ :: xs, k => by simp only [numD, List.length_cons, numD_len xs]
theorem numD_get : ∀ {xs : List D} {k i : Nat} {d : D}, (numD k xs)[i]? = some d → ∃ x, xs[i]? = some x ∧ d = .tup [.int ((k + i : Nat) : Int), x]
  | [], _, _, _, h => by simp [numD] at h
  | x :: xs, k, 0, d, h => by simp [numD] at h; exact ⟨x, by simp, by rw [← h]; rfl⟩
  | x :: xs, k, i + 1, d, h => by
    obtain ⟨a, h1, h2⟩ := numD_get (xs := xs) (k := k + 1) (i := i) (by simpa [numD] using h)
    exact ⟨a, by simpa using h1, by rw [h2, show k + 1 + i = k + (i + 1) by omega]⟩
section
variable {G : KW} {η : List Addr} {H : Hp}
theorem it_list {a : Addr} {ds : List D} {vs : List V} (h : FzL H a vs) (r : RelAll G η H ds vs) : ItOk G η H (Itl G.K a) ds where
  go := fun i d hd H' e => by
    obtain ⟨v, hv, rv⟩ := r.get hd
    refine ⟨⟨vs, v, (h.ext e).sq, hv⟩, fun x H'' y => ?_⟩
    obtain ⟨rfl, y⟩ := y
    have := y vs (h.ext e).sq
    rw [hv] at this
    cases this
    exact ⟨Same.refl _, rv.ext (List.prefix_refl _) e⟩
  stop := fun i hi H' e => ⟨vs, (h.ext e).sq, by rw [← r.length]; exact hi⟩
theorem it_tup {a : Addr} {ds : List D} {vs : List V} (h : SqT G.K H a vs) (r : RelAll G η H ds vs) : ItOk G η H (Itt G.K a) ds where
  go := fun i d hd H' e => by
    obtain ⟨v, hv, rv⟩ := r.get hd
    refine ⟨⟨vs, v, SqT.ext e h, hv⟩, fun x H'' y => ?_⟩
    obtain ⟨rfl, y⟩ := y
    have := y vs (SqT.ext e h)
    rw [hv] at this
    cases this
    exact ⟨Same.refl _, rv.ext (List.prefix_refl _) e⟩
  stop := fun i hi H' e => ⟨vs, SqT.ext e h, by rw [← r.length]; exact hi⟩
theorem it_range {lo : Int} {n : Nat} : ItOk G η H (Itr lo n) (rangeD lo n) where
  go := fun i d hd H' e => by
    have hi : i < n := by have := (List.getElem?_eq_some_iff.mp hd).1; rw [rangeD_len] at this; exact this
    refine ⟨hi, fun x H'' y => ?_⟩
    obtain ⟨rfl, rfl⟩ := y
    simp [rangeD, hi] at hd
    subst hd
    exact ⟨Same.refl _, .int _⟩
  stop := fun i hi H' e => by rw [rangeD_len] at hi; exact hi
theorem it_str {x : Str} : ItOk G η H (Its x) (x.cps.toList.map fun c => .str ⟨#[c]⟩) where
  go := fun i d hd H' e => by
    rw [List.getElem?_map] at hd
    obtain ⟨c, hc, rfl⟩ := Option.map_eq_some_iff.mp hd
    have hi : i < x.cps.size := by simpa using (List.getElem?_eq_some_iff.mp hc).1
    refine ⟨hi, fun v H'' y => ?_⟩
    obtain ⟨rfl, c', hc', rfl⟩ := y
    have : c' = c := by
      have h2 : x.cps[i]? = some c := by simpa using hc
      rw [h2] at hc'; exact (Option.some.inj hc').symm
    subst this
    exact ⟨Same.refl _, .str _⟩
  stop := fun i hi H' e => by simpa [Its] using hi
theorem it_revL {a : Addr} {ds : List D} {vs : List V} (h : FzL H a vs) (r : RelAll G η H ds vs) : ItOk G η H (Itv G.K a vs.length) ds.reverse where
  go := fun i d hd H' e => by
    have hi : i < ds.length := by simpa using (List.getElem?_eq_some_iff.mp hd).1
    rw [List.getElem?_reverse hi] at hd
    obtain ⟨v, hv, rv⟩ := r.get hd
    rw [r.length] at hv hi
    refine ⟨⟨by omega, vs, v, (h.ext e).sq, hv⟩, fun x H'' y => ?_⟩
    obtain ⟨rfl, y⟩ := y
    have := y vs (h.ext e).sq
    rw [hv] at this
    cases this
    exact ⟨Same.refl _, rv.ext (List.prefix_refl _) e⟩
  stop := fun i hi H' e => by
    rw [List.length_reverse, r.length] at hi
    exact hi
theorem it_revT {a : Addr} {ds : List D} {vs : List V} (h : SqT G.K H a vs) (r : RelAll G η H ds vs) : ItOk G η H (RT.ItvT G.K a vs.length) ds.reverse where
  go := fun i d hd H' e => by
    have hi : i < ds.length := by simpa using (List.getElem?_eq_some_iff.mp hd).1
    rw [List.getElem?_reverse hi] at hd
    obtain ⟨v, hv, rv⟩ := r.get hd
    rw [r.length] at hv hi
    refine ⟨⟨by omega, vs, v, SqT.ext e h, hv⟩, fun x H'' y => ?_⟩
    obtain ⟨rfl, y⟩ := y
    have := y vs (SqT.ext e h)
    rw [hv] at this
    cases this
    exact ⟨Same.refl _, rv.ext (List.prefix_refl _) e⟩
  stop := fun i hi H' e => by
    rw [List.length_reverse, r.length] at hi
    exact hi
theorem pair_new {x y : D} {v u : V} {H' : Hp} {T : Addr} (hT : H' T = none) (rx : Rel G η H' x v) (ry : Rel G η H' y u) : Same H' (upd H' T (.tup [v, u])) ∧ Rel G η (upd H' T (.tup [v, u])) (.tup [x, y]) (.ref T) := by
  have s := same_new (o := .tup [v, u]) hT
  have pf := List.prefix_refl η
  exact ⟨s, .tup upd_same (.cons (rx.ext pf (.of_same s)) (.cons (ry.ext pf (.of_same s)) .nil))⟩
theorem it_zipL {a b : Addr} {ds es : List D} {vs us : List V} (h : FzL H a vs) (r : RelAll G η H ds vs) (k : FzL H b us) (q : RelAll G η H es us) : ItOk G η H (Itz G.K a b) (zipD ds es) where
  go := fun i d hd H' e => by
    obtain ⟨x, y, hx, hy, rfl⟩ := zipD_get hd
    obtain ⟨v, hv, rv⟩ := r.get hx
    obtain ⟨u, hu, ru⟩ := q.get hy
    have pf := List.prefix_refl η
    refine ⟨⟨vs, us, v, u, (h.ext e).sq, (k.ext e).sq, hv, hu⟩, fun z H'' w => ?_⟩
    obtain ⟨T, v', u', rfl, hT, rfl, w1, w2⟩ := w
    have e1 := w1 vs (h.ext e).sq
    have e2 := w2 us (k.ext e).sq
    rw [hv] at e1; cases e1
    rw [hu] at e2; cases e2
    exact pair_new hT (rv.ext pf e) (ru.ext pf e)
  stop := fun i hi H' e => ⟨vs, us, (h.ext e).sq, (k.ext e).sq, by rw [zipD_len, r.length, q.length] at hi; omega⟩
theorem it_zipT {a b : Addr} {ds es : List D} {vs us : List V} (h : SqT G.K H a vs) (r : RelAll G η H ds vs) (k : SqT G.K H b us) (q : RelAll G η H es us) : ItOk G η H (RZ.ItzT G.K a b) (zipD ds es) where
  go := fun i d hd H' e => by
    obtain ⟨x, y, hx, hy, rfl⟩ := zipD_get hd
    obtain ⟨v, hv, rv⟩ := r.get hx
    obtain ⟨u, hu, ru⟩ := q.get hy
    have pf := List.prefix_refl η
    refine ⟨⟨vs, us, v, u, SqT.ext e h, SqT.ext e k, hv, hu⟩, fun z H'' w => ?_⟩
    obtain ⟨T, v', u', rfl, hT, rfl, w1, w2⟩ := w
    have e1 := w1 vs (SqT.ext e h)
    have e2 := w2 us (SqT.ext e k)
    rw [hv] at e1; cases e1
    rw [hu] at e2; cases e2
    exact pair_new hT (rv.ext pf e) (ru.ext pf e)
  stop := fun i hi H' e => ⟨vs, us, SqT.ext e h, SqT.ext e k, by rw [zipD_len, r.length, q.length] at hi; omega⟩
theorem it_enum {a : Addr} {ds : List D} {vs : List V} (h : FzL H a vs) (r : RelAll G η H ds vs) : ItOk G η H (Ite G.K a) (numD 0 ds) where
  go := fun i d hd H' e => by
    obtain ⟨x, hx, rfl⟩ := numD_get hd
    obtain ⟨v, hv, rv⟩ := r.get hx
    have pf := List.prefix_refl η
    refine ⟨⟨vs, v, (h.ext e).sq, hv⟩, fun z H'' w => ?_⟩
    obtain ⟨T, v', rfl, hT, rfl, w1⟩ := w
    have e1 := w1 vs (h.ext e).sq
    rw [hv] at e1; cases e1
    have e0 : ((0 + i : Nat) : Int) = ((i : Nat) : Int) := by omega
    rw [e0]
    exact pair_new hT (.int _) (rv.ext pf e)
  stop := fun i hi H' e => ⟨vs, (h.ext e).sq, by rw [numD_len, r.length] at hi; exact hi⟩
end
end DL
namespace DL
open PySem PySem.Spec PyProof.Rows L2
section
variable {X : Cx} {W : XW} {e e2 tg : Expr} {es : List Expr} {f : FE} {fs : List FE} {p pos tpos : Pos} {elts : List Expr} {kk : Nat}
theorem seq1_post {G : KW} {η : List Addr} {H : Hp} {ah : AH} {d : D} {v : V} {Q : List D → List Addr → Hp → AH → Prop} (pk : HpOk G η H ah) (r : Rel G η H d v)
    (h : Post G W η H (match d with | .tup ds => Res.ok ds ah | .ct ds => .ok ds ah | .lst ds => .ok ds ah | _ => .bad) Q) :
    ∃ a vs ds, v = .ref a ∧ RelAll G η H ds vs ∧ Q ds η H ah ∧ (SqT G.K H a vs ∨ FzL H a vs) := by
  cases r with
  | tup h1 r1 => exact ⟨_, _, _, rfl, r1, h.at pk, .inl (.inl (.inl h1))⟩
  | ct h1 r1 => exact ⟨_, _, _, rfl, r1, h.at pk, .inl h1.sqt⟩
  | lst h1 r1 => exact ⟨_, _, _, rfl, r1, h.at pk, .inr h1⟩
  | _ => exact h.elim
/-- a list (frozen) or a tuple -/
theorem PI.or {t t' : TI} (h : PI X tg e t) (h' : PI X tg e t') : PI X tg e (fun S H R => t S H R ∨ t' S H R) := ⟨fun pins s σ H R I q => q.elim (h.run pins s σ H R I) (h'.run pins s σ H R I)⟩
/-- .. told by the value -/
def tgSeq (K : PySem.W.Frag) (te : TE) : TI := fun σ H R => te σ H fun x H1 => ∃ a, x = .ref a ∧ ((∃ vs, SqL K H1 a vs ∧ R (Itl K a) H1) ∨ ∃ vs, SqT K H1 a vs ∧ R (Itt K a) H1)
theorem pi_seq {te : TE} (hl : PE X e te) : PI X tg e (tgSeq X.K te) := by
  refine ⟨fun pins s σ H R I h => ?_⟩
  refine thn (hl.run pins s σ H _ I h) fun v s1 ⟨x, H1, I1, r1, a, ea, q1⟩ => ?_
  subst ea
  cases r1
  have base : ∀ b, b = s1.heap.objs.size → FpOk X pins H1 b := fun b hb => by
    subst hb
    exact I1.fpOk (Nat.le_refl _) (I1.hok.fresh (Nat.le_refl _))
  rcases q1 with ⟨vs, hq, q⟩ | ⟨vs, hq, q⟩
  · obtain ⟨its, rv, pl, hz⟩ := I1.list hq
    refine wpAny_pyIter_list pl.isList ?_
    exact ⟨_, [s1.heap.objs.size], _, _, H1, rfl, I1.kept (t' := s1.toks) fun b o e => Heap.get?_push_of_some _ e, turn_list a _, ⟨_, Heap.get?_push_size _ rfl, rfl, rfl⟩, fun b hb => base b (by simpa using hb), q⟩
  · obtain ⟨its, rv, pl, hz⟩ := I1.tuple hq
    refine wpAny_pyIter_tuple (show s1.heap.IsTuple a its.toArray from pl) ?_
    exact ⟨_, [s1.heap.objs.size], _, _, H1, rfl, I1.kept (t' := s1.toks) fun b o e => Heap.get?_push_of_some _ e, turn_tuple a _, ⟨_, Heap.get?_push_size _ rfl, rfl, rfl⟩, fun b hb => base b (by simpa using hb), q⟩
theorem i_seq (h : PE X e (SX X W f)) : PI X tg e (IX X W (iSeq1 f)) := PI.imp (pi_seq h) fun S H R ⟨env, ah, η, en, pk, h⟩ =>
  ⟨env, ah, η, en, pk, h.bind.imp0 fun d η1 H1 ah1 m1 p1 q1 => fun v rv => by
    obtain ⟨a, vs, ds, rfl, r1, q2, q3⟩ := seq1_post p1 rv q1
    rcases q3 with q3 | q3
    · exact ⟨a, rfl, .inr ⟨vs, q3, q2 _ (it_tup q3 r1)⟩⟩
    · exact ⟨a, rfl, .inl ⟨vs, q3.sq, q2 _ (it_list q3 r1)⟩⟩⟩
theorem i_str (h : PE X e (SX X W f)) : PI X tg e (IX X W (iStrI f)) := PI.imp (pi_str h) fun S H R ⟨env, ah, η, en, pk, h⟩ =>
  ⟨env, ah, η, en, pk, h.bind.imp0 fun d η1 H1 ah1 m1 p1 q1 => fun v rv => by
    cases rv with
    | str x => exact ⟨x, rfl, q1.at p1 _ it_str⟩
    | _ => exact q1.elim⟩
theorem i_rev (hg : Gl X "reversed") (hm : X.mg "reversed" = none) (h : PE X e (SX X W f)) (hs : starEach [e] X.env = (false, eval e X.env) :: starEach [] X.env := by rfl) : PI X tg (.Call (.Name "reversed" p) [e] [] pos) (IX X W (iRevI f)) :=
  PI.imp (RT.pi_revA hg hm h hs) fun S H R ⟨env, ah, η, en, pk, h⟩ =>
  ⟨env, ah, η, en, pk, h.bind.imp0 fun d η1 H1 ah1 m1 p1 q1 => fun v rv => by
    cases rv with
    | tup h1 r1 => exact ⟨_, _, rfl, .inr ⟨.inl (.inl h1), q1.at p1 _ (it_revT (.inl (.inl h1)) r1)⟩⟩
    | ct h1 r1 => exact ⟨_, _, rfl, .inr ⟨h1.sqt, q1.at p1 _ (it_revT h1.sqt r1)⟩⟩
    | lst h1 r1 => exact ⟨_, _, rfl, .inl ⟨h1.sq, q1.at p1 _ (it_revL h1 r1)⟩⟩
    | _ => exact q1.elim⟩
theorem i_range1 {a : Expr} (hg : Gl X "range") (hm : X.mg "range" = none) (ha : PA X [a] (AX' X W fs)) (hs : starEach [a] X.env = [(false, eval a X.env)] := by rfl) : PI X tg (.Call (.Name "range" p) [a] [] pos) (IX X W (iRange1 fs)) :=
  PI.imp (pi_range1 hg hm ha hs) fun S H R ⟨env, ah, η, en, pk, h⟩ =>
  ⟨env, ah, η, en, pk, h.bind.imp0 fun ds η1 H1 ah1 m1 p1 q1 => fun vs rs => by
    split at q1
    · rename_i j
      cases rs with
      | cons r rr =>
        cases r; cases rr
        split at q1
        · rename_i hj
          exact ⟨j, rfl, hj.1, hj.2, q1.at p1 _ it_range⟩
        · exact q1.elim
    · exact q1.elim⟩
theorem i_range2 {a b : Expr} (hg : Gl X "range") (hm : X.mg "range" = none) (ha : PA X [a, b] (AX' X W fs)) (hs : starEach [a, b] X.env = [(false, eval a X.env), (false, eval b X.env)] := by rfl) (hs2 : starEach [b] X.env = [(false, eval b X.env)] := by rfl) :
    PI X tg (.Call (.Name "range" p) [a, b] [] pos) (IX X W (iRange2 fs)) :=
  PI.imp (pi_range2 hg hm ha hs hs2) fun S H R ⟨env, ah, η, en, pk, h⟩ =>
  ⟨env, ah, η, en, pk, h.bind.imp0 fun ds η1 H1 ah1 m1 p1 q1 => fun vs rs => by
    split at q1
    · rename_i i j
      cases rs with
      | cons r rr =>
        cases r
        cases rr with
        | cons r rr =>
          cases r; cases rr
          split at q1
          · rename_i hj
            exact ⟨i, j, rfl, ⟨hj.1.1, hj.1.2, hj.2.1, hj.2.2⟩, q1.at p1 _ it_range⟩
          · exact q1.elim
    · exact q1.elim⟩
theorem i_zip (hg : Gl X "zip") (hm : X.mg "zip" = none) (ha : PA X [e, e2] (AX' X W fs)) (hs : starEach [e, e2] X.env = (false, eval e X.env) :: starEach [e2] X.env := by rfl) (hpl : (backTo pos (starEach [e2] X.env)).any (·.1) = false := by rfl) :
    PI X (.Tuple elts kk tpos) (.Call (.Name "zip" p) [e, e2] [] pos) (IX X W (iZipI fs)) :=
  PI.imp (RZ.pi_zipA hg hm ha hs hpl) fun S H R ⟨env, ah, η, en, pk, h⟩ =>
  ⟨env, ah, η, en, pk, h.bind.imp0 fun ds η1 H1 ah1 m1 p1 q1 => fun vs rs => by
    split at q1
    · cases rs with
      | cons r rr =>
        cases rr with
        | cons r2 rr =>
          cases rr
          split at q1
          · cases r with
            | lst h1 r1 =>
              cases r2 with
              | lst h2 r2 => exact ⟨_, _, _, _, rfl, .inl ⟨h1.sq, h2.sq, q1.at p1 _ (it_zipL h1 r1 h2 r2)⟩⟩
          · cases r with
            | tup h1 r1 =>
              cases r2 with
              | tup h2 r2 => exact ⟨_, _, _, _, rfl, .inr ⟨.inl (.inl h1), .inl (.inl h2), q1.at p1 _ (it_zipT (.inl (.inl h1)) r1 (.inl (.inl h2)) r2)⟩⟩
          · exact q1.elim
    · exact q1.elim⟩
theorem i_enum (hg : Gl X "enumerate") (hm : X.mg "enumerate" = none) (ha : PA X [e] (AX' X W fs)) (hs : starEach [e] X.env = [(false, eval e X.env)] := by rfl) :
    PI X (.Tuple elts kk tpos) (.Call (.Name "enumerate" p) [e] [] pos) (IX X W (iEnumI fs)) :=
  PI.imp (pi_enum hg hm ha hs) fun S H R ⟨env, ah, η, en, pk, h⟩ =>
  ⟨env, ah, η, en, pk, h.bind.imp0 fun ds η1 H1 ah1 m1 p1 q1 => fun vs rs => by
    split at q1
    · cases rs with
      | cons r rr =>
        cases rr
        cases r with
        | lst h1 r1 => exact ⟨_, _, rfl, h1.sq, q1.at p1 _ (it_enum h1 r1)⟩
    · exact q1.elim⟩
end
inductive Pt where
  | nm (i : Nat)
  | tp (ps : List Pt)
mutual
def ptB : Pt → D → AE → Option AE
  | .nm i, d, env => some (env.set i (some d))
  | .tp ps, d, env => match d with
    | .tup ds => ptBL ps ds env
    | .ct ds => ptBL ps ds env
    | .lst ds => ptBL ps ds env
    | _ => none
def ptBL : List Pt → List D → AE → Option AE
  | [], [], env => some env
  | p :: ps, d :: ds, env => match ptB p d env with
    | some env1 => ptBL ps ds env1
    | none => none
  | _, _, _ => none
end
mutual
def Pt.ix : Pt → List Nat
  | .nm i => [i]
  | .tp ps => Pt.ixL ps
def Pt.ixL : List Pt → List Nat
  | [] => []
  | p :: ps => p.ix ++ Pt.ixL ps
end
/-- but for those names the slots are as they were -/
def Kz (is : List Nat) (S S' : L2.St) : Prop := S'.length = S.length ∧ ∀ j, j ∉ is → S'[j]? = S[j]?
theorem Kz.trans {is js : List Nat} {S S1 S2 : L2.St} (a : Kz is S S1) (b : Kz js S1 S2) : Kz (is ++ js) S S2 := ⟨b.1.trans a.1, fun j h => (b.2 j fun z => h (List.mem_append_right _ z)).trans (a.2 j fun z => h (List.mem_append_left _ z))⟩
theorem Kz.mono {is js : List Nat} {S S1 : L2.St} (a : Kz is S S1) (h : ∀ i ∈ is, i ∈ js) : Kz js S S1 := ⟨a.1, fun j n => a.2 j fun z => n (h j z)⟩
def GJ (G : KW) (is : List Nat) (f : D → AE → Option AE) : TG := fun v S H Q => ∃ (env : AE) (η : List Addr) (d : D) (env' : AE), EnvOk G η H env S ∧ Rel G η H d v ∧ f d env = some env' ∧ ∀ S', EnvOk G η H env' S' → Kz is S S' → Q S' H
def GsJ (G : KW) (is : List Nat) (f : List D → AE → Option AE) : TGs := fun vs S H Q => ∃ (env : AE) (η : List Addr) (ds : List D) (env' : AE), EnvOk G η H env S ∧ RelAll G η H ds vs ∧ f ds env = some env' ∧ ∀ S', EnvOk G η H env' S' → Kz is S S' → Q S' H
section
variable {X : Cx} {W : XW} {e e2 tg : Expr} {es : List Expr} {f : FE} {fs : List FE} {p pos tpos : Pos} {elts : List Expr} {kk : Nat}
/-- a target -/
abbrev GP (X : Cx) (q : Pt) : TG := GJ (gX X) q.ix (ptB q)
abbrev GPs (X : Cx) (qs : List Pt) : TGs := GsJ (gX X) (Pt.ixL qs) (ptBL qs)
theorem g_nm (i : Nat) {x : Str} (hN : X.N.Nodup) (hi : X.N[i]? = some x := by rfl) (hx : Loc X.env.scope x := by first | exact Or.inl rfl | exact Or.inr rfl) (hf : X.fn x = true ∨ X.env.scope.names.lookup x = some .local := by first | exact .inl rfl | exact .inr rfl) :
    PG X (.Name x pos) (GP X (.nm i)) := PG.imp (pg_name hN hi hx hf) fun v S H Q ⟨env, η, d, env', en, r, h, k⟩ => by
  simp only [ptB] at h
  cases h
  refine k _ (en.set i r) ⟨by simp, fun j n => ?_⟩
  have hj : i ≠ j := fun z => n (by rw [z]; simp [Pt.ix])
  rw [List.getElem?_set_ne hj]
theorem gs_nil : PGs X [] (GPs X []) := PGs.imp pgs_nil fun vs S H Q ⟨env, η, ds, env', en, r, h, k⟩ => by
  cases r with
  | nil => simp only [ptBL] at h; cases h; exact ⟨rfl, k _ en ⟨rfl, fun _ _ => rfl⟩⟩
  | cons _ _ => simp only [ptBL] at h; cases h
theorem gs_cons {q : Pt} {qs : List Pt} (h1 : PG X e (GP X q)) (h2 : PGs X es (GPs X qs)) (hs : (assignEach (e :: es) X.env).map (·.2) = assign e X.env :: (assignEach es X.env).map (·.2) := by rfl) :
    PGs X (e :: es) (GPs X (q :: qs)) := PGs.imp (pgs_cons h1 h2 hs) fun vs S H Q ⟨env, η, ds, env', en, r, h, k⟩ => by
  cases r with
  | nil => simp only [ptBL] at h; cases h
  | cons r rr =>
    simp only [ptBL] at h
    split at h
    · rename_i env1 e1
      exact ⟨_, _, rfl, env, η, _, env1, en, r, e1, fun S' en' k1 => ⟨env1, η, _, env', en', rr, h, fun S2 en2 k2 => k S2 en2 (k1.trans k2)⟩⟩
    · cases h
theorem ptBL_len : ∀ {ps : List Pt} {ds : List D} {env env' : AE}, ptBL ps ds env = some env' → ds.length = ps.length
  | [], [], _, _, _ => rfl
  | [], _ :: _, _, _, h => by simp [ptBL] at h
  | _ :: _, [], _, _, h => by simp [ptBL] at h
  | p :: ps, d :: ds, env, env', h => by
    simp only [ptBL] at h
    split at h
    · rw [List.length_cons, List.length_cons, ptBL_len h]
    · cases h
theorem g_tp {qs : List Pt} (hc : X.calm = true) (h : PGs X es (GPs X qs)) (hn : (assignEach es X.env).length = qs.length := by rfl) (hst : (assignEach es X.env).findIdx? (·.1) = none := by rfl) :
    PG X (.Tuple es kk pos) (GP X (.tp qs)) := ⟨fun pins s S H v u Q I rv ⟨env, η, d, env', en, r, h0, k⟩ => by
  have A := pg_tup (k := kk) (pos := pos) hc h hn hst
  have B := pg_lst (k := kk) (pos := pos) hc h hn hst
  simp only [ptB] at h0
  cases r with
  | tup h1 r1 => exact A.run pins s S H _ u Q I rv ⟨_, _, rfl, .inl (.inl h1), by rw [← r1.length]; exact ptBL_len h0, env, η, _, env', en, r1, h0, k⟩
  | ct h1 r1 => exact A.run pins s S H _ u Q I rv ⟨_, _, rfl, h1.sqt, by rw [← r1.length]; exact ptBL_len h0, env, η, _, env', en, r1, h0, k⟩
  | lst h1 r1 => exact B.run pins s S H _ u Q I rv ⟨_, _, rfl, h1.sq, by rw [← r1.length]; exact ptBL_len h0, env, η, _, env', en, r1, h0, k⟩
  | _ => cases h0⟩
end
inductive Fl where
  | nx | rt (d : D) | bk | ct
abbrev FS := AE → AH → Res (Fl × AE)
/-- what a flow wants -/
def QS (G : KW) (Dn : Ends) : Fl × AE → List Addr → Hp → AH → Prop := fun r η H _ => match r.1 with
  | .nx => ∀ S', EnvOk G η H r.2 S' → Dn.nx S' H
  | .rt d => ∀ v, Rel G η H d v → Dn.rt v H
  | .bk => ∀ S', EnvOk G η H r.2 S' → Dn.bk S' H
  | .ct => ∀ S', EnvOk G η H r.2 S' → Dn.ct S' H
def SS (G : KW) (W : XW) (f : FS) : TS := fun Dn S H => ∃ (env : AE) (ah : AH) (η : List Addr), EnvOk G η H env S ∧ HpOk G η H ah ∧ Post G W η H (f env ah) (QS G Dn)
abbrev SSX (X : Cx) (W : XW) (f : FS) : TS := SS (gX X) W f
def sNx : FS := fun env ah => .ok (.nx, env) ah
def sSeq (f g : FS) : FS := fun env ah => (f env ah).bind fun r ah1 => match r with
  | (.nx, env1) => g env1 ah1
  | r => .ok r ah1
def sRet (f : FE) : FS := fun env ah => (f env ah).bind fun d ah1 => .ok (.rt d, env) ah1
def sRetN : FS := fun env ah => .ok (.rt .non, env) ah
def sDrop (f : FE) : FS := fun env ah => (f env ah).bind fun _ ah1 => .ok (.nx, env) ah1
def sIf (t : FT) (f g : FS) : FS := fun env ah => (t env ah).bind fun b ah1 => if b = true then f env ah1 else g env ah1
def sBk : FS := fun env ah => .ok (.bk, env) ah
def sCt : FS := fun env ah => .ok (.ct, env) ah
/-- targets = e -/
def sAsg (g : D → AE → Option AE) (f : FE) : FS := fun env ah => (f env ah).bind fun d ah1 => match g d env with
  | some env1 => .ok (.nx, env1) ah1
  | none => .bad
section
variable {X : Cx} {W : XW} {st : Stmt} {rest a b : List Stmt} {e tg : Expr} {es : List Expr} {f : FE} {ft : FT} {s g : FS} {fs : List FE} {p pos pos' tpos : Pos} {elts : List Expr} {kk : Nat}
theorem s_nil : PSs X [] (SSX X W sNx) := PSs.imp pss_nil fun Dn S H ⟨env, ah, η, en, pk, h⟩ => h.at pk S en
theorem s_cons (h : PS X st (SSX X W s)) (k : PSs X rest (SSX X W g)) : PSs X (st :: rest) (SSX X W (sSeq s g)) := PSs.imp (pss_cons h k) fun Dn S H ⟨env, ah, η, en, pk, h⟩ =>
  ⟨env, ah, η, en, pk, h.bind.imp0 fun r η1 H1 ah1 m1 p1 q1 => by
    obtain ⟨fl, env1⟩ := r
    cases fl with
    | nx => exact fun S' en' => ⟨env1, ah1, η1, en', p1, q1⟩
    | rt d => exact q1.at p1
    | bk => exact q1.at p1
    | ct => exact q1.at p1⟩
theorem s_one (h : PS X st (SSX X W s)) : PSs X [st] (SSX X W s) := pss_one h
theorem s_ret (h : PE X e (SX X W f)) : PS X (.Return (some e) pos) (SSX X W (sRet f)) := PS.imp (ps_ret h) fun Dn S H ⟨env, ah, η, en, pk, h⟩ =>
  ⟨env, ah, η, en, pk, h.bind.imp0 fun d η1 H1 ah1 m1 p1 q1 => q1.at p1⟩
theorem s_retN : PS X (.Return none pos) (SSX X W sRetN) := PS.imp ps_retN fun Dn S H ⟨env, ah, η, en, pk, h⟩ => h.at pk _ .non
theorem s_drop (h : PE X e (SX X W f)) (hs : swapsWith e none pos.line X.env = pure false := by rfl) : PS X (.Expr e pos) (SSX X W (sDrop f)) := PS.imp (ps_expr h hs) fun Dn S H ⟨env, ah, η, en, pk, h⟩ =>
  ⟨env, ah, η, en, pk, h.bind.imp0 fun d η1 H1 ah1 m1 p1 q1 => fun v rv => q1.at p1 S (en.mv m1)⟩
theorem s_doc {x : Str} {j : Nat} {pos' : Pos} : PS X (.Expr (.Constant (.str x) j pos) pos') (SSX X W sNx) := PS.imp ps_doc fun Dn S H ⟨env, ah, η, en, pk, h⟩ => h.at pk S en
theorem s_if {c : Expr} (hc : PT X c (TX X W ft)) (ha : PSs X a (SSX X W s)) (hb : PSs X b (SSX X W g)) : PS X (.If c a b pos) (SSX X W (sIf ft s g)) := PS.imp (ps_if hc ha hb) fun Dn S H ⟨env, ah, η, en, pk, h⟩ =>
  ⟨env, ah, η, en, pk, h.bind.imp0 fun b η1 H1 ah1 m1 p1 q1 => by
    cases b with
    | true => exact ⟨env, ah1, η1, en.mv m1, p1, q1⟩
    | false => exact ⟨env, ah1, η1, en.mv m1, p1, q1⟩⟩
theorem s_bk : PS X (.Break pos) (SSX X W sBk) := PS.imp ps_break fun Dn S H ⟨env, ah, η, en, pk, h⟩ => h.at pk S en
theorem s_ct : PS X (.Continue pos) (SSX X W sCt) := PS.imp ps_continue fun Dn S H ⟨env, ah, η, en, pk, h⟩ => h.at pk S en
theorem s_pass : PS X (.Pass pos) (SSX X W sNx) := PS.imp ps_pass fun Dn S H ⟨env, ah, η, en, pk, h⟩ => h.at pk S en
/-- name = e -/
theorem s_set (i : Nat) {x : Str} (hN : X.N.Nodup) (he : PE X e (SX X W f)) (hi : X.N[i]? = some x := by rfl) (hx : Loc X.env.scope x := by first | exact Or.inl rfl | exact Or.inr rfl) (hs : swapsWith e (some (.Name x pos')) pos.line X.env = pure false := by rfl) (hf : X.fn x = true ∨ X.env.scope.names.lookup x = some .local := by first | exact .inl rfl | exact .inr rfl) :
    PS X (.Assign [.Name x pos'] e pos) (SSX X W (sAsg (ptB (.nm i)) f)) := PS.imp (ps_set hN hi hx he hs hf) fun Dn S H ⟨env, ah, η, en, pk, h⟩ =>
  ⟨env, ah, η, en, pk, h.bind.imp0 fun d η1 H1 ah1 m1 p1 q1 => fun v rv => by
    simp only [ptB] at q1
    exact q1.at p1 _ ((en.mv m1).set i rv)⟩
/-- a, b = e -/
theorem s_asg {g : D → AE → Option AE} {is : List Nat} (he : PE X e (SX X W f)) (hg : PG X tg (GJ (gX X) is g)) (hs : swapsWithSole [tg] e pos.line X.env = pure false := by rfl) (hw : swappedStores [tg] e X.env = pure none := by rfl) (h1 : (assignEach [tg] X.env).map (·.2) = [assign tg X.env] := by rfl) :
    PS X (.Assign [tg] e pos) (SSX X W (sAsg g f)) := PS.imp (ps_asg he hg hs hw h1) fun Dn S H ⟨env, ah, η, en, pk, h⟩ =>
  ⟨env, ah, η, en, pk, h.bind.imp0 fun d η1 H1 ah1 m1 p1 q1 => fun v rv => by
    split at q1
    · rename_i env1 e1
      exact ⟨env, η1, d, env1, en.mv m1, rv, e1, fun S' en' _ => q1.at p1 S' en'⟩
    · exact q1.elim⟩
def forL (g : D → AE → Option AE) (body : FS) : List D → AE → AH → Res (Fl × AE)
  | [], env, ah => .ok (.nx, env) ah
  | d :: ds, env, ah => match g d env with
    | none => .bad
    | some env1 => (body env1 ah).bind fun r ah1 => match r with
      | (.nx, env2) => forL g body ds env2 ah1
      | (.ct, env2) => forL g body ds env2 ah1
      | (.bk, env2) => .ok (.nx, env2) ah1
      | (.rt d, env2) => .ok (.rt d, env2) ah1
def sFor (fi : FI) (g : D → AE → Option AE) (body : FS) : FS := fun env ah => (fi env ah).bind fun ds ah1 => forL g body ds env ah1
theorem s_for {iter : Expr} {body : List Stmt} {fi : FI} {q : Pt} {fb : FS} (hp : PassesOwn (model X.prog X.w) X.A X.env X.xe) (hc : X.calm = true) (hi : PI X tg iter (IX X W fi)) (hg : PG X tg (GP X q)) (hb : PSs X body (SSX X W fb))
    (hs : ∀ x, foldedSetIterable iter X.env x = pure x := by intro _; rfl) : PS X (.For tg iter body [] pos) (SSX X W (sFor fi (ptB q) fb)) := PS.imp (ps_for hp hc hi hg hb hs) fun Dn S H ⟨env, ah, η, en, pk, h⟩ => by
  refine ⟨env, ah, η, en, pk, h.bind.imp0 fun ds η1 H1 ah1 m1 p1 q1 => fun J hJ => ?_⟩
  refine ⟨fun i m S H => m = ds.length - i ∧ i ≤ ds.length ∧ ∃ env ah η, EnvOk (gX X) η H env S ∧ HpOk (gX X) η H ah ∧ Mv η1 H1 η H ∧ Post (gX X) W η H (forL (ptB q) fb (ds.drop i) env ah) (QS (gX X) Dn),
    ⟨ds.length, by simp, Nat.zero_le _, env, ah1, η1, en.mv m1, p1, Mv.refl, q1⟩, ?_⟩
  rintro i m S2 H2 ⟨rfl, hi, env2, ah2, η2, en2, p2, m2, q2⟩
  by_cases hlt : i < ds.length
  · have hd : ds[i]? = some ds[i] := by simp [hlt]
    obtain ⟨hgo, hy⟩ := hJ.go i _ hd H2 m2.ext
    refine .inr ⟨hgo, fun S' H' => i + 1 ≤ ds.length ∧ ∃ env ah η, EnvOk (gX X) η H' env S' ∧ HpOk (gX X) η H' ah ∧ Mv η1 H1 η H' ∧ Post (gX X) W η H' (forL (ptB q) fb (ds.drop (i + 1)) env ah) (QS (gX X) Dn),
      fun S' H' k => ⟨ds.length - (i + 1), by omega, rfl, k⟩, fun x H3 y => ?_⟩
    obtain ⟨sm, rx⟩ := hy x H3 y
    rw [List.drop_eq_getElem_cons hlt] at q2
    simp only [forL] at q2
    split at q2
    · exact q2.elim
    · rename_i env3 e3
      have m3 : Mv η2 H2 η2 H3 := .same sm
      refine ⟨env2, η2, ds[i], env3, en2.mv m3, rx.ext m2.pre (Ext.refl _), e3, fun S3 en3 _ => ⟨env3, ah2, η2, en3, p2.same sm, (q2.mono m3).bind.imp0 fun r η4 H4 ah4 m4 p4 q4 => ?_⟩⟩
      obtain ⟨fl, env4⟩ := r
      have m5 : Mv η1 H1 η4 H4 := (m2.trans m3).trans m4
      cases fl with
      | nx => exact fun S' en' => ⟨by omega, env4, ah4, η4, en', p4, m5, q4⟩
      | ct => exact fun S' en' => ⟨by omega, env4, ah4, η4, en', p4, m5, q4⟩
      | bk => exact q4.at p4
      | rt d => exact q4.at p4
  · have hi2 : ds.length ≤ i := by omega
    rw [List.drop_of_length_le hi2] at q2
    exact .inl ⟨hJ.stop i hi2 H2 m2.ext, q2.at p2 S2 en2⟩
end
def wipeA (env : AE) : List Nat → AE
  | [] => env
  | v :: vs => (wipeA env vs).set v none
theorem EnvOk.wipe {G : KW} {η : List Addr} {H : Hp} {env : AE} {S : L2.St} (h : EnvOk G η H env S) : ∀ vs : List Nat, EnvOk G η H (wipeA env vs) (L2.wipe S vs)
  | [] => h
  | v :: vs => by
    have k := EnvOk.wipe h vs
    refine ⟨by simp [wipeA, L2.wipe, k.len], fun i d e => ?_⟩
    simp only [wipeA] at e
    by_cases hi : v = i
    · subst hi
      have hl : v < (wipeA env vs).length := by
        have := (List.getElem?_eq_some_iff.mp e).1
        simpa using this
      rw [List.getElem?_set_self hl] at e
      cases e
    · rw [List.getElem?_set_ne hi] at e
      obtain ⟨w, h1, h2⟩ := k.ok i d e
      exact ⟨w, by simp only [L2.wipe]; rw [List.getElem?_set_ne hi]; exact h1, h2⟩
theorem wipe_len (S : L2.St) : ∀ vs : List Nat, (L2.wipe S vs).length = S.length
  | [] => rfl
  | v :: vs => by simp [L2.wipe, wipe_len S vs]
theorem wipe_in {S : L2.St} : ∀ {vs : List Nat} {i : Nat}, i ∈ vs → i < S.length → (L2.wipe S vs)[i]? = some none
  | v :: vs, i, h, hl => by
    simp only [L2.wipe]
    by_cases e : v = i
    · subst e
      rw [List.getElem?_set_self (by rw [wipe_len]; exact hl)]
    · rw [List.getElem?_set_ne e]
      rcases List.mem_cons.mp h with q | q
      · exact absurd q.symm e
      · exact wipe_in q hl
theorem wipe_kz {vs : List Nat} {S S' : L2.St} (k : Kz vs (L2.wipe S vs) S') : L2.wipe S' vs = L2.wipe S vs := by
  have hl : S'.length = S.length := k.1.trans (wipe_len S vs)
  refine List.ext_getElem? fun i => ?_
  by_cases h : i ∈ vs
  · by_cases hi : i < S.length
    · rw [wipe_in h (by rw [hl]; exact hi), wipe_in h hi]
    · rw [List.getElem?_eq_none (by rw [wipe_len, hl]; omega), List.getElem?_eq_none (by rw [wipe_len]; omega)]
  · rw [wipe_out h, k.2 i h]
def compL (g : D → AE → Option AE) (t : FT) (f : FE) (env : AE) : List D → List D → AH → Res (List D)
  | [], acc, ah => .ok acc ah
  | d :: ds, acc, ah => match g d env with
    | none => .bad
    | some env1 => (t env1 ah).nox.bind fun b ah1 => if b = true then (f env1 ah1).nox.bind fun x ah2 => if acc.length < sizeLine then compL g t f env ds (acc ++ [x]) ah2 else .bad else compL g t f env ds acc ah1
/-- [f for q in fi if t], as it stays -/
def iLc (fi : FI) (g : D → AE → Option AE) (t : FT) (f : FE) (vs : List Nat) : FE := fun env ah => (fi env ah).bind fun ds ah1 => (compL g t f (wipeA env vs) ds [] ah1).bind fun xs ah2 => .ok (.lst xs) ah2
/-- .. that will change -/
def iLcM (fi : FI) (g : D → AE → Option AE) (t : FT) (f : FE) (vs : List Nat) : FE := fun env ah => (fi env ah).bind fun ds ah1 => (compL g t f (wipeA env vs) ds [] ah1).bind fun xs ah2 => .ok (.ref ah2.length) (ah2 ++ [.lst xs])
section
variable {X : Cx} {W : XW} {elt tg iter : Expr} {ifs : List Expr} {scope : Scope} {own : List (Str × Nat)} {pos : Pos} {fi : FI} {q : Pt} {ft : FT} {f : FE}
theorem c_nil : PTs X [] (TX X W fun _ ah => .ok true ah) := PTs.imp pts_nil fun S H Q ⟨env, ah, η, en, pk, h⟩ => h.at pk
theorem c_one {c : Expr} (h : PT X c (TX X W ft)) : PTs X [c] (TX X W ft) := pts_one h
/-- the loop of a comprehension, its end wanted as R -/
theorem lc_loop {β : Type} {G : KW} {vs : List Nat} {S : L2.St} {H : Hp} {R : VK} {k : List D → AH → Res β} {Q : β → List Addr → Hp → AH → Prop} {env : AE} {ah : AH} {η : List Addr}
    (en : EnvOk G η H env S) (pk : HpOk G η H ah) (hq : ∀ i ∈ q.ix, i ∈ vs) (h : Post G W η H ((fi env ah).bind fun ds ah1 => (compL (ptB q) ft f (wipeA env vs) ds [] ah1).bind k) Q)
    (fin : ∀ (Dd : Addr) (η1 η' : List Addr) (H1 H' : Hp) (acc : List V) (xs : List D) (ah' : AH), Mv η H η1 H1 → H1 Dd = none → H' Dd = some (.lst acc) → Dd ∉ η' → RelAll G η' H' xs acc → Mv η1 H1 η' H' → HpOk G η' H' ah' → Post G W η1 H1 (k xs ah') Q → R (.ref Dd) H') :
    tLc (IJ G W fi) (GJ G q.ix (ptB q)) (TJ G noW ft) (SJ G noW f) vs S H R := by
  refine ⟨env, ah, η, en, pk, h.bind.imp0 fun ds η1 H1 ah1 m1 p1 q1 => fun J hJ => ?_⟩
  intro Dd hD
  have hD0 := same_new (o := .lst []) hD
  have en0 := (en.mv m1).wipe vs
  refine ⟨fun i m H' => m = ds.length - i ∧ i ≤ ds.length ∧ ∃ acc xs ah η', H' Dd = some (.lst acc) ∧ Dd ∉ η' ∧ RelAll G η' H' xs acc ∧ HpOk G η' H' ah ∧ Mv η1 H1 η' H' ∧ Post G W η1 H1 ((compL (ptB q) ft f (wipeA env vs) (ds.drop i) xs ah).bind k) Q,
    ⟨ds.length, by simp, Nat.zero_le _, [], [], ah1, η1, upd_same, p1.fresh hD, .nil, p1.same hD0, .same hD0, q1⟩, ?_⟩
  rintro i m H2 ⟨rfl, hi, acc, xs, ah2, η2, hD2, nD, r2, p2, m2, q2⟩
  by_cases hlt : i < ds.length
  · have hd : ds[i]? = some ds[i] := by simp [hlt]
    obtain ⟨hgo, hy⟩ := hJ.go i _ hd H2 m2.ext
    refine .inr ⟨hgo, fun H' => i + 1 ≤ ds.length ∧ ∃ acc xs ah η', H' Dd = some (.lst acc) ∧ Dd ∉ η' ∧ RelAll G η' H' xs acc ∧ HpOk G η' H' ah ∧ Mv η1 H1 η' H' ∧ Post G W η1 H1 ((compL (ptB q) ft f (wipeA env vs) (ds.drop (i + 1)) xs ah).bind k) Q,
      fun H' k => ⟨ds.length - (i + 1), by omega, rfl, k⟩, fun x H3 y => ?_⟩
    obtain ⟨sm, rx⟩ := hy x H3 y
    rw [List.drop_eq_getElem_cons hlt] at q2
    simp only [compL] at q2
    split at q2
    · exact q2.elim
    · rename_i env3 e3
      have m3 : Mv η2 H2 η2 H3 := .same sm
      have m13 := m2.trans m3
      refine ⟨wipeA env vs, η2, ds[i], env3, en0.mv m13, rx.ext m2.pre (Ext.refl _), e3, fun S3 en3 kz => ⟨?_, ?_⟩⟩
      · exact wipe_kz (kz.mono hq)
      · have assoc : ∀ {α β γ : Type} (r : Res α) (g1 : α → AH → Res β) (g2 : β → AH → Res γ), (r.bind g1).bind g2 = r.bind fun a h => (g1 a h).bind g2 := fun r _ _ => by cases r <;> rfl
        rw [assoc] at q2
        have q3 := Post.bindB q2 m13
        refine ⟨env3, ah2, η2, en3, p2.same sm, (Post.nox q3).imp0 fun b η4 H4 ah4 m4 p4 q4 => ?_⟩
        have m14 := m13.trans m4
        have hD4 : H4 Dd = some (.lst acc) := m4.frm _ _ (m3.frm _ _ hD2 nD) nD
        have nD4 : Dd ∉ η4 := fun z => (m4.new _ z).elim nD fun w => by rw [m3.frm _ _ hD2 nD] at w; cases w
        cases b with
        | true =>
          simp only [if_true] at q4 ⊢
          rw [assoc] at q4
          have q5 := Post.bindB q4 m14
          refine ⟨env3, ah4, η4, en3.mv m4, p4, (Post.nox q5).imp0 fun z η5 H5 ah5 m5 p5 q6 => fun w rw' => ?_⟩
          have hD5 : H5 Dd = some (.lst acc) := m5.frm _ _ hD4 nD4
          have nD5 : Dd ∉ η5 := fun z => (m5.new _ z).elim nD4 fun w => by rw [hD4] at w; cases w
          have r5 : RelAll G η5 H5 xs acc := (r2.mv m3).mv (m4.trans m5)
          split at q6
          · rename_i hz
            have m6 : Mv η5 H5 η5 H5 := Mv.refl
            have E : Ext H5 (upd H5 Dd (.lst (acc ++ [w]))) := Ext.upd hD5 (fun _ z => nomatch z) (fun _ _ z => nomatch z)
            refine ⟨acc, hD5, by rw [← r2.length]; exact hz, by omega, acc ++ [w], xs ++ [z], ah5, η5, upd_same, nD5, (r5.snoc rw').ext (List.prefix_refl _) E, p5.side nD5 hD5 (fun _ z => nomatch z) (fun _ _ z => nomatch z), (m14.trans m5).side hD hD5, q6⟩
          · exact q6.elim
        | false =>
          rw [if_neg Bool.false_ne_true] at q4
          dsimp only
          rw [if_neg Bool.false_ne_true]
          exact ⟨by omega, acc, xs, ah4, η4, hD4, nD4, r2.mv (m3.trans m4), p4, m14, q4⟩
  · have hi2 : ds.length ≤ i := by omega
    rw [List.drop_of_length_le hi2] at q2
    exact .inl ⟨hJ.stop i hi2 H2 m2.ext, fin Dd η1 η2 H1 H2 acc xs ah2 m1 hD hD2 nD r2 m2 p2 q2⟩
end
end DL
namespace DL
open PySem PySem.Spec PyProof.Rows L2
/-- no repr is under way -/
def NoRepr (A : Around) : Prop := A.guards = some []
theorem NoRepr.deeper {A : Around} (h : NoRepr A) (e : Env) : NoRepr (A.deeper e) := by
  unfold NoRepr at *
  exact h
structure FnG (P : Program) (w : World) (K : PySem.W.Frag) (mg : Str → Option Value) (base : Heap) (CX : CXT) (k : Nat) (f : Addr) (fd : FuncData) (ps : List Str) (sp : Sp) : Prop where
  len : ∀ xs H Q E, sp xs H Q E → xs.length = ps.length
  go : ∀ (A : Around) (out : List Env) (s : Shared) (H : Hp) (as : Args) (us : List Value) (xs : List V) (Q : VK) (E : XK), Room k A → NoRepr A → Env0 P w K mg base A out s H → BindsTo s fd as (ps.zip us) → Vals xs us →
    sp xs H Q E → codeAny (model P w) A (.call (.ref f) as) (CR CX out P w H s Q E) s
section
variable {P : Program} {w : World} {K : PySem.W.Frag} {mg : Str → Option Value} {base : Heap} {CX : CXT} {f : Addr} {fd : FuncData} {ps : List Str}
theorem FnG.of {k : Nat} {sp : Sp} (F : FnOk P w K mg base CX k f fd ps sp) : FnG P w K mg base CX k f fd ps sp :=
  ⟨F.len, fun A out s H as us xs Q E r _ e b v h => F.run A out s H as us xs Q E r e b v h⟩
theorem FnG.mono {j k : Nat} {sp : Sp} (F : FnG P w K mg base CX j f fd ps sp) (h : j ≤ k) : FnG P w K mg base CX k f fd ps sp :=
  ⟨F.len, fun A out s H as us xs Q E r => F.go A out s H as us xs Q E (r.mono h)⟩
theorem FnG.imp {k : Nat} {sp sp' : Sp} (F : FnG P w K mg base CX k f fd ps sp) (h : ∀ xs H Q E, sp' xs H Q E → sp xs H Q E) : FnG P w K mg base CX k f fd ps sp' :=
  ⟨fun xs H Q E q => F.len xs H Q E (h _ _ _ _ q), fun A out s H as us xs Q E r n e b v q => F.go A out s H as us xs Q E r n e b v (h _ _ _ _ q)⟩
theorem fnG_of {k : Nat} {x qual : Str} {st : Stmt} {N : List Str} {sp : Sp} (F : Fun K x qual st f fd) (S : FnScope N ps (defScope st)) (len : ∀ xs H Q E, sp xs H Q E → xs.length = ps.length)
    (hb : ∀ (cdv : Value) (A : Around) (out : List Env) (s : Shared) (H : Hp) (xs : List V) (Q : VK) (E : XK), Room k (A.deeper (envOfC qual (defScope st) s.heap.objs.size f cdv)) → NoRepr A → sp xs H Q E →
      ∃ t, PSs (cxOf CX P w K mg base N qual (defScope st) f cdv A out s H E) (defBody st) t ∧ t ⟨fun _ H' => Q .non H', Q, fun _ _ => False, fun _ _ => False⟩ (start N xs) H) :
    FnG P w K mg base CX (k + 1) f fd ps sp := by
  obtain ⟨oc, od, kV, doc, pm, an, cdv, ct, osl, rfl, lk, hcd⟩ := F.ex
  refine ⟨len, fun A out s H as us xs Q E hr hn e0 hbd r hsp => ?_⟩
  have hl := len _ _ _ _ hsp
  have KX : K.In s.heap := e0.mod.kin.keeps fun b o e => (e0.bs b o e).1
  have lim : s.heap.NoLimit := e0.mod.nolimit.keeps fun b o e => (e0.bs b o e).1
  have hkd : ∀ y ∈ ps.zip us, (defScope st).names.lookup y.1 = some .local ∨ ((defScope st).names.lookup y.1 = some .cell ∧ ((cellsFrom (s.heap.objs.size + 1) (defScope st).names []).lookup y.1).isSome = true) := by
    rintro ⟨n, v⟩ hy
    exact (S.par n (List.of_mem_zip hy).1).imp id fun q => ⟨q, PySem.W.cellsFrom_some _ _ _ (.inl q)⟩
  refine codeAny_call_function hr.depth (KX _ _ lk) rfl S.co S.gen rfl (PySem.W.codeRec_of KX hcd) (hbd _ _ _ _ ?_)
  refine wpAny_newFunctionEnv_cells S.kind hkd fun env he s1 x => ?_
  subst he
  refine ⟨lim.keeps x.toInCall.keep, codeAny_func ?_⟩
  obtain ⟨t, ht, hq⟩ := hb cdv A out s H xs Q E (hr.deeper _) hn hsp
  have I : Inv (cxOf CX P w K mg base N qual (defScope st) f cdv A out s H E) [] (start N xs) H s1 := inv_start S hr.hd e0 hl r x
  refine wpAny_mono (ht.run [] s1 (start N xs) H _ I hq) (fun fl s' hs => ?_) fun e s' hs => hs
  cases fl with
  | ret u => obtain ⟨v, σ', H', J, rvv, q⟩ := hs; exact ⟨v, H', J.os, J.bare, J.base, J.hok, rvv, q⟩
  | next => obtain ⟨σ', H', J, q⟩ := hs; exact ⟨.non, H', J.os, J.bare, J.base, J.hok, rfl, q⟩
  | brk => obtain ⟨_, _, _, q⟩ := hs; exact q.elim
  | cont => obtain ⟨_, _, _, q⟩ := hs; exact q.elim
end
section
variable {X : Cx} {CX : CXT} {k : Nat} {f : Addr} {fd : FuncData} {ps : List Str} {sp : Sp} {ds : List Value} {dvs : List V} {E : XK} {x : Str} {p pos : Pos} {t : TA}
theorem run_fnG {pnz : List (Addr × Obj)} {σ : L2.St} {H : Hp} {s : Shared} {Q : VK} {us : List Value} {xs : List V} (F : FnG X.prog X.w X.K X.mg X.base CX k f fd ps sp) (hr : Room k X.A) (hn : NoRepr X.A)
    (hb : Binds X.K fd ps ds) (hd : Vals dvs ds) (hx : Passes CX X E) (I : Inv X pnz σ H s) (r : Vals xs us) (h : sp (xs ++ dvs) H Q E) : wpAny (model X.prog X.w) X.A (call (.ref f) us) (EP X pnz σ Q) X.xe s := by
  have r2 := r.append hd
  have hl : (us ++ ds).length = ps.length := by rw [← r2.length]; exact F.len _ _ _ _ h
  refine wpAny_call (codeAny_mono (F.go X.A X.stack s H ⟨us, []⟩ (us ++ ds) (xs ++ dvs) Q E hr hn I.env0 (hb s us I.kIn hl) r2 h) fun r s' hq => ?_)
  match r, hq with
  | .error e, hq => exact hx pnz σ H s e s' I hq
  | .ok (.ret u), hq => exact I.after hq
  | .ok .next, hq => exact False.elim hq
  | .ok .brk, hq => exact False.elim hq
  | .ok .cont, hq => exact False.elim hq
theorem pe_callG {e : Expr} {es : List Expr} (F : FnG X.prog X.w X.K X.mg X.base CX k f fd ps sp) (hr : Room k X.A) (hn : NoRepr X.A) (hg : Gl X x) (hm : X.mg x = some (.ref f)) (hk : PySem.W.keepIn X.K (.ref f) = true)
    (hb : Binds X.K fd ps ds) (hd : Vals dvs ds) (hx : Passes CX X E) (ha : PA X (e :: es) t) (hdb : (x == ("__debug__" : Str)) = false := by decide)
    (he : starEach (e :: es) X.env = (false, eval e X.env) :: starEach es X.env := by rfl) (hpl : (backTo pos (starEach es X.env)).any (·.1) = false := by rfl) :
    PE X (.Call (.Name x p) (e :: es) [] pos) (tCall sp dvs E t) := ⟨fun pnz s σ H Q I h =>
  wpAny_Call_Name_kw (ld_glob I hg hm (PySem.W.callWith_K (h₀ := X.base) I.ok.mod.kin hk (thn (ha.run pos pnz s σ H _ I h) fun us s1 ⟨xs, H1, I1, r, q⟩ => ⟨I1.kIn, run_fnG F hr hn hb hd hx I1 r q⟩) he hpl) hdb)⟩
theorem pe_callG0 (F : FnG X.prog X.w X.K X.mg X.base CX k f fd ps sp) (hr : Room k X.A) (hn : NoRepr X.A) (hg : Gl X x) (hm : X.mg x = some (.ref f)) (hk : PySem.W.keepIn X.K (.ref f) = true)
    (hb : Binds X.K fd ps ds) (hd : Vals dvs ds) (hx : Passes CX X E) (hdb : (x == ("__debug__" : Str)) = false := by decide) :
    PE X (.Call (.Name x p) [] [] pos) (tCall sp dvs E tNil) := ⟨fun pnz s σ H Q I h =>
  wpAny_Call_Name_kw (ld_glob I hg hm (PySem.W.callWith_K0 I.kIn hk (run_fnG (us := []) F hr hn hb hd hx I .nil h)) hdb)⟩
end
end DL
namespace DL
open PySem PySem.Spec PyProof.Rows L2
section
variable {X : Cx} {W : XW} {elt tg iter : Expr} {ifs : List Expr} {scope : Scope} {own : List (Str × Nat)} {pos : Pos} {fi : FI} {q : Pt} {ft : FT} {f : FE}
theorem lc_fz {G : KW} {vs : List Nat} {S : L2.St} {H : Hp} {Q : VK} (hq : ∀ i ∈ q.ix, i ∈ vs) (h : SJ G W (iLc fi (ptB q) ft f vs) S H Q) : tLc (IJ G W fi) (GJ G q.ix (ptB q)) (TJ G noW ft) (SJ G noW f) vs S H (QF Q) := by
  obtain ⟨env, ah, η, en, pk, h⟩ := h
  refine lc_loop en pk hq h fun Dd η1 η' H1 H' acc xs ah' m hD hD' nD r mv p k => ?_
  refine .inr ⟨Dd, .lst acc, rfl, hD', trivial, fun od => ?_⟩
  have E : Ext H' (upd H' Dd (.frz od (.lst acc))) := Ext.upd hD' (fun _ z => nomatch z) (fun _ _ z => nomatch z)
  exact k η' _ (mv.side hD hD') (p.side nD hD' (fun _ z => nomatch z) (fun _ _ z => nomatch z)) _ (.lst ⟨od, upd_same⟩ (r.ext (List.prefix_refl _) E))
theorem lc_mut {G : KW} {vs : List Nat} {S : L2.St} {H : Hp} {Q : VK} (hq : ∀ i ∈ q.ix, i ∈ vs) (h : SJ G W (iLcM fi (ptB q) ft f vs) S H Q) : tLc (IJ G W fi) (GJ G q.ix (ptB q)) (TJ G noW ft) (SJ G noW f) vs S H Q := by
  obtain ⟨env, ah, η, en, pk, h⟩ := h
  refine lc_loop en pk hq h fun Dd η1 η' H1 H' acc xs ah' m hD hD' nD r mv p k => ?_
  have m2 : Mv η1 H1 (η' ++ [Dd]) H' := ⟨mv.pre.trans (List.prefix_append _ _), mv.ext, fun a z => by
    rcases List.mem_append.mp z with z | z
    · exact mv.new a z
    · simp at z; subst z; exact .inr hD, mv.frm, mv.live⟩
  refine k (η' ++ [Dd]) H' m2 (p.add nD ⟨acc, hD', r.ext (List.prefix_append _ _) (Ext.refl _)⟩) _ (.ref ?_)
  rw [← p.len, List.getElem?_append_right (Nat.le_refl _)]
  simp
theorem j_lc (hc : X.calm = true) (hN : X.N.Nodup) (hi : PI X tg iter (IX X W fi)) (ok : BlkOk X.N X.env.scope scope own) (hq : ∀ i ∈ q.ix, i ∈ own.map (·.2))
    (hg : ∀ (s : Shared) (H : Hp) (C : Addr) (cl : List (Str × Addr)) (fp : List Addr), PG (X.blk s H scope (compEnvC scope cl C X.env) fp) tg (GP X q)) (ht : ∀ (s : Shared) (H : Hp) (C : Addr) (cl : List (Str × Addr)) (fp : List Addr), PTs (X.blk s H scope (compEnvC scope cl C X.env) fp) ifs (TX X noW ft))
    (he : ∀ (s : Shared) (H : Hp) (C : Addr) (cl : List (Str × Addr)) (fp : List Addr), PE (X.blk s H scope (compEnvC scope cl C X.env) fp) elt (SX X noW f)) (hs : ∀ x, foldedSetIterable iter X.env x = pure x := by intro _; rfl) :
    PE X (.ListComp elt [⟨tg, iter, ifs, 0⟩] scope pos) (SX X W (iLc fi (ptB q) ft f (own.map (·.2)))) := PE.imp (pe_fz (pe_lc hc hN hi ok hg ht he hs)) fun S H Q h => lc_fz hq h
theorem j_lcM (hc : X.calm = true) (hN : X.N.Nodup) (hi : PI X tg iter (IX X W fi)) (ok : BlkOk X.N X.env.scope scope own) (hq : ∀ i ∈ q.ix, i ∈ own.map (·.2))
    (hg : ∀ (s : Shared) (H : Hp) (C : Addr) (cl : List (Str × Addr)) (fp : List Addr), PG (X.blk s H scope (compEnvC scope cl C X.env) fp) tg (GP X q)) (ht : ∀ (s : Shared) (H : Hp) (C : Addr) (cl : List (Str × Addr)) (fp : List Addr), PTs (X.blk s H scope (compEnvC scope cl C X.env) fp) ifs (TX X noW ft))
    (he : ∀ (s : Shared) (H : Hp) (C : Addr) (cl : List (Str × Addr)) (fp : List Addr), PE (X.blk s H scope (compEnvC scope cl C X.env) fp) elt (SX X noW f)) (hs : ∀ x, foldedSetIterable iter X.env x = pure x := by intro _; rfl) :
    PE X (.ListComp elt [⟨tg, iter, ifs, 0⟩] scope pos) (SX X W (iLcM fi (ptB q) ft f (own.map (·.2)))) := PE.imp (pe_lc hc hN hi ok hg ht he hs) fun S H Q h => lc_mut hq h
/-- what is wanted behind a statement, or behind a freeze -/
def NF (N : L2.St → Hp → Prop) : L2.St → Hp → Prop := fun S H1 => N S H1 ∨ ∃ a u, H1 a = some u ∧ Mut (some u) ∧ ∀ od, N S (upd H1 a (.frz od u))
theorem PS.fz {st : Stmt} {t : TS} (h : PS X st t) : PS X st fun Dn S H => t { Dn with nx := NF Dn.nx } S H := by
  refine ⟨fun pnz s S H Dn Iv q => ?_⟩
  refine thn (h.run pnz s S H { Dn with nx := NF Dn.nx } Iv q) fun f s1 hf => ?_
  cases f with
  | next =>
    obtain ⟨S', H', I', q3⟩ := hf
    rcases q3 with q3 | ⟨a, u, ha, hm, q3⟩
    · exact ⟨S', H', I', q3⟩
    · obtain ⟨od, I2⟩ := I'.lock ha hm
      exact ⟨S', _, I2, q3 od⟩
  | ret v => exact hf
  | brk => exact hf
  | cont => exact hf
theorem s_setLc (i : Nat) {y : Str} {py spos : Pos} (hc : X.calm = true) (hN : X.N.Nodup) (hi : PI X tg iter (IX X W fi)) (ok : BlkOk X.N X.env.scope scope own) (hq : ∀ i ∈ q.ix, i ∈ own.map (·.2))
    (hg : ∀ (s : Shared) (H : Hp) (C : Addr) (cl : List (Str × Addr)) (fp : List Addr), PG (X.blk s H scope (compEnvC scope cl C X.env) fp) tg (GP X q)) (ht : ∀ (s : Shared) (H : Hp) (C : Addr) (cl : List (Str × Addr)) (fp : List Addr), PTs (X.blk s H scope (compEnvC scope cl C X.env) fp) ifs (TX X noW ft))
    (he : ∀ (s : Shared) (H : Hp) (C : Addr) (cl : List (Str × Addr)) (fp : List Addr), PE (X.blk s H scope (compEnvC scope cl C X.env) fp) elt (SX X noW f))
    (hy : X.N[i]? = some y := by rfl) (hyl : X.env.scope.names.lookup y = some .local := by rfl) (hsw : swapsWith (.ListComp elt [⟨tg, iter, ifs, 0⟩] scope pos) (some (.Name y py)) spos.line X.env = pure true := by exact sw_true rfl rfl rfl (by decide +kernel)) (hs : ∀ x, foldedSetIterable iter X.env x = pure x := by intro _; rfl) :
    PS X (.Assign [.Name y py] (.ListComp elt [⟨tg, iter, ifs, 0⟩] scope pos) spos) (SSX X W (sAsg (ptB (.nm i)) (iLc fi (ptB q) ft f (own.map (·.2))))) := PS.imp (PS.fz (ps_setLc hc hN hy hyl hsw hi ok hg ht he hs)) fun Dn S H ⟨env, ah, η, en, pk, h⟩ => by
  show tLc _ _ _ _ _ S H fun x H1 => NF Dn.nx (S.set i (some x)) H1
  have assoc : ∀ {α β γ : Type} (r : Res α) (g1 : α → AH → Res β) (g2 : β → AH → Res γ), (r.bind g1).bind g2 = r.bind fun a h => (g1 a h).bind g2 := fun r _ _ => by cases r <;> rfl
  have h2 : Post (gX X) W η H ((fi env ah).bind fun ds ah1 => (compL (ptB q) ft f (wipeA env (own.map (·.2))) ds [] ah1).bind fun xs ah2 => (Res.ok (Fl.nx, env.set i (some (.lst xs))) ah2)) (QS (gX X) Dn) := by
    unfold sAsg iLc at h
    simp only [assoc, ptB, Res.bind_ok] at h
    exact h
  refine lc_loop (R := fun x H1 => NF Dn.nx (S.set i (some x)) H1) en pk hq h2 fun Dd η1 η' H1 H' acc xs ah' m hD hD' nD r mv p k => ?_
  refine .inr ⟨Dd, .lst acc, hD', trivial, fun od => ?_⟩
  have E : Ext H' (upd H' Dd (.frz od (.lst acc))) := Ext.upd hD' (fun _ z => nomatch z) (fun _ _ z => nomatch z)
  have mvs : Mv η1 H1 η' (upd H' Dd (.frz od (.lst acc))) := mv.side hD hD'
  exact k η' _ mvs (p.side nD hD' (fun _ z => nomatch z) (fun _ _ z => nomatch z)) _ ((en.mv (m.trans mvs)).set i (.lst ⟨od, upd_same⟩ (r.ext (List.prefix_refl _) E)))
theorem s_setLcM (i : Nat) {y : Str} {py spos : Pos} (hc : X.calm = true) (hN : X.N.Nodup) (hi : PI X tg iter (IX X W fi)) (ok : BlkOk X.N X.env.scope scope own) (hq : ∀ i ∈ q.ix, i ∈ own.map (·.2))
    (hg : ∀ (s : Shared) (H : Hp) (C : Addr) (cl : List (Str × Addr)) (fp : List Addr), PG (X.blk s H scope (compEnvC scope cl C X.env) fp) tg (GP X q)) (ht : ∀ (s : Shared) (H : Hp) (C : Addr) (cl : List (Str × Addr)) (fp : List Addr), PTs (X.blk s H scope (compEnvC scope cl C X.env) fp) ifs (TX X noW ft))
    (he : ∀ (s : Shared) (H : Hp) (C : Addr) (cl : List (Str × Addr)) (fp : List Addr), PE (X.blk s H scope (compEnvC scope cl C X.env) fp) elt (SX X noW f))
    (hy : X.N[i]? = some y := by rfl) (hyl : X.env.scope.names.lookup y = some .local := by rfl) (hsw : swapsWith (.ListComp elt [⟨tg, iter, ifs, 0⟩] scope pos) (some (.Name y py)) spos.line X.env = pure true := by exact sw_true rfl rfl rfl (by decide +kernel)) (hs : ∀ x, foldedSetIterable iter X.env x = pure x := by intro _; rfl) :
    PS X (.Assign [.Name y py] (.ListComp elt [⟨tg, iter, ifs, 0⟩] scope pos) spos) (SSX X W (sAsg (ptB (.nm i)) (iLcM fi (ptB q) ft f (own.map (·.2))))) := PS.imp (ps_setLc hc hN hy hyl hsw hi ok hg ht he hs) fun Dn S H ⟨env, ah, η, en, pk, h⟩ => by
  show tLc _ _ _ _ _ S H fun x H1 => Dn.nx (S.set i (some x)) H1
  have assoc : ∀ {α β γ : Type} (r : Res α) (g1 : α → AH → Res β) (g2 : β → AH → Res γ), (r.bind g1).bind g2 = r.bind fun a h => (g1 a h).bind g2 := fun r _ _ => by cases r <;> rfl
  have h2 : Post (gX X) W η H ((fi env ah).bind fun ds ah1 => (compL (ptB q) ft f (wipeA env (own.map (·.2))) ds [] ah1).bind fun xs ah2 => (Res.ok (Fl.nx, env.set i (some (.ref ah2.length))) (ah2 ++ [.lst xs]))) (QS (gX X) Dn) := by
    unfold sAsg iLcM at h
    simp only [assoc, ptB, Res.bind_ok] at h
    exact h
  refine lc_loop (R := fun x H1 => Dn.nx (S.set i (some x)) H1) en pk hq h2 fun Dd η1 η' H1 H' acc xs ah' m hD hD' nD r mv p k => ?_
  have m2 : Mv η1 H1 (η' ++ [Dd]) H' := ⟨mv.pre.trans (List.prefix_append _ _), mv.ext, fun a z => by
    rcases List.mem_append.mp z with z | z
    · exact mv.new a z
    · simp at z; subst z; exact .inr hD, mv.frm, mv.live⟩
  refine k (η' ++ [Dd]) H' m2 (p.add nD ⟨acc, hD', r.ext (List.prefix_append _ _) (Ext.refl _)⟩) _ ((en.mv (m.trans m2)).set i (.ref ?_))
  rw [← p.len, List.getElem?_append_right (Nat.le_refl _)]
  simp
def putD (x y e : D) (ah : AH) : Option AH := match x with
  | .ref n => match ah[n]? with
    | some (.lst ds) => match y with
      | .int k => match ixN ds.length k with
        | some j => some (ah.set n (.lst (ds.set j e)))
        | none => none
      | _ => none
    | some (.dk ks ds) => match keyD y with
      | some q => if ks.length < sizeLine then some (ah.set n (.dk (ptD ks ds q e).1 (ptD ks ds q e).2)) else none
      | none => none
    | some (.dt ks ds) => match y with
      | .tup zs => match keysL zs with
        | some q => if ks.length < sizeLine then some (ah.set n (.dt (ptD ks ds q e).1 (ptD ks ds q e).2)) else none
        | none => none
      | _ => none
    | _ => none
  | _ => none
def rPut : TSet := fun o i v H Q => rSetL o i v H Q ∨ rSetD o i v H Q
end
section
variable {X : Cx} {W : XW}
theorem set_all (hu : X.A.units + 1 < cLine) : PSet X rPut := fun pnz s σ H o i v ov iv u Q Iv r1 r2 r3 q => q.elim (set_list pnz s σ H o i v ov iv u Q Iv r1 r2 r3) (set_dict hu pnz s σ H o i v ov iv u Q Iv r1 r2 r3)
theorem put_ok {G : KW} {η : List Addr} {H : Hp} {ah ah' : AH} {x y e : D} {v u w : V} {Q : Hp → Prop} (p : HpOk G η H ah) (rx : Rel G η H x v) (ry : Rel G η H y u) (re : Rel G η H e w) (h : putD x y e ah = some ah')
    (k : ∀ H', Mv η H η H' → HpOk G η H' ah' → Q H') : rPut v u w H Q := by
  unfold putD at h
  split at h
  · rename_i n
    cases rx with
    | ref hn =>
      rename_i a
      obtain ⟨o, ho, ok⟩ := p.at hn
      rw [ho] at h
      have ma := List.mem_of_getElem? hn
      have pf := List.prefix_refl η
      cases o with
      | lst ds =>
        simp only at h
        obtain ⟨vs, h1, r1⟩ := ok
        split at h
        · rename_i i
          split at h
          · rename_i j hj
            cases h
            cases ry
            rw [r1.length] at hj
            have m : Mv η H η (upd H a (.lst (vs.set j w))) := .upd ma h1 (fun _ z => nomatch z) (fun _ _ z => nomatch z)
            exact .inl ⟨a, vs, i, j, rfl, rfl, h1, hj, k _ m (p.put hn h1 (fun _ z => nomatch z) (fun _ _ z => nomatch z) ⟨_, upd_same, (r1.set re j).ext pf m.ext⟩)⟩
          · cases h
        · cases h
      | dk ks ds =>
        simp only at h
        obtain ⟨kvs, h1, k1, r1⟩ := ok
        split at h
        · rename_i q hq
          split at h
          · rename_i hzz
            cases h
            have m : Mv η H η (upd H a (.dK (putK kvs q w))) := .upd ma h1 (fun _ z => nomatch z) (fun _ _ z => nomatch z)
            obtain ⟨e1, e2⟩ := pt_rel re k1 r1
            have hl : kvs.length < sizeLine := by rw [← k1, List.length_map] at hzz; exact hzz
            exact .inr ⟨a, _, rfl, .inl ⟨kvs, q, h1, keyD_rel ry hq, hl, rfl⟩, k _ m (p.put hn h1 (fun _ z => nomatch z) (fun _ _ z => nomatch z) ⟨_, upd_same, e1, e2.ext pf m.ext⟩)⟩
          · cases h
        · cases h
      | dt ks ds =>
        simp only at h
        obtain ⟨kvs, h1, k1, r1⟩ := ok
        split at h
        · rename_i zs
          split at h
          · rename_i q hq
            split at h
            · rename_i hzz
              cases h
              cases ry with
              | tup hb rb =>
                have := keysL_rel rb hq
                subst this
                have m : Mv η H η (upd H a (.dT (putK kvs q w))) := .upd ma h1 (fun _ z => nomatch z) (fun _ _ z => nomatch z)
                obtain ⟨e1, e2⟩ := pt_rel re k1 r1
                have hl : kvs.length < sizeLine := by rw [← k1, List.length_map] at hzz; exact hzz
                exact .inr ⟨a, _, rfl, .inr ⟨kvs, q, _, h1, rfl, hb, hl, rfl⟩, k _ m (p.put hn h1 (fun _ z => nomatch z) (fun _ _ z => nomatch z) ⟨_, upd_same, e1, e2.ext pf m.ext⟩)⟩
            · cases h
          · cases h
        · cases h
      | fz d => cases h
      | gone => cases h
      | tab p => cases h
      | rng lo hi => cases h
      | dx ks ds => cases h
      | xd _ _ _ => cases h
      | ins _ _ => cases h
  · cases h
def sPut (fo fi f : FE) : FS := fun env ah => (f env ah).bind fun e ah1 => (fo env ah1).bind fun x ah2 => (fi env ah2).bind fun y ah3 => match putD x y e ah3 with
  | some ah4 => .ok (.nx, env) ah4
  | none => .bad
theorem s_put {o i e : Expr} {fo fi f : FE} {pos pos' : Pos} (hu : X.A.units + 1 < cLine) (ho : PE X o (SX X W fo)) (hi : PE X i (SX X W fi)) (he : PE X e (SX X W f))
    (ha : ∀ v, assign (.Subscript o i pos') X.env v = (do
      let ov ← holding [v] (eval o X.env)
      let iv ← holding [v, ov] (eval i X.env)
      standAt pos'
      holding [v, ov, iv] (setItem ov iv v)
      release [v, ov, iv] []) := by intro _; rfl)
    (hs : swapsWithSole [.Subscript o i pos'] e pos.line X.env = pure false := by rfl) (hw : swappedStores [.Subscript o i pos'] e X.env = pure none := by rfl) (h1 : (assignEach [.Subscript o i pos'] X.env).map (·.2) = [assign (.Subscript o i pos') X.env] := by rfl) :
    PS X (.Assign [.Subscript o i pos'] e pos) (SSX X W (sPut fo fi f)) := PS.imp (ps_asg he (pg_sub ho hi (set_all hu) ha) hs hw h1) fun Dn S H ⟨env, ah, η, en, pk, h⟩ =>
  ⟨env, ah, η, en, pk, h.bind.imp0 fun d η1 H1 ah1 m1 p1 q1 => fun v rvv =>
    ⟨env, ah1, η1, en.mv m1, p1, q1.bind.imp0 fun x η2 H2 ah2 m2 p2 q2 => fun w rw' =>
      ⟨env, ah2, η2, (en.mv m1).mv m2, p2, q2.bind.imp0 fun y η3 H3 ah3 m3 p3 q3 => fun u ru => by
        split at q3
        · rename_i ah4 e4
          exact put_ok p3 (rw'.mv m3) ru ((rvv.mv m2).mv m3) e4 fun H' m4 p4 => q3 η3 H' m4 p4 S ((((en.mv m1).mv m2).mv m3).mv m4)
        · exact q3.elim⟩⟩⟩
def sAug (i : Nat) (o : D → D → AH → Res D) (f : FE) : FS := fun env ah => match env[i]? with
  | some (some x) => (f env ah).bind fun y ah1 => (o x y ah1).bind fun z ah2 => .ok (.nx, env.set i (some z)) ah2
  | _ => .bad
def AuOk (G : KW) (W : XW) (t : TIp) (o : D → D → AH → Res D) : Prop :=
  ∀ (η : List Addr) (H : Hp) (ah : AH) (x y : D) (v u : V) (Q : VK), HpOk G η H ah → Rel G η H x v → Rel G η H y u → Post G W η H (o x y ah) (QV G Q) → t v u H Q
theorem s_aug (i : Nat) {x : Str} {e : Expr} {f : FE} {op : Operator} {t : TIp} {o : D → D → AH → Res D} {pos pos' : Pos} (hN : X.N.Nodup) (ho : PIp X op t) (k : AuOk (gX X) W t o) (he : PE X e (SX X W f)) (hi : X.N[i]? = some x := by rfl) (hx : Loc X.env.scope x := by first | exact Or.inl rfl | exact Or.inr rfl)
    (hf : X.fn x = true ∨ X.env.scope.names.lookup x = some .local := by first | exact .inl rfl | exact .inr rfl) : PS X (.AugAssign (.Name x pos') op e pos) (SSX X W (sAug i o f)) := PS.imp (ps_aug hN hi hx he ho hf) fun Dn S H ⟨env, ah, η, en, pk, h⟩ => by
  unfold sAug at h
  split at h
  · rename_i d hd
    obtain ⟨v, hv, rvv⟩ := en.ok i d hd
    refine ⟨v, hv, env, ah, η, en, pk, h.bind.imp0 fun y η1 H1 ah1 m1 p1 q1 => fun u ru => ?_⟩
    refine k η1 H1 ah1 d y v u _ p1 (rvv.mv m1) ru (q1.bind.imp0 fun z η2 H2 ah2 m2 p2 q2 => fun w rw' => ?_)
    exact q2.at p2 _ (((en.mv m1).mv m2).set i rw')
  · exact h.elim
def rAugA : TIp := fun x y H Q => (∃ i j, x = .int i ∧ y = .int j ∧ Q (.int (i + j)) H) ∨ ∃ i j, x = .str i ∧ y = .str j ∧ i.length + j.length ≤ sizeLine ∧ Q (.str (i ++ j)) H
def oAugA (x y : D) (ah : AH) : Res D := match x, y with
  | .int i, .int j => .ok (.int (i + j)) ah
  | .str a, .str b => if a.length + b.length ≤ sizeLine then .ok (.str (a ++ b)) ah else .bad
  | _, _ => .bad
theorem ip_addA : PIp X .Add rAugA := fun pnz s σ H x y v u Q Iv r1 r2 q => q.elim (fun z => ip_add pnz s σ H x y v u Q Iv r1 r2 z) fun z => iop_add_str pnz s σ H x y v u Q Iv r1 r2 z
theorem ok_augA {G : KW} : AuOk G W rAugA oAugA := by
  intro η H ah x y v u Q p rx ry h
  unfold oAugA at h
  split at h
  · cases rx; cases ry; exact .inl ⟨_, _, rfl, rfl, h.at p _ (.int _)⟩
  · cases rx; cases ry
    split at h
    · exact .inr ⟨_, _, rfl, rfl, by assumption, h.at p _ (.str _)⟩
    · exact h.elim
  · exact h.elim
def oApp (x y : D) (ah : AH) : Res D := match x with
  | .ref n => match ah[n]? with
    | some (.lst ds) => if ds.length < sizeLine then .ok .non (ah.set n (.lst (ds ++ [y]))) else .bad
    | _ => .bad
  | _ => .bad
def isLst (ah : AH) : D → Bool
  | .ref n => match ah[n]? with
    | some (.lst _) => true
    | _ => false
  | _ => false
def iApp (fo f : FE) : FE := fun env ah => (fo env ah).bind fun x ah1 => if isLst ah1 x = true then (f env ah1).bind fun y ah2 => oApp x y ah2 else .bad
theorem lst_at {G : KW} {η : List Addr} {H : Hp} {ah : AH} {x : D} {v : V} (p : HpOk G η H ah) (r : Rel G η H x v) (h : isLst ah x = true) : ∃ n a ds vs, x = .ref n ∧ v = .ref a ∧ η[n]? = some a ∧ ah[n]? = some (.lst ds) ∧ H a = some (.lst vs) ∧ RelAll G η H ds vs := by
  cases r with
  | ref hn =>
    obtain ⟨o, ho, ok⟩ := p.at hn
    simp only [isLst, ho] at h
    cases o with
    | lst ds => obtain ⟨vs, h1, r1⟩ := ok; exact ⟨_, _, ds, vs, rfl, rfl, hn, ho, h1, r1⟩
    | _ => cases h
  | _ => cases h
theorem app_ok {G : KW} {η : List Addr} {H : Hp} {ah : AH} {x y : D} {v u : V} {Q : VK} (p : HpOk G η H ah) (rx : Rel G η H x v) (ry : Rel G η H y u) (h : Post G W η H (oApp x y ah) (QV G Q)) : rAppend v [u] H Q := by
  cases rx with
  | ref hn =>
    rename_i n a
    obtain ⟨o, ho, ok⟩ := p.at hn
    simp only [oApp, ho] at h
    cases o with
    | lst ds =>
      obtain ⟨vs, h1, r1⟩ := ok
      simp only at h
      split at h
      · rename_i hzz
        have m : Mv η H η (upd H a (.lst (vs ++ [u]))) := .upd (List.mem_of_getElem? hn) h1 (fun _ z => nomatch z) (fun _ _ z => nomatch z)
        exact ⟨a, vs, u, rfl, rfl, h1, by rw [← r1.length]; exact hzz, h η _ m (p.put hn h1 (fun _ z => nomatch z) (fun _ _ z => nomatch z) ⟨_, upd_same, (r1.snoc ry).mv m⟩) _ .non⟩
      · exact h.elim
    | _ => exact h.elim
  | _ => exact h.elim
theorem j_app {o e : Expr} {fo f : FE} {apos cpos : Pos} (ho : PE X o (SX X W fo)) (he : PE X e (SX X W f))
    (hbase : attributeBase o "append" X.env (eval o X.env) = eval o X.env := by rfl)
    (hfew : ((backTo cpos (starEach [e] X.env)).all (fun x => !x.1) && (backToKw cpos (keywordEach [] X.env)).all (fun x => x.1.isSome)
      && decide ([e].length + ([] : List Keyword).length + (if ([] : List Keyword).isEmpty then 0 else 1) < 30)) = true := by rfl)
    (hline : (apos.endLine == cpos.line) = true := by rfl) (hs : starEach [e] X.env = (false, eval e X.env) :: starEach [] X.env := by rfl) (hplain : (backTo cpos (starEach [] X.env)).any (·.1) = false := by rfl) :
    PE X (.Call (.Attribute o "append" apos) [e] [] cpos) (SX X W (iApp fo f)) :=
  PE.imp (pe_bm PySem.F.plainAttrs_list PySem.F.slot_list_append PySem.F.type_list_append mt_append ho (a_cons he a_nil hs) hbase hfew hline hs hplain) fun S H Q ⟨env, ah, η, en, pk, h⟩ => by
    refine ⟨env, ah, η, en, pk, h.bind.imp0 fun x η1 H1 ah1 m1 p1 q1 => fun v rvv => ?_⟩
    split at q1
    · rename_i hx
      obtain ⟨n, a, ds, vs, rfl, rfl, h1, h2, h3, h4⟩ := lst_at p1 rvv hx
      refine ⟨.inl ⟨rfl, vs, .inl (.inl h3)⟩, env, ah1, η1, en.mv m1, p1, ?_⟩
      unfold iArgs iArgs
      have q2 := q1.bind.imp0 (Q' := fun y η2 H2 ah2 => Post (gX X) W η2 H2 ((Res.ok [] ah2).bind fun ds ah3 => Res.ok (y :: ds) ah3) fun ds η' H' _ => ∀ vs, RelAll (gX X) η' H' ds vs → rAppend (.ref a) vs H' Q) fun y η2 H2 ah2 m2 p2 q2 => ?_
      · revert q2
        generalize f env ah1 = r
        intro q2
        cases r with
        | ok d ah' => exact fun η' H' m p => (q2 η' H' m p).at p
        | exc x e' ah' => exact q2
        | bad => exact q2
      · rw [Res.bind_ok]
        intro η3 H3 m3 p3 us rs
        cases rs with
        | cons r rr =>
          cases rr
          exact app_ok p3 ((rvv.mv m2).mv m3) r (q2.mono m3)
    · exact q1.elim
end
/-- a def that raises nothing, by its function -/
def spN (G : KW) (m : Nat) (F : List D → AH → Res D) : Sp := fun vs H Q _ => ∃ (args : List D) (ah : AH) (η : List Addr), args.length = m ∧ RelAll G η H args vs ∧ HpOk G η H ah ∧ Post G noW η H (F args ah) (QV G Q)
theorem spN_len {G : KW} {m : Nat} {F : List D → AH → Res D} : ∀ vs H Q E, spN G m F vs H Q E → vs.length = m := fun vs H Q E ⟨args, ah, η, hl, r, _⟩ => by rw [← r.length]; exact hl
/-- a body as a def -/
def iBody (n : Nat) (f : FS) (args : List D) (ah : AH) : Res D := match f (args.map some ++ List.replicate (n - args.length) none) ah with
  | .ok (.nx, _) ah1 => .ok .non ah1
  | .ok (.rt d, _) ah1 => .ok d ah1
  | .exc x e ah1 => .exc x e ah1
  | _ => .bad
theorem env_start {G : KW} {η : List Addr} {H : Hp} {args : List D} {vs : List V} {N : List Str} (r : RelAll G η H args vs) (hl : args.length ≤ N.length) : EnvOk G η H (args.map some ++ List.replicate (N.length - args.length) none) (L2.start N vs) := by
  refine ⟨by simp [L2.start, r.length], fun i d e => ?_⟩
  by_cases hi : i < args.length
  · rw [List.getElem?_append_left (by simpa using hi), List.getElem?_map] at e
    obtain ⟨d', e1, e2⟩ := Option.map_eq_some_iff.mp e
    cases e2
    obtain ⟨v, h1, h2⟩ := r.get e1
    refine ⟨v, ?_, h2⟩
    unfold L2.start
    rw [List.getElem?_append_left (by rw [List.length_map, ← r.length]; exact hi), List.getElem?_map, h1]
    rfl
  · rw [List.getElem?_append_right (by simpa using hi), List.getElem?_replicate] at e
    split at e <;> cases e
section
variable {P : Program} {w : World} {K : PySem.W.Frag} {mg : Str → Option Value} {base : Heap}
/-- THE RULE: a def of the text by the function of its body -/
theorem fn_ok {x qual : Str} {st : Stmt} {f : Addr} {fd : FuncData} {N ps : List Str} {k : Nat} {fb : FS} (F : Fun K x qual st f fd) (Sc : FnScope N ps (defScope st))
    (hb : ∀ (cdv : Value) (A : Around) (outer : List Env) (s : Shared) (H : Hp) (E : XK), Room k (A.deeper (envOfC qual (defScope st) s.heap.objs.size f cdv)) → NoRepr (A.deeper (envOfC qual (defScope st) s.heap.objs.size f cdv)) →
      PSs (cxOf CX0 P w K mg base N qual (defScope st) f cdv A outer s H E).nox (defBody st) (SS ⟨K, w⟩ noW fb)) : FnG P w K mg base CX0 (k + 1) f fd ps (spN ⟨K, w⟩ ps.length (iBody N.length fb)) := by
  refine fnG_of F Sc (fun vs H Q E h => spN_len vs H Q E h) fun cdv A outer s H vs Q E hr hn h => ?_
  obtain ⟨args, ah, η, hl, r, p, q⟩ := h
  refine ⟨_, (hb cdv A outer s H E hr (hn.deeper _)).nox, args.map some ++ List.replicate (N.length - args.length) none, ah, η, env_start r ?_, p, ?_⟩
  · have := congrArg List.length Sc.pre
    rw [List.length_take] at this
    omega
  · unfold iBody at q
    revert q
    generalize fb _ ah = res
    intro q
    cases res with
    | ok rr ah1 =>
      obtain ⟨fl, env1⟩ := rr
      cases fl with
      | nx => exact fun η' H' m p S' en => q η' H' m p _ .non
      | rt d => exact fun η' H' m p v rvv => q η' H' m p v rvv
      | bk => exact q.elim
      | ct => exact q.elim
    | exc x e ah1 => exact q
    | bad => exact q
/-- another function for a def: what holds of the one holds of the other -/
theorem fn_imp {f : Addr} {fd : FuncData} {ps : List Str} {k m : Nat} {F F' : List D → AH → Res D} (h : FnG P w K mg base CX0 k f fd ps (spN ⟨K, w⟩ m F)) (i : ∀ args ah, args.length = m → F' args ah = .bad ∨ F args ah = F' args ah) : FnG P w K mg base CX0 k f fd ps (spN ⟨K, w⟩ m F') :=
  h.imp fun vs H Q E ⟨args, ah, η, hl, r, p, q⟩ => by
    refine ⟨args, ah, η, hl, r, p, ?_⟩
    rcases i args ah hl with e | e
    · rw [e] at q; exact q.elim
    · rw [e]; exact q
mutual
def pureD : D → Bool
  | .tup ds => pureDL ds
  | .ct ds => pureDL ds
  | .lst ds => pureDL ds
  | .dk _ ds => pureDL ds
  | .dt _ ds => pureDL ds
  | .cd _ ds => pureDL ds
  | .ref _ => false
  | .non => true
  | .bl _ => true
  | .int _ => true
  | .str _ => true
  | .fn _ => true
  | .ty _ => true
def pureDL : List D → Bool
  | [] => true
  | d :: ds => pureD d && pureDL ds
end
mutual
theorem pure_rel {G : KW} {η η' : List Addr} {H : Hp} : ∀ {d : D} {v : V}, pureD d = true → Rel G η H d v → Rel G η' H d v
  | _, _, h, .tup a r => .tup a (pure_relL (by simpa [pureD] using h) r)
  | _, _, h, .ct a r => .ct a (pure_relL (by simpa [pureD] using h) r)
  | _, _, h, .lst a r => .lst a (pure_relL (by simpa [pureD] using h) r)
  | _, _, h, .dk a b r => .dk a b (pure_relL (by simpa [pureD] using h) r)
  | _, _, h, .dt a b r => .dt a b (pure_relL (by simpa [pureD] using h) r)
  | _, _, h, .cd a b r => .cd a b (pure_relL (by simpa [pureD] using h) r)
  | _, _, h, .ref _ => by simp [pureD] at h
  | _, _, _, .non => .non
  | _, _, _, .bl b => .bl b
  | _, _, _, .int b => .int b
  | _, _, _, .str b => .str b
  | _, _, _, .fn b => .fn b
  | _, _, _, .ty b => .ty b
theorem pure_relL {G : KW} {η η' : List Addr} {H : Hp} : ∀ {d : List D} {v : List V}, pureDL d = true → RelAll G η H d v → RelAll G η' H d v
  | _, _, _, .nil => .nil
  | _, _, h, .cons r rr => by
    simp only [pureDL, Bool.and_eq_true] at h
    exact .cons (pure_rel h.1 r) (pure_relL h.2 rr)
end
mutual
/-- what is told by a greater table and was told by the lesser is told by it still -/
theorem back_rel {G : KW} {η η' : List Addr} {H H' : Hp} (g : η <+: η') : ∀ {d : D} {v v' : V}, Rel G η H d v → Rel G η' H' d v' → Rel G η H' d v'
  | _, _, _, .tup _ r, .tup a q => .tup a (back_relL g r q)
  | _, _, _, .ct _ r, .ct a q => .ct a (back_relL g r q)
  | _, _, _, .lst _ r, .lst a q => .lst a (back_relL g r q)
  | _, _, _, .dk _ _ r, .dk a b q => .dk a b (back_relL g r q)
  | _, _, _, .dt _ _ r, .dt a b q => .dt a b (back_relL g r q)
  | _, _, _, .cd _ _ r, .cd a b q => .cd a b (back_relL g r q)
  | _, _, _, .ref h, .ref k => by
    obtain ⟨t, rfl⟩ := g
    rw [List.getElem?_append_left (List.getElem?_eq_some_iff.mp h).1] at k
    exact .ref k
  | _, _, _, .non, .non => .non
  | _, _, _, .bl b, .bl _ => .bl b
  | _, _, _, .int b, .int _ => .int b
  | _, _, _, .str b, .str _ => .str b
  | _, _, _, .fn b, .fn _ => .fn b
  | _, _, _, .ty b, .ty _ => .ty b
theorem back_relL {G : KW} {η η' : List Addr} {H H' : Hp} (g : η <+: η') : ∀ {d : List D} {v v' : List V}, RelAll G η H d v → RelAll G η' H' d v' → RelAll G η H' d v'
  | _, _, _, .nil, .nil => .nil
  | _, _, _, .cons r rr, .cons q qq => .cons (back_rel g r q) (back_relL g rr qq)
end
/-- what was made besides is forgotten -/
theorem HpOk.cut {G : KW} {η η' : List Addr} {H H' : Hp} {ah g : AH} (p : HpOk G η H ah) (q : HpOk G η' H' (ah ++ g)) (pre : η <+: η') : HpOk G η H' ah := by
  refine ⟨p.len, p.nd, fun n a o e1 e2 => ?_⟩
  have e1' : η'[n]? = some a := by
    obtain ⟨t, rfl⟩ := pre
    rw [List.getElem?_append_left (List.getElem?_eq_some_iff.mp e1).1]
    exact e1
  have e2' : (ah ++ g)[n]? = some o := by
    rw [List.getElem?_append_left (List.getElem?_eq_some_iff.mp e2).1]
    exact e2
  have k := q.ok n a o e1' e2'
  have k0 := p.ok n a o e1 e2
  cases o with
  | lst ds => obtain ⟨vs, h1, r1⟩ := k; obtain ⟨_, _, r0⟩ := k0; exact ⟨vs, h1, back_relL pre r0 r1⟩
  | dk ks ds => obtain ⟨vs, h1, z, r1⟩ := k; obtain ⟨_, _, _, r0⟩ := k0; exact ⟨vs, h1, z, back_relL pre r0 r1⟩
  | dt ks ds => obtain ⟨vs, h1, z, r1⟩ := k; obtain ⟨_, _, _, r0⟩ := k0; exact ⟨vs, h1, z, back_relL pre r0 r1⟩
  | fz d => obtain ⟨h1, r1⟩ := k; obtain ⟨_, r0⟩ := k0; exact ⟨h1, back_rel pre r0 r1⟩
  | gone => exact k
  | tab p => exact k
  | rng lo hi => exact k
  | dx ks ds => obtain ⟨L, h1, z, e, r1⟩ := k; obtain ⟨_, _, _, e0, r0⟩ := k0; exact ⟨L, h1, z, back_relL pre e0 e, back_relL pre r0 r1⟩
  | xd b dd x => obtain ⟨z, vs, h1, e, r1⟩ := k; obtain ⟨_, _, _, _, r0⟩ := k0; exact ⟨z, vs, h1, e, back_relL pre r0 r1⟩
  | ins C fs => obtain ⟨dx, vs, h1, e, r1⟩ := k; obtain ⟨_, _, _, _, r0⟩ := k0; exact ⟨dx, vs, h1, e, back_relL pre r0 r1⟩
theorem Mv.cut {η η' : List Addr} {H H' : Hp} (m : Mv η H η' H') : Mv η H η H' := ⟨List.prefix_refl _, m.ext, fun _ h => .inl h, m.frm, m.live⟩
/-- a def that leaves the abstract heap as it is -/
def pureF (f : List D → Option D) (args : List D) (ah : AH) : Res D := match f args with
  | some d => .ok d ah
  | none => .bad
theorem fn_pure {f : Addr} {fd : FuncData} {ps : List Str} {k m : Nat} {F : List D → AH → Res D} {g : List D → Option D} (h : FnG P w K mg base CX0 k f fd ps (spN ⟨K, w⟩ m F))
    (i : ∀ args d ah, g args = some d → ∃ u, F args ah = .ok d (ah ++ u) ∧ pureD d = true) : FnG P w K mg base CX0 k f fd ps (spN ⟨K, w⟩ m (pureF g)) :=
  h.imp fun vs H Q E ⟨args, ah, η, hl, r, p, q⟩ => by
    refine ⟨args, ah, η, hl, r, p, ?_⟩
    unfold pureF at q
    split at q
    · rename_i d hd
      obtain ⟨u, e, pu⟩ := i args d ah hd
      rw [e]
      exact fun η' H' m p' v rvv => q η H' m.cut (p.cut p' m.pre) v (pure_rel pu rvv)
    · exact q.elim
end
/-- f(..) of a def that raises nothing -/
def iDef (F : List D → AH → Res D) (fs : List FE) : FE := fun env ah => (iArgs fs env ah).bind fun ds ah1 => (F ds ah1).nox
section
variable {X : Cx} {W : XW}
theorem j_def {k m : Nat} {f : Addr} {fd : FuncData} {ps : List Str} {F : List D → AH → Res D} {x : Str} {p pos : Pos} {e : Expr} {es : List Expr} {fs : List FE} (hf : FnG X.prog X.w X.K X.mg X.base CX0 k f fd ps (spN (gX X) m F)) (hr : Room k X.A) (hn : NoRepr X.A) (hg : Gl X x) (hm : X.mg x = some (.ref f)) (hk : PySem.W.keepIn X.K (.ref f) = true)
    (hb : Binds X.K fd ps []) (hl : fs.length = m) (ha : PA X (e :: es) (AX' X W fs)) (hdb : (x == ("__debug__" : Str)) = false := by decide) (he : starEach (e :: es) X.env = (false, eval e X.env) :: starEach es X.env := by rfl) (hpl : (backTo pos (starEach es X.env)).any (·.1) = false := by rfl) :
    PE X (.Call (.Name x p) (e :: es) [] pos) (SX X W (iDef F fs)) := PE.imp (pe_callG hf hr hn hg hm hk hb .nil pass0 ha hdb he hpl) fun S H Q ⟨env, ah, η, en, pk, h⟩ => by
  have len : ∀ (fs : List FE) (env : AE) (ah ah1 : AH) (ds : List D), iArgs fs env ah = .ok ds ah1 → ds.length = fs.length := by
    intro fs
    induction fs with
    | nil => intro env ah ah1 ds h; simp only [iArgs] at h; cases h; rfl
    | cons f fs ih =>
      intro env ah ah1 ds h
      simp only [iArgs] at h
      cases e1 : f env ah with
      | ok d ah2 =>
        rw [e1, Res.bind_ok] at h
        cases e2 : iArgs fs env ah2 with
        | ok ds2 ah3 => rw [e2, Res.bind_ok] at h; cases h; rw [List.length_cons, List.length_cons, ih _ _ _ _ e2]
        | exc x e ah3 => rw [e2] at h; cases h
        | bad => rw [e2] at h; cases h
      | exc x e ah2 => rw [e1] at h; cases h
      | bad => rw [e1] at h; cases h
  have h' : Post (gX X) W η H ((iArgs fs env ah).bind fun ds ah1 => (F ds ah1).nox) (QV (gX X) Q) := h
  refine ⟨env, ah, η, en, pk, ?_⟩
  revert h'
  cases e1 : iArgs fs env ah with
  | ok ds ah1 =>
    intro h'
    rw [Res.bind_ok] at h'
    intro η1 H1 m1 p1 vs rs
    refine ⟨ds, ah1, η1, by rw [len _ _ _ _ _ e1]; exact hl, by rw [List.append_nil]; exact rs, p1, ?_⟩
    exact Post.nox (h'.mono m1)
  | exc x e ah1 => exact id
  | bad => exact id
end
end DL
namespace DL
open PySem PySem.Spec PyProof.Rows L2
/-- the tuple at a, each item in a new pair -/
def ItnT (K : PySem.W.Frag) (a : Addr) : It :=
  ⟨fun i H => ∃ xs x, SqT K H a xs ∧ xs[i]? = some x, fun i H v H' => ∃ T x, v = .ref T ∧ H T = none ∧ H' = upd H T (.tup [.int (i : Nat), x]) ∧ ∀ xs, SqT K H a xs → xs[i]? = some x,
    fun i H => ∃ xs : List V, SqT K H a xs ∧ xs.length ≤ i⟩
/-- the signs of a text, each in a new pair -/
def ItnS (x : Str) : It :=
  ⟨fun i _ => i < x.cps.size, fun i H v H' => ∃ T c, v = .ref T ∧ H T = none ∧ H' = upd H T (.tup [.int (i : Nat), .str ⟨#[c]⟩]) ∧ x.cps[i]? = some c, fun i _ => x.cps.size ≤ i⟩
theorem turn_enumT {P : Program} {w : World} {K : PySem.W.Frag} {elts : List Expr} {kk : Nat} {tpos : Pos} (a e it : Addr) :
    Turn P w K (.Tuple elts kk tpos) (ItnT K a) [e, it] e (fun i h => (∃ old, IsEnum h e it ((i : Nat) : Int) old) ∧ h.IsTupleIter it a i ∧ e ≠ it) where
  mem := by simp
  obj := fun i h st b hb => by
    obtain ⟨⟨old, he⟩, ⟨o, ho, _, hd⟩, _⟩ := st
    rcases (by simpa using hb : b = e ∨ b = it) with rfl | rfl
    · exact ⟨_, he, fun v q => nomatch q⟩
    · exact ⟨o, ho, fun v q => by rw [hd] at q; cases q⟩
  keep := fun i h h' st k => let ⟨⟨old, he⟩, hi, hne⟩ := st; ⟨⟨old, k e (by simp) _ he⟩, hi.at fun o q => k it (by simp) o q, hne⟩
  item := by
    intro X hP hw hK hc i pnz s σ H E Iv hf st hg
    subst hP hw hK
    obtain ⟨⟨old, he⟩, hit, hne⟩ := st
    obtain ⟨xs, x, hq, hx⟩ := hg
    obtain ⟨its, rvv, p, hzz⟩ := Iv.tuple hq
    obtain ⟨u, hu, ru⟩ := rvv.get hx
    have hle9 : e < s.heap.objs.size := Heap.lt_size he
    have hli9 : it < s.heap.objs.size := by obtain ⟨_, q, _⟩ := hit; exact Heap.lt_size q
    have hal : a < s.heap.objs.size := p.lt
    have hh : X.A.in1.handled = none := Iv.ok.hd hc
    have hai : a ≠ it := fun z => by
      obtain ⟨o1, h1, h2, _⟩ := hit
      obtain ⟨o2, k1, k2, _⟩ := p
      rw [z, h1] at k1; cases k1
      rw [h2] at k2; injection k2 with z2; exact absurd z2 (by decide)
    have hae : a ≠ e := fun z => by
      obtain ⟨o2, k1, k2, _⟩ := p
      have he' : s.heap.get? e = some _ := he
      rw [z, he'] at k1; cases k1
      injection k2 with z2; exact absurd z2 (by decide)
    have D := Draws.tuple (prog := X.prog) (w := X.w) (A := X.A.in1) hh it a hai its.toArray
    have hlt : i < its.toArray.size := by
      have := (List.getElem?_eq_some_iff.mp hu).1
      simpa using this
    refine wpAny_pyNext_enum_itemD D he ⟨hit, show s.heap.IsTuple a its.toArray from p⟩ hlt hne (by simp; exact ⟨hne, hae.symm⟩) fun y h' tk hP ho hs' hT hsz hk => ?_
    have ey : y = u := by
      have h1 : its.toArray[i]? = some u := by simpa using hu
      rw [h1] at hP; exact (Option.some.inj hP).symm
    subst ey
    refine ⟨_, rfl, wpAny_letOwnedTupleGo_enum (s := { s with heap := h', toks := tk + 1 }) ho fun h'' he' sb => ?_⟩
    have hT2 : h''.get? s.heap.objs.size = some { cls := .type "tuple", data := .seq #[.int i tk, y] } := (sb.2 _ (Nat.ne_of_gt hle9)).trans hT
    have new : ObjOk X.prog X.w (upd H s.heap.objs.size (.tup [.int (i : Nat), x])) h'' s.heap.objs.size (.tup [.int (i : Nat), x]) :=
      ⟨by show 2 ≤ sizeLine; decide, [.int i tk, y], .cons ⟨_, rfl⟩ (.cons ru .nil), ⟨_, hT2, rfl, _, rfl⟩⟩
    have I1 : Inv X pnz σ (upd H s.heap.objs.size (.tup [.int (i : Nat), x])) { s with heap := h'', toks := tk + 1 } :=
      Iv.turnedNew (ch := [e, it]) (fun b ob hb q => (sb.2 b (fun z => hb (by simp [z]))).trans (hk b ob (fun z => hb (by simp [z])) (fun z => hb (by simp [z])) q)) hf (Nat.le_refl _) new
    refine ⟨.ref s.heap.objs.size, _, I1, rfl, ⟨_, x, rfl, Iv.hok.fresh (Nat.le_refl _), rfl, fun ys hy => by rw [Iv.tuple_inj hy hq]; exact hx⟩, ⟨⟨y, by simpa using he'⟩, hs'.1.at fun o q => (sb.2 it (Ne.symm hne)).trans q, hne⟩, fun b hb => ?_⟩
    have hb' : b < s.heap.objs.size := by
      rcases (by simpa using hb : b = e ∨ b = it) with z | z
      · rw [z]; exact hle9
      · rw [z]; exact hli9
    rw [upd_ne (Nat.ne_of_lt hb')]
    exact (hf b hb).1
  done := by
    intro X hP hw hK hc i pnz s σ H E Iv hf st hg
    subst hP hw hK
    obtain ⟨⟨old, he⟩, hit, hne⟩ := st
    obtain ⟨xs, hq, hx⟩ := hg
    obtain ⟨its, rvv, p, hzz⟩ := Iv.tuple hq
    have hh : X.A.in1.handled = none := Iv.ok.hd hc
    have hai : a ≠ it := fun z => by
      obtain ⟨o1, h1, h2, _⟩ := hit
      obtain ⟨o2, k1, k2, _⟩ := p
      rw [z, h1] at k1; cases k1
      rw [h2] at k2; injection k2 with z2; exact absurd z2 (by decide)
    obtain ⟨f0, f1, f2, f3, f4, f5⟩ := hf it (by simp)
    have hT : s.TypeIs (.ref e) "enumerate" := ⟨_, he, rfl⟩
    unfold pyNext
    refine wpAny_bind (wpAny_attempt (wpAny_callSpecial?_slot (name := Str.ofString "__next__") hT F.slot_enumerate_next
      (wpAny_call_entry F.slot_enumerate_next hT F.entry_enumerate_next ?_ (F.args_enumerate_next_1 _))))
    show wpAny _ _ (field (.ref e) 2 >>= _) _ _ _
    refine wpAny_bind (wpAny_field he rfl (x := .ref it) rfl ?_)
    refine wpAny_bind (wpAny_nextOf_tuple_end hh hit (show s.heap.IsTuple a its.toArray from p) (by simp; rw [← rvv.length]; exact hx) fun h' x he' hx' => ?_)
    obtain ⟨o, ho, hcl⟩ := hx'
    refine wpAny_bind (wpAny_isInstance (T := "StopIteration") (b := true) ⟨o, ho, hcl⟩ isSubtype_stop ?_)
    exact wpAny_pure ⟨rfl, Iv.turned (t' := s.toks) (fun b o hb q => he' b o hb q) f0 f1 f3 f4 f5⟩
  self := fun A i s Q E st h => let ⟨⟨_, he⟩, _⟩ := st; wpAny_pyIter_enum he h
theorem meets_enum1 {v : Value} {o : Obj} {H : Heap → Prop} (B : Begins v o H) :
    Meets (Builtin.«enumerate.__new__» ⟨[.type "enumerate", v], []⟩) (fun _ R s => H s.heap ∧
      R (.ok (.ret (.ref (s.heap.push o).objs.size))) { s with heap := (s.heap.push o).push { cls := .type "enumerate", data := .fields #[.none, .bool false, .ref s.heap.objs.size, rawInt 0, .none, .none] } }) :=
  .of_wp fun prog w A R s h => by
    obtain ⟨hp, g, d, tk, os⟩ := s; obtain ⟨h1, h⟩ := h
    have hsub := sub_enumerate
    have q1 : ∀ {A2 : Around} {E2 Q2 : Value → Shared → Prop}, Q2 (.ref hp.objs.size) ⟨hp.push o, g, d, tk, os⟩ → wpAny (model prog w) A2 (pyIter v) Q2 E2 ⟨hp, g, d, tk, os⟩ :=
      fun q => B.iter prog w _ _ ⟨hp, g, d, tk, os⟩ _ h1 q
    wp_walk using q1
    refine wpAny_stack_any fun st => wpAny_pure ?_
    split
    · rename_i c _ _ _ _ _
      cases (c == Value.type "enumerate")
      · wp_walk using q1
        exact ⟨_, rfl, h⟩
      · wp_walk using q1
        exact ⟨_, rfl, h⟩
    · wp_walk using q1
      exact ⟨_, rfl, h⟩
theorem turn_enumS {P : Program} {w : World} {K : PySem.W.Frag} {elts : List Expr} {kk : Nat} {tpos : Pos} (x : Str) (tt : Tok) (e it : Addr) :
    Turn P w K (.Tuple elts kk tpos) (ItnS x) [e, it] e (fun i h => (∃ old, IsEnum h e it ((i : Nat) : Int) old) ∧ h.IsStrIter it (strIterType x) x tt i ∧ e ≠ it ∧ i ≤ x.cps.size) where
  mem := by simp
  obj := fun i h st b hb => by
    obtain ⟨⟨old, he⟩, ⟨o, ho, _, hd⟩, _⟩ := st
    rcases (by simpa using hb : b = e ∨ b = it) with rfl | rfl
    · exact ⟨_, he, fun v q => nomatch q⟩
    · exact ⟨o, ho, fun v q => by rw [hd] at q; cases q⟩
  keep := fun i h h' st k => let ⟨⟨old, he⟩, ⟨o, hi1, hi2⟩, hne⟩ := st; ⟨⟨old, k e (by simp) _ he⟩, ⟨o, k it (by simp) o hi1, hi2⟩, hne⟩
  item := by
    intro X hP hw hK hc i pnz s σ H E Iv hf st hg
    subst hP hw hK
    obtain ⟨⟨old, he⟩, hit, hne, hle⟩ := st
    have hi : i < x.cps.size := hg
    have hle9 : e < s.heap.objs.size := Heap.lt_size he
    have hli9 : it < s.heap.objs.size := by obtain ⟨_, q, _⟩ := hit; exact Heap.lt_size q
    have hh : X.A.in1.handled = none := Iv.ok.hd hc
    have D := Draws.text (prog := X.prog) (w := X.w) (A := X.A.in1) hh it x tt
    refine wpAny_pyNext_enum_itemD D he hit hi hne (by simpa using hne) fun y h' tk hP ho hs' hT hsz hk => ?_
    obtain ⟨c, u, hc1, rfl⟩ := hP
    refine ⟨_, rfl, wpAny_letOwnedTupleGo_enum (s := { s with heap := h', toks := tk + 1 }) ho fun h'' he' sb => ?_⟩
    have hT2 : h''.get? s.heap.objs.size = some { cls := .type "tuple", data := .seq #[.int i tk, .str ⟨#[c]⟩ u] } := (sb.2 _ (Nat.ne_of_gt hle9)).trans hT
    have new : ObjOk X.prog X.w (upd H s.heap.objs.size (.tup [.int (i : Nat), .str ⟨#[c]⟩])) h'' s.heap.objs.size (.tup [.int (i : Nat), .str ⟨#[c]⟩]) :=
      ⟨by show 2 ≤ sizeLine; decide, [.int i tk, .str ⟨#[c]⟩ u], .cons ⟨_, rfl⟩ (.cons ⟨u, rfl⟩ .nil), ⟨_, hT2, rfl, _, rfl⟩⟩
    have I1 : Inv X pnz σ (upd H s.heap.objs.size (.tup [.int (i : Nat), .str ⟨#[c]⟩])) { s with heap := h'', toks := tk + 1 } :=
      Iv.turnedNew (ch := [e, it]) (fun b ob hb q => (sb.2 b (fun z => hb (by simp [z]))).trans (hk b ob (fun z => hb (by simp [z])) (fun z => hb (by simp [z])) q)) hf (Nat.le_refl _) new
    refine ⟨.ref s.heap.objs.size, _, I1, rfl, ⟨_, c, rfl, Iv.hok.fresh (Nat.le_refl _), rfl, hc1⟩, ⟨⟨_, by simpa using he'⟩, ?_, hne, hi⟩, fun b hb => ?_⟩
    · obtain ⟨o1, z1, z2⟩ := hs'
      exact ⟨o1, (sb.2 it (Ne.symm hne)).trans z1, z2⟩
    have hb' : b < s.heap.objs.size := by
      rcases (by simpa using hb : b = e ∨ b = it) with z | z
      · rw [z]; exact hle9
      · rw [z]; exact hli9
    rw [upd_ne (Nat.ne_of_lt hb')]
    exact (hf b hb).1
  done := by
    intro X hP hw hK hc i pnz s σ H E Iv hf st hg
    subst hP hw hK
    obtain ⟨⟨old, he⟩, hit, hne, hle⟩ := st
    have hge : x.cps.size ≤ i := hg
    have hh : X.A.in1.handled = none := Iv.ok.hd hc
    obtain ⟨f0, f1, f2, f3, f4, f5⟩ := hf it (by simp)
    have D := Draws.text (prog := X.prog) (w := X.w) (A := X.A.in1) hh it x tt
    obtain rfl : i = x.cps.size := by omega
    exact wpAny_pyNext_enum_endD D he hit fun h' hx => ⟨rfl, Iv.turned (t' := s.toks) (fun b o hb q => hx b o hb q) f0 f1 f3 f4 f5⟩
  self := fun A i s Q E st h => let ⟨⟨_, he⟩, _⟩ := st; wpAny_pyIter_enum he h
theorem call_enum1 {prog : Program} {w : World} {A : Around} {E : Value → Shared → Prop} {s : Shared} {v : Value} {o : Obj} {Hs : Heap → Prop} {Q : Value → Shared → Prop} (B : Begins v o Hs) (h1 : Hs s.heap)
    (h : ∀ h', IsEnum h' (s.heap.objs.size + 1) s.heap.objs.size 0 .none → h'.get? s.heap.objs.size = some o → (∀ b o, s.heap.get? b = some o → h'.get? b = some o) → Q (.ref (s.heap.objs.size + 1)) { s with heap := h' }) :
    wpAny (model prog w) A (call (.type "enumerate") [v]) Q E s := by
  refine callType_new F.called_enumerate (by decide) (F.typeCall_enumerate_1 _) (F.newCall_enumerate_1 _) (fun obj => F.args_object_init_2 obj _) F.entry_enumerate_new (meets_enum1 B) ⟨h1, ?_⟩
  have hzz : (s.heap.push o).objs.size = s.heap.objs.size + 1 := Heap.size_push ..
  show _ ∧ _
  rw [hzz]
  have he : IsEnum ((s.heap.push o).push { cls := .type "enumerate", data := .fields #[.none, .bool false, .ref s.heap.objs.size, rawInt 0, .none, .none] }) (s.heap.objs.size + 1) s.heap.objs.size 0 .none := by
    have q := Heap.get?_push_size (s.heap.push o) (o := { cls := .type "enumerate", data := .fields #[.none, .bool false, .ref s.heap.objs.size, rawInt 0, .none, .none] }) rfl
    rw [hzz] at q; exact q
  exact ⟨⟨_, he, rfl⟩, h _ he (Heap.get?_push_of_some _ (Heap.get?_push_size _ B.free)) fun b o x => Heap.get?_push_of_some _ (Heap.get?_push_of_some _ x)⟩
def tgEnum (K : PySem.W.Frag) (ta : TA) : TI := fun S H R => ta S H fun vs H1 => (∃ a xs, vs = [.ref a] ∧ SqL K H1 a xs ∧ R (Ite K a) H1) ∨ (∃ a xs, vs = [.ref a] ∧ SqT K H1 a xs ∧ R (ItnT K a) H1) ∨ ∃ x, vs = [.str x] ∧ R (ItnS x) H1
theorem pi_enumA {X : Cx} {e : Expr} {ta : TA} {p pos tpos : Pos} {elts : List Expr} {kk : Nat} (hg : Gl X "enumerate") (hm : X.mg "enumerate" = none) (ha : PA X [e] ta) (hs : starEach [e] X.env = [(false, eval e X.env)] := by rfl) :
    PI X (.Tuple elts kk tpos) (.Call (.Name "enumerate" p) [e] [] pos) (tgEnum X.K ta) := by
  refine ⟨fun pnz s σ H R Iv h => ?_⟩
  refine Call_ (ld_blt Iv hg hm boot_enumerate (PyProof.Rows.callWith_type1 (thn (ha.run pos pnz s σ H _ Iv h) fun us s1 ⟨vs, H1, I1, r1, q1⟩ => ?_) hs rfl))
  have fp : ∀ b ∈ [s1.heap.objs.size + 1, s1.heap.objs.size], FpOk X pnz H1 b := fun b hb => by
    have hle : s1.heap.objs.size ≤ b := by
      rcases (by simpa using hb : b = s1.heap.objs.size + 1 ∨ b = s1.heap.objs.size) with z | z
      · rw [z]; exact Nat.le_succ _
      · rw [z]; exact Nat.le_refl _
    exact I1.fpOk hle (I1.hok.fresh hle)
  rcases q1 with ⟨a, xs, ex, hq, q⟩ | ⟨a, xs, ex, hq, q⟩ | ⟨x, ex, q⟩
  · subst ex
    cases r1 with
    | cons r rr =>
      cases rr; cases r
      obtain ⟨its, rvv, p', hzz⟩ := I1.list hq
      refine call_enum1 (begins_list a its.toArray) p'.isList fun h' he hit hk => wpAny_pyIter_enum he ?_
      exact ⟨s1.heap.objs.size + 1, _, _, _, H1, rfl, I1.kept (t' := s1.toks) hk, turn_enum a _ _, ⟨⟨.none, he⟩, ⟨_, hit, rfl, rfl⟩, Nat.succ_ne_self _⟩, fp, q⟩
  · subst ex
    cases r1 with
    | cons r rr =>
      cases rr; cases r
      obtain ⟨its, rvv, p', hzz⟩ := I1.tuple hq
      refine call_enum1 (begins_tuple a its.toArray) (show s1.heap.IsTuple a its.toArray from p') fun h' he hit hk => wpAny_pyIter_enum he ?_
      exact ⟨s1.heap.objs.size + 1, _, _, _, H1, rfl, I1.kept (t' := s1.toks) hk, turn_enumT a _ _, ⟨⟨.none, he⟩, ⟨_, hit, rfl, rfl⟩, Nat.succ_ne_self _⟩, fp, q⟩
  · subst ex
    cases r1 with
    | cons r rr =>
      cases rr
      obtain ⟨t, rfl⟩ := r
      refine call_enum1 (begins_text x t) True.intro fun h' he hit hk => wpAny_pyIter_enum he ?_
      exact ⟨s1.heap.objs.size + 1, _, _, _, H1, rfl, I1.kept (t' := s1.toks) hk, turn_enumS x t _ _, ⟨⟨.none, he⟩, ⟨_, hit, rfl, rfl⟩, Nat.succ_ne_self _, Nat.zero_le _⟩, fp, q⟩
section
variable {G : KW} {η : List Addr} {H : Hp}
theorem it_enumT {a : Addr} {ds : List D} {vs : List V} (h : SqT G.K H a vs) (r : RelAll G η H ds vs) : ItOk G η H (ItnT G.K a) (numD 0 ds) where
  go := fun i d hd H' e => by
    obtain ⟨x, hx, rfl⟩ := numD_get hd
    obtain ⟨v, hv, rvv⟩ := r.get hx
    refine ⟨⟨vs, v, SqT.ext e h, hv⟩, fun z H'' w => ?_⟩
    obtain ⟨T, v', rfl, hT, rfl, w1⟩ := w
    have e1 := w1 vs (SqT.ext e h)
    rw [hv] at e1; cases e1
    rw [show ((0 + i : Nat) : Int) = ((i : Nat) : Int) by omega]
    exact pair_new hT (.int _) (rvv.ext (List.prefix_refl _) e)
  stop := fun i hi H' e => ⟨vs, SqT.ext e h, by rw [numD_len, r.length] at hi; exact hi⟩
theorem it_enumS {x : Str} : ItOk G η H (ItnS x) (numD 0 (x.cps.toList.map fun c => .str ⟨#[c]⟩)) where
  go := fun i d hd H' e => by
    obtain ⟨y, hy, rfl⟩ := numD_get hd
    rw [List.getElem?_map] at hy
    obtain ⟨c, hc, rfl⟩ := Option.map_eq_some_iff.mp hy
    have hi : i < x.cps.size := by simpa using (List.getElem?_eq_some_iff.mp hc).1
    refine ⟨hi, fun z H'' w => ?_⟩
    obtain ⟨T, c', rfl, hT, rfl, w1⟩ := w
    have : c' = c := by
      have h2 : x.cps[i]? = some c := by simpa using hc
      rw [h2] at w1; exact (Option.some.inj w1).symm
    subst this
    rw [show ((0 + i : Nat) : Int) = ((i : Nat) : Int) by omega]
    exact pair_new hT (.int _) (.str _)
  stop := fun i hi H' e => by rw [numD_len] at hi; simpa [ItnS] using hi
end
/-- of a list, a tuple, a text -/
def iEnumA (fs : List FE) : FI := fun env ah => (iArgs fs env ah).bind fun ds ah1 => match ds with
  | [.lst xs] => .ok (numD 0 xs) ah1
  | [.tup xs] => .ok (numD 0 xs) ah1
  | [.ct xs] => .ok (numD 0 xs) ah1
  | [.str x] => .ok (numD 0 (x.cps.toList.map fun c => .str ⟨#[c]⟩)) ah1
  | _ => .bad
theorem i_enumA {X : Cx} {W : XW} {e : Expr} {fs : List FE} {p pos tpos : Pos} {elts : List Expr} {kk : Nat} (hg : Gl X "enumerate") (hm : X.mg "enumerate" = none) (ha : PA X [e] (AX' X W fs)) (hs : starEach [e] X.env = [(false, eval e X.env)] := by rfl) :
    PI X (.Tuple elts kk tpos) (.Call (.Name "enumerate" p) [e] [] pos) (IX X W (iEnumA fs)) := PI.imp (pi_enumA hg hm ha hs) fun S H R ⟨env, ah, η, en, pk, h⟩ =>
  ⟨env, ah, η, en, pk, h.bind.imp0 fun ds η1 H1 ah1 m1 p1 q1 => fun vs rs => by
    split at q1
    · cases rs with
      | cons r rr =>
        cases rr
        cases r with
        | lst h1 r1 => exact .inl ⟨_, _, rfl, h1.sq, q1.at p1 _ (it_enum h1 r1)⟩
    · cases rs with
      | cons r rr =>
        cases rr
        cases r with
        | tup h1 r1 => exact .inr (.inl ⟨_, _, rfl, .inl (.inl h1), q1.at p1 _ (it_enumT (.inl (.inl h1)) r1)⟩)
    · cases rs with
      | cons r rr =>
        cases rr
        cases r with
        | ct h1 r1 => exact .inr (.inl ⟨_, _, rfl, h1.sqt, q1.at p1 _ (it_enumT h1.sqt r1)⟩)
    · cases rs with
      | cons r rr =>
        cases rr
        cases r with
        | str => exact .inr (.inr ⟨_, rfl, q1.at p1 _ it_enumS⟩)
    · exact q1.elim⟩
end DL
namespace DL
open PySem PySem.Spec PyProof.Rows L2
section
variable {X : Cx} {G : KW} {W : XW} {η : List Addr} {H : Hp} {ah : AH}
theorem relL1 {d : D} {vs : List V} (r : RelAll G η H [d] vs) : ∃ v, vs = [v] ∧ Rel G η H d v := by
  cases r with | cons h r => cases r; exact ⟨_, rfl, h⟩
theorem relL2 {d e : D} {vs : List V} (r : RelAll G η H [d, e] vs) : ∃ v u, vs = [v, u] ∧ Rel G η H d v ∧ Rel G η H e u := by
  cases r with | cons h r => obtain ⟨u, rfl, k⟩ := relL1 r; exact ⟨_, _, rfl, h, k⟩
def oLen (ds : List D) (ah : AH) : Res D := match ds with
  | [.str x] => if x.length ≤ sizeLine then .ok (.int (x.length : Nat)) ah else .bad
  | [d] => match seqD ah d with
    | some (_, xs) => .ok (.int (xs.length : Nat)) ah
    | none => match dkD ah d with
      | some (ks, _) => .ok (.int (ks.length : Nat)) ah
      | none => .bad
  | _ => .bad
def rLenA (K : PySem.W.Frag) : List V → Hp → VK → Prop := fun xs H Q => (∃ x n, xs = [x] ∧ LenV K x H n ∧ Q (.int n) H) ∨ ∃ a kvz, xs = [V.ref a] ∧ Rd H a (.dK kvz) ∧ Q (.int (kvz.length : Nat)) H
theorem call_lenF : CallR X (.builtin "len") (fun xs H Q => ∃ a kvz, xs = [V.ref a] ∧ Rd H a (.dK kvz) ∧ Q (.int (kvz.length : Nat)) H) := by
  intro pnz s σ H xs us Q Iv r h
  obtain ⟨p, kvz, rfl, hp, q⟩ := h
  rw [Vals.ref1 r]
  exact d_len Iv hp fun t s' J => ⟨.int ((kvz.length : Nat) : Int), H, J, ⟨_, rfl⟩, q⟩
theorem call_lenA : CallR X (.builtin "len") (rLenA X.K) := call_len.or call_lenF
theorem ok_len : CaOk G W (rLenA G.K) oLen := by
  intro η H ah ds vs Q p r h
  unfold oLen at h
  split at h
  · obtain ⟨v, rfl, rx⟩ := relL1 r
    cases rx
    split at h
    · exact .inl ⟨_, _, rfl, ⟨by assumption, rfl⟩, post_val p (.int _) h⟩
    · exact h.elim
  · rename_i d _
    obtain ⟨v, rfl, rx⟩ := relL1 r
    split at h
    · rename_i b xs e1
      obtain ⟨a, us, rfl, r1, q1, q2⟩ := seq_rel p rx e1
      refine .inl ⟨.ref a, xs.length, rfl, ?_, post_val p (.int _) h⟩
      cases b with
      | true => exact .inr ⟨us, q1 rfl, r1.length⟩
      | false => exact .inl ⟨us, .inl (q2 rfl), r1.length⟩
    · split at h
      · rename_i ks xs e1
        obtain ⟨a, kvz, rfl, h1, h2, h3⟩ := dk_rel p rx e1
        refine .inr ⟨a, kvz, rfl, h1, post_val (W := W) p (.int _) ?_⟩
        rw [← h2, List.length_map] at h
        exact h
      · exact h.elim
  · exact h.elim
def rprOk (q : PyData) : Bool := q.showable && (q.leavesShort 13 && (decide (q.bulk ≤ 1048576) && (decide (q.depth ≤ 40) && !q.hasDict)))
/-- a value as plain data; what is a tuple or a list, told by where it lies -/
def oRepr (ds : List D) (ah : AH) : Res D := match ds with
  | [d] => match toPy d with
    | some q => if rprOk q = true then .ok (.str q.shown) ah else .bad
    | none => .bad
  | _ => .bad
def rRepr (K : PySem.W.Frag) : List V → Hp → VK → Prop := fun xs H Q => ∃ (x : V) (q : PyData), xs = [x] ∧ Dp K H x q ∧ rprOk q = true ∧ Q (.str q.shown) H
theorem rpr_fits {q : PyData} (h : rprOk q = true) : q.shown.length ≤ sizeLine := by
  unfold rprOk at h
  simp only [Bool.and_eq_true, decide_eq_true_eq] at h
  exact PyData.shown_fits_bulk (B := 13) (by decide) (by decide) h.2.1 h.2.2.1
theorem call_repr (hn : NoRepr X.A) (hu : X.A.units + 64 < cLine) : CallR X (.builtin "repr") (rRepr X.K) := by
  intro pnz s σ H xs us Q Iv r h
  obtain ⟨x, q, rfl, dq, ok, hq⟩ := h
  obtain ⟨u, rfl, rx⟩ := vals1 r
  have fit := rpr_fits ok
  obtain ⟨as, rd⟩ := Dp.reads Iv q x u dq rx
  unfold rprOk at ok
  simp only [Bool.and_eq_true, decide_eq_true_eq, Bool.not_eq_true'] at ok
  have base : ∀ a, u = .ref a → wpAny (model X.prog X.w) X.A (call (.builtin "repr") [u]) (EP X pnz σ Q) X.xe s := by
    rintro a rfl
    refine repr_of_reads' rd ok.1 (fun z => ?_) hn (by have := ok.2.2.2.1; omega) (fun _ _ e => e) (fun h' w tk hk => ⟨.str q.shown, H, Iv.kept hk, ⟨w, rfl⟩, hq⟩) fit
    rw [ok.2.2.2.2] at z
    exact Bool.noConfusion z
  cases rd with
  | none => exact PySem.P.repr_of_none ⟨.str "None", H, Iv.tok _, ⟨_, rfl⟩, hq⟩
  | bool b => exact PySem.P.repr_of_bool ⟨.str (if b then "True" else "False"), H, Iv.tok _, ⟨_, rfl⟩, hq⟩
  | int i t => exact PySem.P.repr_of_int (by simpa [PyData.showable] using ok.1) ⟨.str (toString i), H, Iv.tok _, ⟨_, rfl⟩, hq⟩
  | str x t => exact PySem.P.repr_of_str (hsz := fit) ⟨.str (reprText x), H, Iv.tok _, ⟨_, rfl⟩, hq⟩
  | _ => exact base _ rfl
theorem ok_repr : CaOk G W (rRepr G.K) oRepr := by
  intro η H ah ds vs Q p r h
  unfold oRepr at h
  split at h
  · obtain ⟨v, rfl, rx⟩ := relL1 r
    split at h
    · rename_i q hq
      split at h
      · exact ⟨v, q, rfl, rel_dp _ rx hq, by assumption, post_val p (.str _) h⟩
      · exact h.elim
    · exact h.elim
  · exact h.elim
def rTup (K : PySem.W.Frag) : List V → Hp → VK → Prop := fun xs H Q => ∃ p ys, xs = [.ref p] ∧ ((SqL K H p ys ∧ ∀ l, H l = none → Q (.ref l) (upd H l (.tup ys))) ∨ (SqT K H p ys ∧ Q (.ref p) H))
def oTuple (ds : List D) (ah : AH) : Res D := match ds with
  | [d] => match seqD ah d with
    | some (true, _) => .ok d ah
    | some (false, xs) => .ok (.tup xs) ah
    | none => .bad
  | _ => .bad
theorem ok_tuple : CaOk G W (rTup G.K) oTuple := by
  intro η H ah ds vs Q p r h
  unfold oTuple at h
  split at h
  · rename_i d
    obtain ⟨v, rfl, rx⟩ := relL1 r
    split at h
    · rename_i xs e1
      obtain ⟨a, us, rfl, r1, q1, q2⟩ := seq_rel p rx e1
      exact ⟨a, us, rfl, .inr ⟨q1 rfl, post_val p rx h⟩⟩
    · rename_i xs e1
      obtain ⟨a, us, rfl, r1, q1, q2⟩ := seq_rel p rx e1
      exact ⟨a, us, rfl, .inl ⟨.inl (q2 rfl), fun l hl => post_tup p r1 h hl⟩⟩
    · exact h.elim
  · exact h.elim
def rLst (K : PySem.W.Frag) : List V → Hp → VK → Prop := fun xs H Q => ∃ p ys, xs = [.ref p] ∧ (SqL K H p ys ∨ SqT K H p ys) ∧ ∀ l, H l = none → Q (.ref l) (upd H l (.lst ys))
/-- list(x), a list that does not change -/
def oList (ds : List D) (ah : AH) : Res D := match ds with
  | [d] => match seqD ah d with
    | some (_, xs) => .ok (.lst xs) ah
    | none => .bad
  | _ => .bad
def oListM (ds : List D) (ah : AH) : Res D := match ds with
  | [d] => match seqD ah d with
    | some (_, xs) => .ok (.ref ah.length) (ah ++ [.lst xs])
    | none => .bad
  | _ => .bad
theorem ok_list : CaOk G W (rLst G.K) oList := by
  intro η H ah ds vs Q p r h
  unfold oList at h
  split at h
  · obtain ⟨v, rfl, rx⟩ := relL1 r
    split at h
    · rename_i b xs e1
      obtain ⟨a, us, rfl, r1, q1, q2⟩ := seq_rel p rx e1
      refine ⟨a, us, rfl, ?_, fun l hl => post_fz p r1 h hl⟩
      cases b with
      | true => exact .inr (q1 rfl)
      | false => exact .inl (.inl (q2 rfl))
    · exact h.elim
  · exact h.elim
theorem ok_listM : CaOk G W (rLst G.K) oListM := by
  intro η H ah ds vs Q p r h
  unfold oListM at h
  split at h
  · obtain ⟨v, rfl, rx⟩ := relL1 r
    split at h
    · rename_i b xs e1
      obtain ⟨a, us, rfl, r1, q1, q2⟩ := seq_rel p rx e1
      refine ⟨a, us, rfl, ?_, fun l hl => post_mut p r1 h hl⟩
      cases b with
      | true => exact .inr (q1 rfl)
      | false => exact .inl (.inl (q2 rfl))
    · exact h.elim
  · exact h.elim
def intsD : List D → Option (List Int)
  | [] => some []
  | .int i :: ds => (intsD ds).map (i :: ·)
  | _ => none
def blsD : List D → Option (List Bool)
  | [] => some []
  | .bl i :: ds => (blsD ds).map (i :: ·)
  | _ => none
def strsD : List D → Option (List Str)
  | [] => some []
  | .str i :: ds => (strsD ds).map (i :: ·)
  | _ => none
theorem ints_rel : ∀ {ds : List D} {vs : List V} {ns : List Int}, RelAll G η H ds vs → intsD ds = some ns → vs = ns.map V.int
  | [], _, _, .nil, e => by cases e; rfl
  | .int i :: ds, _, _, .cons (.int _) r, e => by
    simp only [intsD] at e
    obtain ⟨ms, e1, rfl⟩ := Option.map_eq_some_iff.mp e
    rw [ints_rel r e1]; rfl
theorem bls_rel : ∀ {ds : List D} {vs : List V} {ns : List Bool}, RelAll G η H ds vs → blsD ds = some ns → vs = ns.map V.bl
  | [], _, _, .nil, e => by cases e; rfl
  | .bl i :: ds, _, _, .cons (.bl _) r, e => by
    simp only [blsD] at e
    obtain ⟨ms, e1, rfl⟩ := Option.map_eq_some_iff.mp e
    rw [bls_rel r e1]; rfl
theorem strs_rel : ∀ {ds : List D} {vs : List V} {ns : List Str}, RelAll G η H ds vs → strsD ds = some ns → vs = ns.map V.str
  | [], _, _, .nil, e => by cases e; rfl
  | .str i :: ds, _, _, .cons (.str _) r, e => by
    simp only [strsD] at e
    obtain ⟨ms, e1, rfl⟩ := Option.map_eq_some_iff.mp e
    rw [strs_rel r e1]; rfl
theorem RelAll.ints : ∀ ns : List Int, RelAll G η H (ns.map D.int) (ns.map V.int)
  | [] => .nil
  | n :: ns => .cons (.int n) (RelAll.ints ns)
theorem RelAll.strs : ∀ ns : List Str, RelAll G η H (ns.map D.str) (ns.map V.str)
  | [] => .nil
  | n :: ns => .cons (.str n) (RelAll.strs ns)
@[simp] theorem intsD_map (ns : List Int) : intsD (ns.map D.int) = some ns := by
  induction ns with
  | nil => rfl
  | cons n ns ih => simp [intsD, ih]
@[simp] theorem blsD_map (ns : List Bool) : blsD (ns.map D.bl) = some ns := by
  induction ns with
  | nil => rfl
  | cons n ns ih => simp [blsD, ih]
@[simp] theorem strsD_map (ns : List Str) : strsD (ns.map D.str) = some ns := by
  induction ns with
  | nil => rfl
  | cons n ns ih => simp [strsD, ih]
/-- the items of a list -/
def lstD (ah : AH) (d : D) : Option (List D) := match seqD ah d with
  | some (false, xs) => some xs
  | _ => none
theorem lst_rel {d : D} {v : V} {xs : List D} (p : HpOk G η H ah) (r : Rel G η H d v) (e : lstD ah d = some xs) : ∃ a us, v = .ref a ∧ RelAll G η H xs us ∧ SqL G.K H a us := by
  unfold lstD at e
  split at e
  · rename_i ys e1
    cases e
    obtain ⟨a, us, rfl, r1, q1, q2⟩ := seq_rel p r e1
    exact ⟨a, us, rfl, r1, .inl (q2 rfl)⟩
  · cases e
def oL1 {α : Type} (g : List D → Option α) (k : α → Option D) (ds : List D) (ah : AH) : Res D := match ds with
  | [d] => match lstD ah d with
    | some xs => match g xs with
      | some a => match k a with
        | some r => .ok r ah
        | none => .bad
      | none => .bad
    | none => .bad
  | _ => .bad
theorem ok_L1 {α : Type} {g : List D → Option α} {k : α → Option D} {r : List V → Hp → VK → Prop} (hr : ∀ (η : List Addr) (H : Hp) (ah : AH) (a : Addr) (us : List V) (xs : List D) (x : α) (d : D) (Q : VK), HpOk G η H ah → RelAll G η H xs us → SqL G.K H a us → g xs = some x → k x = some d →
    Post G W η H (.ok d ah) (QV G Q) → r [.ref a] H (QF Q)) : CaOk G W r (oL1 g k) := by
  intro η H ah ds vs Q p rr h
  unfold oL1 at h
  split at h
  · obtain ⟨v, rfl, rx⟩ := relL1 rr
    split at h
    · rename_i xs e1
      obtain ⟨a, us, rfl, r1, q1⟩ := lst_rel p rx e1
      split at h
      · split at h
        · exact hr η H ah a us xs _ _ Q p r1 q1 (by assumption) (by assumption) h
        · exact h.elim
      · exact h.elim
    · exact h.elim
  · exact h.elim
def oSum := oL1 intsD fun ns => some (.int ns.sum)
theorem ok_sum : CaOk G W (rSum G.K) oSum := ok_L1 fun η H ah a us xs ns d Q p r q e1 e2 h => by
  cases e2
  obtain rfl := ints_rel r e1
  exact ⟨a, ns, rfl, q, post_val p (.int _) h⟩
def oAll := oL1 blsD fun bs => some (.bl (bs.all id))
theorem ok_all : CaOk G W (rAll G.K) oAll := ok_L1 fun η H ah a us xs ns d Q p r q e1 e2 h => by
  cases e2
  obtain rfl := bls_rel r e1
  exact ⟨a, ns, rfl, q, post_val p (.bl _) h⟩
def oAny := oL1 blsD fun bs => some (.bl (bs.any id))
theorem ok_any : CaOk G W (rAny G.K) oAny := ok_L1 fun η H ah a us xs ns d Q p r q e1 e2 h => by
  cases e2
  obtain rfl := bls_rel r e1
  exact ⟨a, ns, rfl, q, post_val p (.bl _) h⟩
def maxI : List Int → Option Int
  | [] => none
  | [a] => some a
  | a :: as => (maxI as).map (max a)
def minI : List Int → Option Int
  | [] => none
  | [a] => some a
  | a :: as => (minI as).map (min a)
theorem maxI_eq : ∀ {ns : List Int} {a : Int}, maxI ns = some a → a ∈ ns ∧ ∀ y ∈ ns, y ≤ a
  | [b], a, e => by cases e; simp
  | b :: c :: ns, a, e => by
    simp only [maxI] at e
    obtain ⟨m, e1, rfl⟩ := Option.map_eq_some_iff.mp e
    obtain ⟨h1, h2⟩ := maxI_eq (ns := c :: ns) e1
    refine ⟨?_, fun y hy => ?_⟩
    · rcases Int.le_total b m with h | h
      · rw [Int.max_eq_right h]; exact List.mem_cons_of_mem _ h1
      · rw [Int.max_eq_left h]; simp
    · rcases List.mem_cons.mp hy with rfl | hy
      · omega
      · have := h2 y hy; omega
theorem minI_eq : ∀ {ns : List Int} {a : Int}, minI ns = some a → a ∈ ns ∧ ∀ y ∈ ns, a ≤ y
  | [b], a, e => by cases e; simp
  | b :: c :: ns, a, e => by
    simp only [minI] at e
    obtain ⟨m, e1, rfl⟩ := Option.map_eq_some_iff.mp e
    obtain ⟨h1, h2⟩ := minI_eq (ns := c :: ns) e1
    refine ⟨?_, fun y hy => ?_⟩
    · rcases Int.le_total b m with h | h
      · rw [Int.min_eq_left h]; simp
      · rw [Int.min_eq_right h]; exact List.mem_cons_of_mem _ h1
    · rcases List.mem_cons.mp hy with rfl | hy
      · omega
      · have := h2 y hy; omega
def oMax := oL1 intsD fun ns => (maxI ns).map D.int
def oMin := oL1 intsD fun ns => (minI ns).map D.int
theorem ok_max : CaOk G W (rMax G.K) oMax := ok_L1 fun η H ah a us xs ns d Q p r q e1 e2 h => by
  obtain ⟨m, e3, rfl⟩ := Option.map_eq_some_iff.mp e2
  obtain rfl := ints_rel r e1
  obtain ⟨h1, h2⟩ := maxI_eq e3
  refine ⟨a, ns, rfl, q, List.length_pos_of_mem h1, fun m' hm hy => ?_⟩
  have := h2 m' hm; have := hy m h1
  obtain rfl : m' = m := by omega
  exact post_val p (.int _) h
theorem ok_min : CaOk G W (rMin G.K) oMin := ok_L1 fun η H ah a us xs ns d Q p r q e1 e2 h => by
  obtain ⟨m, e3, rfl⟩ := Option.map_eq_some_iff.mp e2
  obtain rfl := ints_rel r e1
  obtain ⟨h1, h2⟩ := minI_eq e3
  refine ⟨a, ns, rfl, q, List.length_pos_of_mem h1, fun m' hm hy => ?_⟩
  have := h2 m' hm; have := hy m h1
  obtain rfl : m' = m := by omega
  exact post_val p (.int _) h
end
end DL
namespace DL
open PySem PySem.Spec PyProof.Rows L2
section
variable {X : Cx} {G : KW} {W : XW} {η : List Addr} {H : Hp} {ah : AH}
def oSorted := oL1 intsD fun ns => some (.lst ((ns.mergeSort (fun a b => decide (a ≤ b))).map D.int))
theorem sorted_one {ns ms : List Int} (p : ms.Perm ns) (s : ms.Pairwise (· ≤ ·)) : ms = ns.mergeSort (fun a b => decide (a ≤ b)) := by
  have h2 := List.pairwise_mergeSort (le := fun (a b : Int) => decide (a ≤ b)) (fun a b c => by simp only [decide_eq_true_eq]; omega) (fun a b => by simp only [Bool.or_eq_true, decide_eq_true_eq]; omega) ns
  exact List.Perm.eq_of_pairwise (le := (· ≤ ·)) (fun a b _ _ h1 h2 => by omega) s (h2.imp fun h => of_decide_eq_true h) (p.trans (List.mergeSort_perm _ _).symm)
theorem ok_sorted : CaOk G W (rSortedI G.K) oSorted := ok_L1 fun η H ah a us xs ns d Q p r q e1 e2 h => by
  cases e2
  obtain rfl := ints_rel r e1
  refine ⟨a, ns, rfl, q, fun ms l h1 h2 hl => ?_⟩
  rw [sorted_one h1 h2]
  exact post_fz p (RelAll.ints _) h hl
def oAbs (ds : List D) (ah : AH) : Res D := match ds with
  | [.int i] => .ok (.int (if i < 0 then -i else i)) ah
  | _ => .bad
theorem ok_abs : CaOk G W (fun xs H Q => ∃ i, xs = [.int i] ∧ Q (.int (if i < 0 then -i else i)) H) oAbs := by
  intro η H ah ds vs Q p r h
  unfold oAbs at h
  split at h
  · obtain ⟨v, rfl, rx⟩ := relL1 r
    cases rx
    exact ⟨_, rfl, post_val p (.int _) h⟩
  · exact h.elim
def oInt (ds : List D) (ah : AH) : Res D := match ds with
  | [.int i] => .ok (.int i) ah
  | [.bl b] => .ok (.int (if b then 1 else 0)) ah
  | _ => .bad
theorem ok_int : CaOk G W (fun xs H Q => (∃ i, xs = [.int i] ∧ Q (.int i) H) ∨ ∃ k, xs = [.bl k] ∧ Q (.int (if k then 1 else 0)) H) oInt := by
  intro η H ah ds vs Q p r h
  unfold oInt at h
  split at h
  · obtain ⟨v, rfl, rx⟩ := relL1 r
    cases rx
    exact .inl ⟨_, rfl, post_val p (.int _) h⟩
  · obtain ⟨v, rfl, rx⟩ := relL1 r
    cases rx
    exact .inr ⟨_, rfl, post_val p (.int _) h⟩
  · exact h.elim
def oStr (ds : List D) (ah : AH) : Res D := match ds with
  | [.int i] => if i.natAbs.log2 < 1920 then .ok (.str (toString i)) ah else .bad
  | _ => .bad
theorem ok_str : CaOk G W (fun xs H Q => ∃ i, xs = [.int i] ∧ i.natAbs.log2 < 1920 ∧ Q (.str (toString i)) H) oStr := by
  intro η H ah ds vs Q p r h
  unfold oStr at h
  split at h
  · obtain ⟨v, rfl, rx⟩ := relL1 r
    cases rx
    split at h
    · exact ⟨_, rfl, by assumption, post_val p (.str _) h⟩
    · exact h.elim
  · exact h.elim
def oMax2 (ds : List D) (ah : AH) : Res D := match ds with
  | [.int i, .int j] => .ok (.int (if j > i then j else i)) ah
  | _ => .bad
def oMin2 (ds : List D) (ah : AH) : Res D := match ds with
  | [.int i, .int j] => .ok (.int (if j < i then j else i)) ah
  | _ => .bad
theorem ok_max2 : CaOk G W (fun xs H Q => ∃ i j, xs = [.int i, .int j] ∧ Q (.int (if j > i then j else i)) H) oMax2 := by
  intro η H ah ds vs Q p r h
  unfold oMax2 at h
  split at h
  · obtain ⟨v, u, rfl, rx, ry⟩ := relL2 r
    cases rx; cases ry
    exact ⟨_, _, rfl, post_val p (.int _) h⟩
  · exact h.elim
theorem ok_min2 : CaOk G W (fun xs H Q => ∃ i j, xs = [.int i, .int j] ∧ Q (.int (if j < i then j else i)) H) oMin2 := by
  intro η H ah ds vs Q p r h
  unfold oMin2 at h
  split at h
  · obtain ⟨v, u, rfl, rx, ry⟩ := relL2 r
    cases rx; cases ry
    exact ⟨_, _, rfl, post_val p (.int _) h⟩
  · exact h.elim
def tyD (ah : AH) : D → Option String
  | .non => some "NoneType"
  | .bl _ => some "bool"
  | .int _ => some "int"
  | .str _ => some "str"
  | .tup _ => some "tuple"
  | .ct _ => some "tuple"
  | .lst _ => some "list"
  | .dk _ _ => some "dict"
  | .ref n => match ah[n]? with
    | some (.lst _) => some "list"
    | some (.dk _ _) => some "dict"
    | some (.dt _ _) => some "dict"
    | some (.fz (.lst _)) => some "list"
    | some (.fz (.tup _)) => some "tuple"
    | some (.fz (.dk _ _)) => some "dict"
    | _ => none
  | _ => none
theorem ty_rel {d : D} {v : V} {T : String} (p : HpOk G η H ah) (r : Rel G η H d v) (e : tyD ah d = some T) : TyX G.K H v (.type T) := by
  cases r with
  | non => cases e; exact .base .non
  | bl b => cases e; exact .base (.bl b)
  | int b => cases e; exact .base (.int b)
  | str b => cases e; exact .base (.str b)
  | tup h r => cases e; exact .base (.tup h)
  | ct h r =>
    cases e
    rcases h with ⟨o, its, n, h1, h2, _⟩ | ⟨o, h, _⟩
    · exact .kTuple h1 h2
    · exact .fTuple h
  | lst h r => cases e; obtain ⟨o, h⟩ := h; exact .base (.frz h)
  | dk h k r => cases e; exact .fDict h
  | dt h k r => cases e
  | cd h k r => cases e
  | fn a => cases e
  | ty n => cases e
  | ref hn =>
    obtain ⟨o, ho, ok⟩ := p.at hn
    simp only [tyD, ho] at e
    cases o with
    | lst ds => cases e; obtain ⟨vs, h1, _⟩ := ok; exact .base (.lst h1)
    | dk ks ds => cases e; obtain ⟨vs, h1, _⟩ := ok; exact .base (.dK h1)
    | dt ks ds => cases e; obtain ⟨vs, h1, _⟩ := ok; exact .base (.dT h1)
    | gone => cases e
    | tab p => cases e
    | rng lo hi => cases e
    | dx ks ds => cases e
    | xd _ _ _ => cases e
    | ins _ _ => cases e
    | fz d =>
      cases d with
      | lst ds => cases e; obtain ⟨_, r⟩ := ok; cases r with | lst h r => obtain ⟨o, h⟩ := h; exact .base (.frz h)
      | tup ds => cases e; obtain ⟨_, r⟩ := ok; cases r with | tup h r => exact .base (.tup h)
      | dk ks ds => cases e; obtain ⟨_, r⟩ := ok; cases r with | dk h k r => exact .fDict h
      | _ => cases e
def isiT (a b : String) : Option Bool :=
  if b = "tuple" then some (a == "tuple") else if b = "list" then some (a == "list") else if b = "dict" then some (a == "dict") else if b = "str" then some (a == "str")
  else if b = "bool" then some (a == "bool") else if b = "int" then some (a == "int" || a == "bool") else none
theorem isi_all : ∀ a ∈ ["NoneType", "bool", "int", "str", "tuple", "list", "dict"], ∀ b ∈ ["tuple", "list", "dict", "str", "bool", "int"], kitB a b = isiT a b := by decide +kernel
theorem tyD_mem {d : D} {T : String} (e : tyD ah d = some T) : T ∈ ["NoneType", "bool", "int", "str", "tuple", "list", "dict"] := by
  unfold tyD at e
  split at e <;> first | (cases e; decide) | cases e | skip
  split at e <;> first | (cases e; decide) | cases e
theorem isiT_mem {a b : String} {r : Bool} (e : isiT a b = some r) : b ∈ ["tuple", "list", "dict", "str", "bool", "int"] := by
  unfold isiT at e
  split at e
  · rename_i h; subst h; decide
  split at e
  · rename_i h; subst h; decide
  split at e
  · rename_i h; subst h; decide
  split at e
  · rename_i h; subst h; decide
  split at e
  · rename_i h; subst h; decide
  split at e
  · rename_i h; subst h; decide
  · cases e
def oIsi (ds : List D) (ah : AH) : Res D := match ds with
  | [d, .ty n] => match tyD ah d with
    | some T => match isiT T n with
      | some b => .ok (.bl b) ah
      | none => .bad
    | none => .bad
  | _ => .bad
theorem ok_isi : CaOk G W (rIsi G.K) oIsi := by
  intro η H ah ds vs Q p r h
  unfold oIsi at h
  split at h
  · obtain ⟨v, u, rfl, rx, ry⟩ := relL2 r
    cases ry
    split at h
    · rename_i T e1
      split at h
      · rename_i b e2
        refine ⟨v, .ty _, .type T, .type _, b, rfl, .ty _, ty_rel p rx e1, kit_ty ?_, post_val p (.bl _) h⟩
        rw [isi_all _ (tyD_mem e1) _ (isiT_mem e2)]
        exact e2
      · exact h.elim
    · exact h.elim
  · exact h.elim
def iK (d : D) : FE := fun _ ah => .ok d ah
theorem j_glob {x : Str} {v : V} {u : Value} {d : D} {pos : Pos} (hg : Gl X x) (hm : X.mg x = some u) (r : RelV v u) (rd : ∀ η H, Rel (gX X) η H d v) (hd : (x == ("__debug__" : Str)) = false := by decide) : PE X (.Name x pos) (SX X W (iK d)) :=
  PE.imp (pe_glob hg hm r hd) fun S H Q ⟨env, ah, η, en, p, h⟩ => h.at p v (rd η H)
theorem j_ty {x : Str} {n : String} {pos : Pos} (hg : Gl X x) (hm : X.mg x = none) (hv : bootBuiltins x = some (.type n)) (hn : x ≠ "__name__" := by decide) (hd : (x == ("__debug__" : Str)) = false := by decide) : PE X (.Name x pos) (SX X W (iK (.ty n))) :=
  PE.imp (pe_bltn hg hm hv (v := .ty n) rfl hn hd) fun S H Q ⟨env, ah, η, en, p, h⟩ => h.at p _ (.ty n)
def iM1 (o : Str → D → AH → Res D) (fo f : FE) : FE := fun env ah => (fo env ah).bind fun x ah1 => match x with
  | .str a => (f env ah1).bind fun y ah2 => o a y ah2
  | _ => .bad
def MtOk (G : KW) (W : XW) (r : V → List V → Hp → VK → Prop) (o : Str → D → AH → Res D) : Prop :=
  ∀ (η : List Addr) (H : Hp) (ah : AH) (a : Str) (d : D) (v : V) (Q : VK), HpOk G η H ah → Rel G η H d v → Post G W η H (o a d ah) (QV G Q) → r (.str a) [v] H (QF Q)
theorem j_m1 {id : String} {name : Str} {o e : Expr} {fo f : FE} {apos pos : Pos} {r : V → List V → Hp → VK → Prop} {m : Str → D → AH → Res D} (slot : Slot "str" name id) (ty : typeOf (.builtin id) = pure (.type "method_descriptor")) (rule : MtR X id r) (k : MtOk (gX X) W r m)
    (ho : PE X o (SX X W fo)) (he : PE X e (SX X W f)) (hs : starEach [e] X.env = [(false, eval e X.env)] := by rfl) (hbase : attributeBase o name X.env (eval o X.env) = eval o X.env := by rfl) (hline : (apos.endLine == pos.line) = true := by rfl) :
    PE X (.Call (.Attribute o name apos) [e] [] pos) (SX X W (iM1 m fo f)) :=
  PE.imp (pe_fz (pe_m1 slot ty rule ho he hs hbase hline)) fun S H Q ⟨env, ah, η, en, p, h⟩ => by
    refine ⟨env, ah, η, en, p, h.bind.imp0 fun x η1 H1 ah1 m1 p1 q1 v rvv => ?_⟩
    split at q1
    · cases rvv
      exact ⟨⟨_, rfl⟩, env, ah1, η1, en.mv m1, p1, q1.bind.imp0 fun y η2 H2 ah2 m2 p2 q2 u ru => k η2 H2 ah2 _ y u Q p2 ru q2⟩
    · exact q1.elim
def mS (o : Str → Str → D) : Str → D → AH → Res D := fun a y ah => match y with
  | .str b => .ok (o a b) ah
  | _ => .bad
theorem ok_mS {o : Str → Str → D} {g : Str → Str → V} (h : ∀ (η : List Addr) (H : Hp) a b, Rel G η H (o a b) (g a b)) : MtOk G W (fun x xs H Q => ∃ a b, x = .str a ∧ xs = [.str b] ∧ Q (g a b) H) (mS o) := by
  intro η H ah a d v Q p r q
  unfold mS at q
  split at q
  · cases r; exact ⟨a, _, rfl, rfl, post_val p (h η H _ _) q⟩
  · exact q.elim
def mJoin : Str → D → AH → Res D := fun a y ah => match seqD ah y with
  | some (_, xs) => match strsD xs with
    | some ys => if (ys.map (·.length)).sum + ys.length * a.length ≤ 16777216 then .ok (.str (Txt.join a ys)) ah else .bad
    | none => .bad
  | none => .bad
theorem ok_mJoin : MtOk G W (fun x xs H Q => ∃ a p, ∃ ys : List Str, x = .str a ∧ xs = [.ref p] ∧ (SqL G.K H p (ys.map V.str) ∨ SqT G.K H p (ys.map V.str)) ∧
      (ys.map (·.length)).sum + ys.length * a.length ≤ 16777216 ∧ Q (.str (Txt.join a ys)) H) mJoin := by
  intro η H ah a d v Q p r q
  unfold mJoin at q
  split at q
  · rename_i b xs e1
    obtain ⟨c, us, rfl, r1, q1, q2⟩ := seq_rel p r e1
    split at q
    · rename_i ys e2
      obtain rfl := strs_rel r1 e2
      split at q
      · refine ⟨a, c, ys, rfl, rfl, ?_, by assumption, post_val p (.str _) q⟩
        cases b with
        | true => exact .inr (q1 rfl)
        | false => exact .inl (.inl (q2 rfl))
      · exact q.elim
    · exact q.elim
  · exact q.elim
variable {o e : Expr} {fo f : FE} {apos pos : Pos}
def iCount := iM1 (mS fun a b => .int (Txt.count a b))
theorem j_count (ho : PE X o (SX X W fo)) (he : PE X e (SX X W f)) (hs : starEach [e] X.env = [(false, eval e X.env)] := by rfl) (hbase : attributeBase o "count" X.env (eval o X.env) = eval o X.env := by rfl) (hline : (apos.endLine == pos.line) = true := by rfl) :
    PE X (.Call (.Attribute o "count" apos) [e] [] pos) (SX X W (iCount fo f)) := j_m1 PySem.F.slot_str_count PySem.F.type_str_count mt_count (ok_mS (g := fun a b => .int (Txt.count a b)) fun _ _ _ _ => .int _) ho he hs hbase hline
def iStarts := iM1 (mS fun a b => .bl (Txt.startswith a b))
theorem j_starts (ho : PE X o (SX X W fo)) (he : PE X e (SX X W f)) (hs : starEach [e] X.env = [(false, eval e X.env)] := by rfl) (hbase : attributeBase o "startswith" X.env (eval o X.env) = eval o X.env := by rfl) (hline : (apos.endLine == pos.line) = true := by rfl) :
    PE X (.Call (.Attribute o "startswith" apos) [e] [] pos) (SX X W (iStarts fo f)) := j_m1 PySem.F.slot_str_startswith PySem.F.type_str_startswith mt_startswith (ok_mS (g := fun a b => .bl (Txt.startswith a b)) fun _ _ _ _ => .bl _) ho he hs hbase hline
def iEnds := iM1 (mS fun a b => .bl (Txt.endswith a b))
theorem j_ends (ho : PE X o (SX X W fo)) (he : PE X e (SX X W f)) (hs : starEach [e] X.env = [(false, eval e X.env)] := by rfl) (hbase : attributeBase o "endswith" X.env (eval o X.env) = eval o X.env := by rfl) (hline : (apos.endLine == pos.line) = true := by rfl) :
    PE X (.Call (.Attribute o "endswith" apos) [e] [] pos) (SX X W (iEnds fo f)) := j_m1 PySem.F.slot_str_endswith PySem.F.type_str_endswith mt_endswith (ok_mS (g := fun a b => .bl (Txt.endswith a b)) fun _ _ _ _ => .bl _) ho he hs hbase hline
def iJoin := iM1 mJoin
theorem j_join (ho : PE X o (SX X W fo)) (he : PE X e (SX X W f)) (hs : starEach [e] X.env = [(false, eval e X.env)] := by rfl) (hbase : attributeBase o "join" X.env (eval o X.env) = eval o X.env := by rfl) (hline : (apos.endLine == pos.line) = true := by rfl) :
    PE X (.Call (.Attribute o "join" apos) [e] [] pos) (SX X W (iJoin fo f)) := j_m1 PySem.F.slot_str_join PySem.F.type_str_join mt_join ok_mJoin ho he hs hbase hline
def rgOk (a b : Int) : Bool := decide (-(2 ^ 62) ≤ a ∧ a < 2 ^ 62 ∧ -(2 ^ 62) ≤ b ∧ b < 2 ^ 62 ∧ (b - a).toNat ≤ 2 ^ 24)
theorem rgOk_ok {a b : Int} (h : rgOk a b = true) : RgOk a b := by
  have := of_decide_eq_true (p := -(2 ^ 62) ≤ a ∧ a < 2 ^ 62 ∧ -(2 ^ 62) ≤ b ∧ b < 2 ^ 62 ∧ (b - a).toNat ≤ 2 ^ 24) h
  exact this
def FRg := AE → AH → Res (Int × Int)
def iRg1 (f : FE) : FRg := fun env ah => (f env ah).bind fun x ah1 => match x with
  | .int n => .ok (0, n) ah1
  | _ => .bad
def iRg2 (f g : FE) : FRg := fun env ah => (f env ah).bind fun x ah1 => (g env ah1).bind fun y ah2 => match x, y with
  | .int i, .int j => .ok (i, j) ah2
  | _, _ => .bad
def RX (X : Cx) (W : XW) (f : FRg) : L2.St → Hp → (Int → Int → Hp → Prop) → Prop := fun S H Q => ∃ env ah η, EnvOk (gX X) η H env S ∧ HpOk (gX X) η H ah ∧
  Post (gX X) W η H (f env ah) fun x η' H' ah' => Q x.1 x.2 H'
def rgD (a b : Int) : List D := (List.range (b - a).toNat).map fun i => D.int (a + (i : Nat))
theorem rg_rel (a b : Int) : RelAll G η H (rgD a b) (rgV a b) := by
  have e1 : rgD a b = ((List.range (b - a).toNat).map fun (i : Nat) => a + (i : Int)).map D.int := by unfold rgD; rw [List.map_map]; rfl
  have e2 : rgV a b = ((List.range (b - a).toNat).map fun (i : Nat) => a + (i : Int)).map V.int := by unfold rgV; rw [List.map_map]; rfl
  rw [e1, e2]
  exact RelAll.ints _
section
variable {e b : Expr} {f g : FE} {p pos : Pos}
theorem rg_1 (hg : Gl X "range") (hm : X.mg "range" = none) (he : PE X e (SX X W f)) (na : starEach [e] X.env = (false, eval e X.env) :: starEach [] X.env := by rfl) : PRg X (.Call (.Name "range" p) [e] [] pos) (RX X W (iRg1 f)) := by
  intro pnz s σ H Q Iv ⟨env, ah, η, en, pk, h⟩
  refine prg_1 hg hm he na pnz s σ H Q Iv ⟨env, ah, η, en, pk, h.bind.imp0 fun x η1 H1 ah1 m1 p1 q1 v rvv => ?_⟩
  split at q1
  · cases rvv; exact ⟨_, rfl, q1.at p1⟩
  · exact q1.elim
theorem rg_2 (hg : Gl X "range") (hm : X.mg "range" = none) (he : PE X e (SX X W f)) (hb : PE X b (SX X W g)) (na : starEach [e, b] X.env = (false, eval e X.env) :: starEach [b] X.env := by rfl) (nb : starEach [b] X.env = (false, eval b X.env) :: starEach [] X.env := by rfl) (hpl : (backTo pos (starEach [b] X.env)).any (·.1) = false := by rfl) :
    PRg X (.Call (.Name "range" p) [e, b] [] pos) (RX X W (iRg2 f g)) := by
  intro pnz s σ H Q Iv ⟨env, ah, η, en, pk, h⟩
  refine prg_2 hg hm he hb na nb hpl pnz s σ H Q Iv ⟨env, ah, η, en, pk, h.bind.imp0 fun x η1 H1 ah1 m1 p1 q1 v rvv => ⟨env, ah1, η1, en.mv m1, p1, q1.bind.imp0 fun y η2 H2 ah2 m2 p2 q2 u ru => ?_⟩⟩
  split at q2
  · cases rvv; cases ru; exact ⟨_, _, rfl, rfl, q2.at p2⟩
  · exact q2.elim
/-- list(range(..)), a list that does not change -/
def iLstRg (r : FRg) : FE := fun env ah => (r env ah).bind fun x ah1 => if rgOk x.1 x.2 = true then .ok (.lst (rgD x.1 x.2)) ah1 else .bad
def iLstRgM (r : FRg) : FE := fun env ah => (r env ah).bind fun x ah1 => if rgOk x.1 x.2 = true then .ok (.ref ah1.length) (ah1 ++ [.lst (rgD x.1 x.2)]) else .bad
def iTupRg (r : FRg) : FE := fun env ah => (r env ah).bind fun x ah1 => if rgOk x.1 x.2 = true then .ok (.tup (rgD x.1 x.2)) ah1 else .bad
variable {r : FRg}
theorem j_lstRg (hc : X.calm = true) (hg : Gl X "list") (hm : X.mg "list" = none) (he : PRg X e (RX X W r)) (na : starEach [e] X.env = (false, eval e X.env) :: starEach [] X.env := by rfl) : PE X (.Call (.Name "list" p) [e] [] pos) (SX X W (iLstRg r)) :=
  PE.imp (pe_fz (pe_listRg hc hg hm he na)) fun S H Q ⟨env, ah, η, en, pk, h⟩ => ⟨env, ah, η, en, pk, h.bind.imp0 fun x η1 H1 ah1 m1 p1 q1 => by
    split at q1
    · exact ⟨rgOk_ok (by assumption), fun q hq => post_fz p1 (rg_rel _ _) q1 hq⟩
    · exact q1.elim⟩
theorem j_lstRgM (hc : X.calm = true) (hg : Gl X "list") (hm : X.mg "list" = none) (he : PRg X e (RX X W r)) (na : starEach [e] X.env = (false, eval e X.env) :: starEach [] X.env := by rfl) : PE X (.Call (.Name "list" p) [e] [] pos) (SX X W (iLstRgM r)) :=
  PE.imp (pe_fz (pe_listRg hc hg hm he na)) fun S H Q ⟨env, ah, η, en, pk, h⟩ => ⟨env, ah, η, en, pk, h.bind.imp0 fun x η1 H1 ah1 m1 p1 q1 => by
    split at q1
    · exact ⟨rgOk_ok (by assumption), fun q hq => post_mut p1 (rg_rel _ _) q1 hq⟩
    · exact q1.elim⟩
theorem j_tupRg (hc : X.calm = true) (hg : Gl X "tuple") (hm : X.mg "tuple" = none) (he : PRg X e (RX X W r)) (na : starEach [e] X.env = (false, eval e X.env) :: starEach [] X.env := by rfl) : PE X (.Call (.Name "tuple" p) [e] [] pos) (SX X W (iTupRg r)) :=
  PE.imp (pe_fz (pe_tupRg hc hg hm he na)) fun S H Q ⟨env, ah, η, en, pk, h⟩ => ⟨env, ah, η, en, pk, h.bind.imp0 fun x η1 H1 ah1 m1 p1 q1 => by
    split at q1
    · exact ⟨rgOk_ok (by assumption), fun q hq => post_tup p1 (rg_rel _ _) q1 hq⟩
    · exact q1.elim⟩
end
end
end DL
namespace DL
open PySem PySem.Spec PyProof.Rows L2
section
variable {prog : Program} {w : World} {A : Around} {E : Value → Shared → Prop} {s : Shared}
theorem down_adj (n : Nat) : Builtin.Slice.sliceAdjust none none (-1) (n : Int) = ((n : Int) - 1, -1) := by
  unfold Builtin.Slice.sliceAdjust
  simp
theorem down_num (n : Nat) : Builtin.Slice.slicePlaces ((n : Int) - 1) (-1) (-1) = n := by
  unfold Builtin.Slice.slicePlaces
  have h1 : ¬ ((-1 : Int) > 0) := by omega
  simp only [h1, if_false]
  split
  · rw [show (- -1 : Int) = 1 by decide, Int.ediv_one]; omega
  · omega
theorem pick_same {α β : Type} {f g : α → Option β} : ∀ {l : List α}, (∀ a ∈ l, f a = g a) → l.filterMap f = l.filterMap g
  | [], _ => rfl
  | a :: l, h => by
    rw [List.filterMap_cons, List.filterMap_cons, h a List.mem_cons_self, pick_same fun b hb => h b (List.mem_cons_of_mem _ hb)]
theorem down_pick (xs : Array Value) : ((List.range xs.size).filterMap fun (m : Nat) => xs[(((xs.size : Int) - 1) + (m : Int) * (-1)).toNat]?).toArray = xs.toList.reverse.toArray := by
  congr 1
  have e : (List.range xs.size).filterMap (fun (m : Nat) => xs[(((xs.size : Int) - 1) + (m : Int) * (-1)).toNat]?) = ((List.range xs.size).map fun k => xs.size - 1 - k).filterMap (xs[·]?) := by
    rw [List.filterMap_map]
    refine pick_same fun m hm => ?_
    have := List.mem_range.mp hm
    show _ = xs[xs.size - 1 - m]?
    rw [show (((xs.size : Int) - 1) + (m : Int) * (-1)).toNat = xs.size - 1 - m by omega]
  rw [e, PySem.W.krv_range, List.filterMap_reverse, PySem.W.krv_all]
theorem get_down {t sl : Addr} {items : Array Value} {vs : Value} {Q : Value → Shared → Prop} (ht : IsTup s.heap t items) (hs : s.heap.IsSliceOf sl .none .none vs) (ps : IsPart vs (some (-1)))
    (h : Q (.ref s.heap.objs.size) { s with heap := s.heap.push { cls := .type "tuple", data := .seq items.toList.reverse.toArray } }) (hzz : items.size ≤ sizeLine) : wpAny (model prog w) A (getItem (.ref t) (.ref sl)) Q E s := by
  have small : sizeOk (.seq items.toList.reverse.toArray) := by
    show items.toList.reverse.toArray.size ≤ sizeLine
    rw [List.size_toArray, List.length_reverse, Array.length_toList]
    exact hzz
  obtain ⟨os, hos, hcs, hds⟩ := id hs
  have ty : s.TypeIs (.ref sl) "slice" := ⟨os, hos, hcs⟩
  unfold getItem
  try with_reducible refine wpAny_holding ?_
  first | refine wpAny_bind (wpAny_pure ?_) | skip
  refine wpAny_bind (wpAny_sequenceKey ht.typeIs (by decide) ?_)
  refine wpAny_bind (wpAny_callSpecial?_slot (name := Str.ofString "__getitem__") ht.typeIs PyProof.Rows.slot_tuple_getitem (wpAny_call_entry PyProof.Rows.slot_tuple_getitem ht.typeIs entry_tuple_getitem ?_ (args_tuple_getitem _ _)))
  show wpAny _ _ (Builtin.Tuple.tupleItemsOf (.ref t) >>= _) _ _ s
  refine wpAny_bind (tupleItemsOf_ ht ?_)
  refine wpAny_bind (wpAny_typeOf ty ?_)
  rw [if_pos (by decide)]
  have cut : ∀ (A : Around) (Q' : Int × Int × Nat → Shared → Prop), Q' ((items.size : Int) - 1, -1, items.size) s → wpAny (model prog w) A (Builtin.Slice.sliceApplied (.ref sl) (pure (items.size : Int))) Q' E s := by
    intro A Q' q
    unfold Builtin.Slice.sliceApplied Builtin.Slice.sliceFields
    refine wpAny_bind (wpAny_bind (wpAny_field hos hds (x := .none) rfl (wpAny_bind (wpAny_field hos hds (x := .none) rfl (wpAny_bind (wpAny_field hos hds (x := vs) rfl (wpAny_pure ?_)))))))
    refine wpAny_bind (HT.slicePart_ ps ?_)
    show wpAny _ _ (if ((-1 : Int) == 0) = true then _ else _) _ _ s
    rw [if_neg (by decide)]
    refine wpAny_bind (HT.slicePart_ .none (wpAny_bind (HT.slicePart_ .none (wpAny_bind (wpAny_pure ?_)))))
    show wpAny _ _ (match Builtin.Slice.sliceAdjust none none (-1) (items.size : Int) with | (lo, hi) => pure (lo, (-1 : Int), Builtin.Slice.slicePlaces lo hi (-1))) _ _ s
    rw [down_adj]
    show wpAny _ _ (pure ((items.size : Int) - 1, (-1 : Int), Builtin.Slice.slicePlaces ((items.size : Int) - 1) (-1) (-1))) _ _ s
    rw [down_num]
    exact wpAny_pure q
  refine wpAny_bind (cut _ _ ?_)
  show wpAny _ _ (if (((items.size : Int) - 1) == 0 && (-1 : Int) == 1 && items.size == items.size) = true then _ else _) _ _ s
  rw [if_neg (by rw [show ((-1 : Int) == 1) = false by decide, Bool.and_false, Bool.false_and]; exact Bool.false_ne_true), down_pick]
  first
    | exact wpAny_bind (m := Builtin.Tuple.tupleExact _) (wpAny_newObj_type (wpAny_pure ⟨_, rfl, wpAny_pure h⟩) small)
    | exact wpAny_bind (m := Builtin.Tuple.tupleExact _) (wpAny_newObj_type (wpAny_bind (wpAny_pure (wpAny_pure ⟨_, rfl, wpAny_pure h⟩))) small)
    | exact wpAny_bind (wpAny_bind (m := Builtin.Tuple.tupleExact _) (wpAny_newObj_type (wpAny_pure (wpAny_pure ⟨_, rfl, wpAny_pure h⟩)) small))
    | exact wpAny_bind (wpAny_bind (m := Builtin.Tuple.tupleExact _) (wpAny_newObj_type (wpAny_pure ⟨_, rfl, wpAny_pure h⟩) small))
end
def tDown (K : PySem.W.Frag) (te : TE) : TE := fun σ H Q => te σ H fun x H1 => ∃ a xs, x = .ref a ∧ ((SqL K H1 a xs ∧ ∀ p, H1 p = none → Q (.ref p) (upd H1 p (.lst xs.reverse))) ∨ (SqT K H1 a xs ∧ ∀ p, H1 p = none → Q (.ref p) (upd H1 p (.tup xs.reverse))))
theorem pe_down {X : Cx} {e : Expr} {te : TE} {k : Nat} {p1 p2 p3 pos : Pos} (he : PE X e te) : PE X (.Subscript e (.Slice none none (some (.UnaryOp .USub (.Constant (.int 1) k p1) p2)) p3) pos) (tDown X.K te) := by
  refine ⟨fun pnz s σ H Q Iv h => Subscript_ (thn (he.run pnz s σ H _ Iv h) fun v s1 ⟨x, H1, I1, r1, a, xs, ex, q1⟩ => ?_)⟩
  subst ex
  cases r1
  have hst : PO X (some (.UnaryOp .USub (.Constant (.int 1) k p1) p2)) (tPart (tUn (rU fun i => .int (-i)) (tC (.int 1)))) := po_some (pe_un un_neg pe_int)
  refine wpAny_Slice (thn (po_none.run pnz s1 σ H1 (fun o H2 => o = none ∧ H2 = H1) I1 ⟨rfl, rfl⟩) fun vl s2 ⟨l, H2, I2, pl, el, e2⟩ => ?_)
  subst el e2
  refine thn (po_none.run pnz s2 σ H2 (fun o H3 => o = none ∧ H3 = H2) I2 ⟨rfl, rfl⟩) fun vu s3 ⟨u, H3, I3, pu, eu, e3⟩ => ?_
  subst eu e3
  refine thn (hst.run pnz s3 σ H3 (fun o H4 => o = some (-1) ∧ H4 = H3) I3 ⟨1, rfl, -1, rfl, rfl, rfl⟩) fun vs s4 ⟨o, H4, I4, ps, eo, e4⟩ => ?_
  subst eo e4
  have I5 : Inv X pnz σ H4 { s4 with heap := s4.heap.push { cls := .type "slice", data := .fields #[vl, vu, vs] } } := I4.kept (t' := s4.toks) fun b ob q => Heap.get?_push_of_some _ q
  show wpAny (model X.prog X.w) X.A (subscriptTail e (.Slice none none (some (.UnaryOp .USub (.Constant (.int 1) k p1) p2)) p3) (.ref a) (.ref s4.heap.objs.size)) (EP X pnz σ Q) X.xe { s4 with heap := s4.heap.push { cls := .type "slice", data := .fields #[vl, vu, vs] } }
  rcases q1 with ⟨hx, q⟩ | ⟨hx, q⟩
  · obtain ⟨its, r, ht, hzz⟩ := I5.list hx
    have hlen := r.length
    refine tail_any (ops := [.ref a, .ref s4.heap.objs.size]) ht.isList.typeIs (PySem.slot_list_getitem.lookup) ?_ (by with_unfolding_all rfl)
    refine wpAny_getItem_list_slice ht.isList (Heap.IsSliceOf.new _ vl vu vs) pl pu ps (by decide) ?_ (by rw [List.size_toArray]; omega)
    rw [PySem.W.krv_pick]
    refine ⟨.ref _, _, I5.laid (t' := s4.toks) (o := .lst xs.reverse) (fun b ob q => Heap.get?_push_of_some _ q) (Nat.le_refl _) ?_, rfl, q _ (I5.hok.fresh (Nat.le_refl _))⟩
    exact ⟨by rw [List.length_reverse]; exact hzz, _, 0, r.reverse, Heap.get?_push_size _ rfl⟩
  · obtain ⟨its, r, ht, hzz⟩ := I5.tuple hx
    have hlen := r.length
    cases pl
    cases pu
    refine tail_any (ops := [.ref a, .ref s4.heap.objs.size]) ht.typeIs (PyProof.Rows.slot_tuple_getitem.lookup) ?_ (by with_unfolding_all rfl)
    refine get_down ht (Heap.IsSliceOf.new _ .none .none vs) ps ?_ (by rw [List.size_toArray]; omega)
    refine ⟨.ref _, _, I5.laid (t' := s4.toks) (o := .tup xs.reverse) (fun b ob q => Heap.get?_push_of_some _ q) (Nat.le_refl _) ?_, rfl, q _ (I5.hok.fresh (Nat.le_refl _))⟩
    exact ⟨by rw [List.length_reverse]; exact hzz, _, r.reverse, ⟨_, Heap.get?_push_size _ rfl, rfl, 0, rfl⟩⟩
def oDown (d : D) (ah : AH) : Res D := match seqD ah d with
  | some (true, xs) => .ok (.tup xs.reverse) ah
  | some (false, xs) => .ok (.lst xs.reverse) ah
  | none => .bad
section
variable {X : Cx} {W : XW} {e : Expr} {f : FE}
theorem j_down {k : Nat} {p1 p2 p3 pos : Pos} (he : PE X e (SX X W f)) : PE X (.Subscript e (.Slice none none (some (.UnaryOp .USub (.Constant (.int 1) k p1) p2)) p3) pos) (SX X W (iUn oDown f)) :=
  PE.imp (pe_fz (pe_down he)) fun S H Q ⟨env, ah, η, en, p, h⟩ => ⟨env, ah, η, en, p, h.bind.imp0 fun d η1 H1 ah1 m1 p1 q1 v rvv => by
    unfold oDown at q1
    split at q1
    · rename_i xs e1
      obtain ⟨a, us, rfl, r1, q2, q3⟩ := seq_rel p1 rvv e1
      exact ⟨a, us, rfl, .inr ⟨q2 rfl, fun l hl => post_tup p1 r1.reverse q1 hl⟩⟩
    · rename_i xs e1
      obtain ⟨a, us, rfl, r1, q2, q3⟩ := seq_rel p1 rvv e1
      exact ⟨a, us, rfl, .inl ⟨.inl (q3 rfl), fun l hl => post_fz p1 r1.reverse q1 hl⟩⟩
    · exact q1.elim⟩
def iChain (o o' : D → D → AH → Res D) (fa fb fc : FE) : FE := fun env ah => (fa env ah).bind fun x ah1 => (fb env ah1).bind fun y ah2 => (o x y ah2).bind fun z ah3 => match z with
  | .bl true => (fc env ah3).bind fun u ah4 => o' y u ah4
  | .bl false => .ok (.bl false) ah3
  | _ => .bad
theorem opr_fz {f : Value → Value → Sem Value} {r : R2} (h : OpR X f r) : OpR X f fun x y H Q => r x y H (QF Q) := fun pnz s σ H x y v u Q Iv rx ry q =>
  thn (h pnz s σ H x y v u _ Iv rx ry q) fun w s1 ⟨z, H1, I1, r1, q1⟩ => by
    rcases q1 with q1 | ⟨a, o, rfl, ha, hm, q1⟩
    · exact ⟨z, H1, I1, r1, q1⟩
    · obtain ⟨od, I2⟩ := I1.lock ha hm
      exact ⟨.ref a, _, I2, r1, q1 od⟩
variable {a b c : Expr} {fa fb fc : FE} {pos : Pos} {op op' : CmpOp} {r r' : R2} {o o' : D → D → AH → Res D}
theorem chain_ok {G : KW} (k : OpOk G W r o) (k' : OpOk G W r' o') {S : L2.St} {H : Hp} {Q : VK} (h : SJ G W (iChain o o' fa fb fc) S H Q) :
    tChain (fun x y H Q => r x y H (QF Q)) (fun x y H Q => r' x y H (QF Q)) (SJ G W fa) (SJ G W fb) (SJ G W fc) S H Q := by
  obtain ⟨env, ah, η, en, p, h⟩ := h
  refine ⟨env, ah, η, en, p, h.bind.imp0 fun x η1 H1 ah1 m1 p1 q1 v rvv => ⟨env, ah1, η1, en.mv m1, p1, q1.bind.imp0 fun y η2 H2 ah2 m2 p2 q2 u ru => ?_⟩⟩
  refine k η2 H2 ah2 x y v u _ p2 (rvv.mv m2) ru (q2.bind.imp0 fun z η3 H3 ah3 m3 p3 q3 w rw' => ?_)
  split at q3
  · cases rw'
    refine ⟨true, rfl, ?_⟩
    rw [if_pos rfl]
    exact ⟨env, ah3, η3, ((en.mv m1).mv m2).mv m3, p3, q3.bind.imp0 fun d η4 H4 ah4 m4 p4 q4 t rt => k' η4 H4 ah4 y d u t Q p4 ((ru.mv m3).mv m4) rt q4⟩
  · cases rw'
    refine ⟨false, rfl, ?_⟩
    rw [if_neg Bool.false_ne_true]
    exact q3.at p3 _ (.bl false)
  · exact q3.elim
theorem j_chain (ho : OpR X (compareOp op) r) (k : OpOk (gX X) W r o) (ho' : OpR X (compareOp op') r') (k' : OpOk (gX X) W r' o') (ha : PE X a (SX X W fa)) (hb : PE X b (SX X W fb)) (hc : PE X c (SX X W fc))
    (hm : lastMarks [op, op'] [b, c] = false := by with_unfolding_all rfl) : PE X (.Compare a [op, op'] [b, c] pos) (SX X W (iChain o o' fa fb fc)) :=
  PE.imp (pe_chain (opr_fz ho) (opr_fz ho') ha hb hc hm) fun S H Q q => chain_ok k k' q
theorem t_chain (ho : OpR X (compareOp op) r) (k : OpOk (gX X) W r o) (ho' : OpR X (compareOp op') r') (k' : OpOk (gX X) W r' o') (ha : PE X a (SX X W fa)) (hb : PE X b (SX X W fb)) (hc : PE X c (SX X W fc))
    (hm : lastMarks [op, op'] [b, c] = false := by with_unfolding_all rfl) : PT X (.Compare a [op, op'] [b, c] pos) (TX X W (iTr (iChain o o' fa fb fc))) :=
  PT.imp (pt_chain (opr_fz ho) (opr_fz ho') ha hb hc hm) fun S H Q q => chain_ok k k' (tr_tB q)
end
end DL
namespace DL
open PySem PySem.Spec PyProof.Rows L2
/-- the pairs of a written dict -/
def iPairs : List (FE × FE) → AE → AH → Res (List (Key × D))
  | [], _, ah => .ok [] ah
  | (fk, fv) :: r, env, ah => (fk env ah).bind fun k ah1 => (fv env ah1).bind fun v ah2 => (iPairs r env ah2).bind fun kvs ah3 => match keyD k with
    | some q => .ok ((q, v) :: kvs) ah3
    | none => .bad
def foldD (kvs : List (Key × D)) (a : List Key × List D) : List Key × List D := kvs.foldl (fun a kv => ptD a.1 a.2 kv.1 kv.2) a
def iDict (ps : List (FE × FE)) : FE := fun env ah => (iPairs ps env ah).bind fun kvs ah1 => if kvs.length ≤ 15 then .ok (.dk (foldD kvs ([], [])).1 (foldD kvs ([], [])).2) ah1 else .bad
def iDictM (ps : List (FE × FE)) : FE := fun env ah => (iPairs ps env ah).bind fun kvs ah1 => if kvs.length ≤ 15 then .ok (.ref ah1.length) (ah1 ++ [.dk (foldD kvs ([], [])).1 (foldD kvs ([], [])).2]) else .bad
section
variable {X : Cx} {G : KW} {W : XW}
def KRel (G : KW) (η : List Addr) (H : Hp) (kvs : List (Key × D)) (ws : List (Key × V)) : Prop := ws.map (·.1) = kvs.map (·.1) ∧ RelAll G η H (kvs.map (·.2)) (ws.map (·.2))
theorem KRel.mv {η η' : List Addr} {H H' : Hp} {kvs : List (Key × D)} {ws : List (Key × V)} (h : KRel G η H kvs ws) (m : Mv η H η' H') : KRel G η' H' kvs ws := ⟨h.1, h.2.mv m⟩
theorem fold_rel {η : List Addr} {H : Hp} : ∀ {kvs : List (Key × D)} {ws : List (Key × V)} {a : List Key × List D} {b : List (Key × V)}, KRel G η H kvs ws → b.map (·.1) = a.1 → RelAll G η H a.2 (b.map (·.2)) →
    (mergeK b ws).map (·.1) = (foldD kvs a).1 ∧ RelAll G η H (foldD kvs a).2 ((mergeK b ws).map (·.2))
  | [], [], a, b, _, h1, h2 => ⟨h1, h2⟩
  | [], _ :: _, _, _, h, _, _ => nomatch h.1
  | _ :: _, [], _, _, h, _, _ => nomatch h.1
  | (k, d) :: kvs, (q, v) :: ws, a, b, h, h1, h2 => by
    obtain ⟨e, r⟩ := h
    simp only [List.map_cons, List.cons.injEq] at e
    obtain ⟨rfl, e⟩ := e
    cases r with
    | cons r0 r =>
      obtain ⟨z1, z2⟩ := pt_rel (q := q) r0 h1 h2
      exact fold_rel (kvs := kvs) (ws := ws) ⟨e, r⟩ z1 z2
theorem prs_ok {S : L2.St} {env : AE} : ∀ (ps : List (FE × FE)) {ah : AH} {η : List Addr} {H : Hp} {R : List (V × V) → Hp → Prop}, EnvOk G η H env S → HpOk G η H ah →
    Post G W η H (iPairs ps env ah) (fun kvs η' H' ah' => ∀ ws, KRel G η' H' kvs ws → R (ws.map fun kv => (kV kv.1, kv.2)) H') → tPairs (ps.map fun p => (SJ G W p.1, SJ G W p.2)) S H R
  | [], ah, η, H, R, en, pk, h => h.at pk [] ⟨rfl, .nil⟩
  | (fk, fv) :: r, ah, η, H, R, en, pk, h => by
    refine ⟨env, ah, η, en, pk, (show Post G W η H ((fk env ah).bind _) _ from h).bind.imp0 fun k η1 H1 ah1 m1 p1 q1 v rvv => ⟨env, ah1, η1, en.mv m1, p1, q1.bind.imp0 fun d η2 H2 ah2 m2 p2 q2 u ru => ?_⟩⟩
    refine prs_ok r ((en.mv m1).mv m2) p2 (q2.bind.imp0 fun kvs η3 H3 ah3 m3 p3 q3 ws rel => ?_)
    split at q3
    · rename_i q e
      have z := q3.at p3 ((q, u) :: ws) ⟨by simp [rel.1], .cons (ru.mv m3) rel.2⟩
      rw [List.map_cons, ← keyD_rel rvv e] at z
      exact z
    · exact q3.elim
theorem Mv.off {a : Addr} {o u : HO} {η η1 : List Addr} {H H1 : Hp} (m : Mv η (L2.upd H a o) η1 H1) (h0 : H a = none) (n : a ∉ η) (h : H1 a = some o) : Mv η H η1 (L2.upd H1 a u) := ((Mv.same (same_new h0)).trans m).side h0 h
theorem disp_ok {η : List Addr} {H : Hp} {S : L2.St} {env : AE} {ah : AH} {ps : List (FE × FE)} {β : Type} {k : List (Key × D) → AH → Res β} {Q : β → List Addr → Hp → AH → Prop} {R : VK} (en : EnvOk G η H env S) (pk : HpOk G η H ah) (h : Post G W η H ((iPairs ps env ah).bind k) Q)
    (fin : ∀ (p : Addr) (η' : List Addr) (H' : Hp) (ah' : AH) (kvs : List (Key × D)) (ws : List (Key × V)), H p = none → p ∉ η' → Mv η (upd H p (.dK [])) η' H' → H' p = some (.dK []) → HpOk G η' H' ah' → KRel G η' H' kvs ws → Post G W η H (k kvs ah') Q → ws.length ≤ 15 ∧ R (.ref p) (upd H' p (.dK (mergeK [] ws)))) :
    tDisp (ps.map fun p => (SJ G W p.1, SJ G W p.2)) S H R := by
  intro p hp
  have s0 := same_new (o := .dK []) hp
  have np := pk.fresh hp
  refine prs_ok ps (en.mv (.same s0)) (pk.same s0) (Post.imp0 (Post.bindB h (.same s0)) fun kvs η' H' ah' m p' q ws rel => ?_)
  have e : H' p = some (.dK []) := m.frm _ _ upd_same np
  have n' : p ∉ η' := fun z => (m.new _ z).elim np fun w => by rw [upd_same] at w; cases w
  obtain ⟨z1, z2⟩ := fin p η' H' ah' kvs ws hp n' m e p' rel q
  exact ⟨e, ws, rfl, z1, z2⟩
variable {pos : Pos} {keys : List (Option Expr)} {values : List Expr} {ps : List (FE × FE)}
theorem d_nil : PPs X pos [] [] (([] : List (FE × FE)).map fun p => (SX X W p.1, SX X W p.2)) := pps_nil
theorem d_cons {k v : Expr} {ks : List (Option Expr)} {vs : List Expr} {fk fv : FE} (hk : PE X k (SX X W fk)) (hv : PE X v (SX X W fv)) (hr : PPs X pos ks vs (ps.map fun p => (SX X W p.1, SX X W p.2))) :
    PPs X pos (some k :: ks) (v :: vs) (((fk, fv) :: ps).map fun p => (SX X W p.1, SX X W p.2)) := pps_cons hk hv hr
theorem Mv.more {η η' : List Addr} {H H' : Hp} {p : Addr} (m : Mv η H η' H') (h : H p = none) : Mv η H (η' ++ [p]) H' where
  pre := m.pre.trans (List.prefix_append _ _)
  ext := m.ext
  new := fun a z => (List.mem_append.mp z).elim (m.new a) fun y => .inr (by rw [List.mem_singleton.mp y]; exact h)
  frm := m.frm
  live := m.live
theorem fits_ws {η : List Addr} {H : Hp} {kvs : List (Key × D)} {ws : List (Key × V)} (rel : KRel G η H kvs ws) : ws.length = kvs.length := by
  have := congrArg List.length rel.1
  simpa using this
theorem j_dict (h : PPs X pos keys values (ps.map fun p => (SX X W p.1, SX X W p.2))) (hall : keys.all (·.isSome) = true := by rfl) (hl : keys.length = values.length := by rfl) (h0 : keys ≠ [] := by exact fun z => nomatch z) (h15 : keys.length ≤ 15 := by decide) :
    PE X (.Dict keys values pos) (SX X W (iDict ps)) := PE.imp (pe_fz (pe_disp h hall hl h0 h15)) fun S H Q ⟨env, ah, η, en, pk, h⟩ => disp_ok en pk h fun p η' H' ah' kvs ws hp n' m e p' rel q => by
  split at q
  · refine ⟨by rw [fits_ws rel]; assumption, .inr ⟨p, _, rfl, upd_same, trivial, fun od => ?_⟩⟩
    rw [upd_upd]
    have nt : ∀ xs, (HO.dK []) ≠ .tup xs := fun _ z => nomatch z
    have nf : ∀ ob v, (HO.dK []) ≠ .frz ob v := fun _ _ z => nomatch z
    have E : Ext H' (upd H' p (.frz od (.dK (mergeK [] ws)))) := Ext.upd e nt nf
    obtain ⟨z1, z2⟩ := fold_rel (b := []) (a := ([], [])) rel rfl .nil
    exact q η' _ (Mv.off m hp (pk.fresh hp) e) (p'.side n' e nt nf) _ (.dk (o := od) upd_same z1 (z2.ext (List.prefix_refl _) E))
  · exact q.elim
theorem j_dictM (h : PPs X pos keys values (ps.map fun p => (SX X W p.1, SX X W p.2))) (hall : keys.all (·.isSome) = true := by rfl) (hl : keys.length = values.length := by rfl) (h0 : keys ≠ [] := by exact fun z => nomatch z) (h15 : keys.length ≤ 15 := by decide) :
    PE X (.Dict keys values pos) (SX X W (iDictM ps)) := PE.imp (pe_disp h hall hl h0 h15) fun S H Q ⟨env, ah, η, en, pk, h⟩ => disp_ok en pk h fun p η' H' ah' kvs ws hp n' m e p' rel q => by
  split at q
  · refine ⟨by rw [fits_ws rel]; assumption, ?_⟩
    have nt : ∀ xs, (HO.dK []) ≠ .tup xs := fun _ z => nomatch z
    have nf : ∀ ob v, (HO.dK []) ≠ .frz ob v := fun _ _ z => nomatch z
    have E : Ext H' (upd H' p (.dK (mergeK [] ws))) := Ext.upd e nt nf
    obtain ⟨z1, z2⟩ := fold_rel (b := []) (a := ([], [])) rel rfl .nil
    have r2 := z2.ext (List.prefix_append η' [p]) E
    refine q (η' ++ [p]) _ ((Mv.off m hp (pk.fresh hp) e).more hp) ((p'.side n' e nt nf).add n' ⟨_, upd_same, z1, r2⟩) _ (.ref ?_)
    rw [← p'.len, List.getElem?_append_right (Nat.le_refl _)]
    simp
  · exact q.elim
end
end DL
namespace DL
open PySem PySem.Spec PyProof.Rows L2
theorem room65 {k : Nat} {A : Around} (r : Room k A) : A.units + 65 < cLine := by have := r.un; omega
theorem room1 {k : Nat} {A : Around} (r : Room k A) : A.units + 1 < cLine := by have := r.un; omega
/-- a def of the module keeps its function -/
def Ok1 (P : Program) (w : World) (K : PySem.W.Frag) (mg : Str → Option Value) (base : Heap) (x : Str) (k : Nat) (ps : List Str) (F : List D → AH → Res D) : Prop :=
  ∃ f fd, mg x = some (.ref f) ∧ PySem.W.keepIn K (.ref f) = true ∧ Binds K fd ps [] ∧ FnG P w K mg base CX0 k f fd ps (spN ⟨K, w⟩ ps.length F)
section
variable {X : Cx} {W : XW}
theorem Ok1.jd {x : Str} {k : Nat} {ps : List Str} {F : List D → AH → Res D} {p pos : Pos} {e : Expr} {es : List Expr} {fs : List FE} (h : Ok1 X.prog X.w X.K X.mg X.base x k ps F) (hr : Room k X.A) (hn : NoRepr X.A) (hg : Gl X x) (hl : fs.length = ps.length) (ha : PA X (e :: es) (AX' X W fs))
    (hdb : (x == ("__debug__" : Str)) = false := by decide) (he : starEach (e :: es) X.env = (false, eval e X.env) :: starEach es X.env := by rfl) (hpl : (backTo pos (starEach es X.env)).any (·.1) = false := by rfl) : PE X (.Call (.Name x p) (e :: es) [] pos) (SX X W (iDef F fs)) := by
  obtain ⟨f, fd, hm, hk, hb, hf⟩ := h
  exact j_def hf hr hn hg hm hk hb hl ha hdb he hpl
/-- a constant of the module -/
def KonOk (w : World) (K : PySem.W.Frag) (mg : Str → Option Value) (x : Str) (d : D) : Prop := ∃ u v, mg x = some u ∧ RelV v u ∧ ∀ η H, Rel ⟨K, w⟩ η H d v
theorem KonOk.je {w : World} {K : PySem.W.Frag} {mg : Str → Option Value} {x : Str} {d : D} {pos : Pos} (h : KonOk w K mg x d) (hg : Gl X x) (e1 : X.w = w) (e2 : X.K = K) (e3 : X.mg = mg) (hd : (x == ("__debug__" : Str)) = false := by decide) : PE X (.Name x pos) (SX X W (iK d)) := by
  subst e1 e2 e3
  obtain ⟨u, v, hm, r, k⟩ := h
  exact j_glob hg hm r k hd
/-- a text or what is walked in order -/
def iSeqS (f : FE) : FI := fun env ah => (f env ah).bind fun d ah1 => match d with
  | .str x => .ok (x.cps.toList.map fun c => .str ⟨#[c]⟩) ah1
  | .tup ds => .ok ds ah1
  | .ct ds => .ok ds ah1
  | .lst ds => .ok ds ah1
  | _ => .bad
theorem i_seqS {tg e : Expr} {f : FE} (h : PE X e (SX X W f)) : PI X tg e (IX X W (iSeqS f)) := ⟨fun pnz s σ H R Iv ⟨env, ah, η, en, pk, q⟩ => by
  cases e1 : f env ah with
  | ok d ah1 =>
    have k : iSeqS f env ah = iStrI f env ah ∨ iSeqS f env ah = iSeq1 f env ah := by
      unfold iSeqS iStrI iSeq1
      rw [e1]
      cases d <;> first | exact .inl rfl | exact .inr rfl
    rcases k with k | k
    · exact (i_str h).run pnz s σ H R Iv ⟨env, ah, η, en, pk, by rw [← k]; exact q⟩
    · exact (i_seq h).run pnz s σ H R Iv ⟨env, ah, η, en, pk, by rw [← k]; exact q⟩
  | exc x e ah1 =>
    have k : iSeqS f env ah = iSeq1 f env ah := by unfold iSeqS iSeq1; rw [e1]; rfl
    exact (i_seq h).run pnz s σ H R Iv ⟨env, ah, η, en, pk, by rw [← k]; exact q⟩
  | bad =>
    have k : iSeqS f env ah = iSeq1 f env ah := by unfold iSeqS iSeq1; rw [e1]; rfl
    exact (i_seq h).run pnz s σ H R Iv ⟨env, ah, η, en, pk, by rw [← k]; exact q⟩⟩
end
/-- a comprehension's block, by a check of the names alone -/
def blkB (N : List Str) (sc scope : Scope) (own : List (Str × Nat)) : Bool :=
  decide (scope.kind = .function) && (scope.names.all fun y => decide (scope.names.lookup y.1 = some y.2)) && (own.all fun p => decide (N[p.2]? = some p.1)) &&
  (scope.names.all fun y => decide (y.2 ≠ .free) || decide (sc.names.lookup y.1 = some .cell) || decide (sc.names.lookup y.1 = some .free)) &&
  (scope.names.all fun y => (decide (y.2 ≠ .local) && decide (y.2 ≠ .cell)) || (own.map (·.1)).contains y.1 || !N.contains y.1)
theorem blk_of {N : List Str} {sc scope : Scope} {own : List (Str × Nat)} (h : blkB N sc scope own = true) : BlkOk N sc scope own := by
  unfold blkB at h
  simp only [Bool.and_eq_true, List.all_eq_true, Bool.or_eq_true, decide_eq_true_eq, Bool.not_eq_true', List.contains_eq_mem, decide_eq_false_iff_not] at h
  obtain ⟨⟨⟨⟨h1, h2⟩, h3⟩, h4⟩, h5⟩ := h
  refine ⟨h1, fun y hy => h2 y hy, fun p hp => h3 p hp, fun y hy e => ?_, fun y hy e => ?_⟩
  · rcases h4 y hy with (z | z) | z
    · exact absurd e z
    · exact .inl z
    · exact .inr z
  · rcases h5 y hy with (z | z) | z
    · exact e.elim (fun q => absurd q z.1) fun q => absurd q z.2
    · exact .inl z
    · exact .inr z
end DL
namespace DL
open PySem PySem.Spec PyProof.Rows L2
def Inj {α : Type} (e : α → D) : Prop := ∀ x y, e x = e y → x = y
def dT {α : Type} (e : α → D) (xs : List α) : D := .tup (xs.map e)
def dL {α : Type} (e : α → D) (xs : List α) : D := .lst (xs.map e)
theorem map_inj' {α : Type} {e : α → D} (h : Inj e) : ∀ {xs ys : List α}, xs.map e = ys.map e → xs = ys
  | [], [], _ => rfl
  | [], _ :: _, q => nomatch q
  | _ :: _, [], q => nomatch q
  | x :: xs, y :: ys, q => by
    simp only [List.map_cons, List.cons.injEq] at q
    rw [h _ _ q.1, map_inj' h q.2]
theorem inj_dT {α : Type} {e : α → D} (h : Inj e) : Inj (dT e) := fun x y q => map_inj' h (D.tup.inj q)
theorem inj_dL {α : Type} {e : α → D} (h : Inj e) : Inj (dL e) := fun x y q => map_inj' h (D.lst.inj q)
def dI (n : Nat) : D := .int (n : Int)
theorem inj_dI : Inj dI := fun x y q => by have := D.int.inj q; omega
theorem inj_int : Inj D.int := fun x y q => D.int.inj q
theorem inj_bl : Inj D.bl := fun x y q => D.bl.inj q
theorem inj_str : Inj D.str := fun x y q => D.str.inj q
open Classical in
noncomputable def specF {α : Type} (pre : α → Prop) (enc : α → List D) (out : α → D) (args : List D) (ah : AH) : Res D := if h : ∃ x, pre x ∧ enc x = args then .ok (out h.choose) ah else .bad
theorem specF_eq {α : Type} {pre : α → Prop} {enc : α → List D} {out : α → D} (inj : ∀ x y, enc x = enc y → out x = out y) {x : α} (h : pre x) {ah : AH} : specF pre enc out (enc x) ah = .ok (out x) ah := by
  unfold specF
  have e : ∃ y, pre y ∧ enc y = enc x := ⟨x, h, rfl⟩
  rw [dif_pos e, inj _ _ e.choose_spec.2]
section
variable {P : Program} {w : World} {K : PySem.W.Frag} {mg : Str → Option Value} {base : Heap}
theorem Ok1.spec {α : Type} {x : Str} {k : Nat} {ps : List Str} {F : List D → AH → Res D} {pre : α → Prop} {enc : α → List D} {out : α → D} (h : Ok1 P w K mg base x k ps F) (hp : ∀ x, pre x → pureD (out x) = true)
    (hi : ∀ x ah, pre x → ∃ u, F (enc x) ah = .ok (out x) (ah ++ u)) : Ok1 P w K mg base x k ps (specF pre enc out) := by
  obtain ⟨f, fd, h1, h2, h3, h4⟩ := h
  refine ⟨f, fd, h1, h2, h3, h4.imp fun vs H Q E ⟨args, ah, η, hl, r, p, q⟩ => ⟨args, ah, η, hl, r, p, ?_⟩⟩
  unfold specF at q
  split at q
  · rename_i e
    obtain ⟨h5, h6⟩ := e.choose_spec
    obtain ⟨u, h7⟩ := hi e.choose ah h5
    rw [h6] at h7
    rw [h7]
    exact fun η' H' m p' v rv => q η H' m.cut (p.cut p' m.pre) v (pure_rel (hp _ h5) rv)
  · exact q.elim
end
theorem compL_map {α : Type} {g : D → AE → Option AE} {t : FT} {f : FE} {env : AE} {e o : α → D} {ah : AH} : ∀ {xs : List α} {acc : List D}, (∀ x ∈ xs, ∃ env1, g (e x) env = some env1 ∧ t env1 ah = .ok true ah ∧ f env1 ah = .ok (o x) ah) →
    acc.length + xs.length ≤ sizeLine → compL g t f env (xs.map e) acc ah = .ok (acc ++ xs.map o) ah
  | [], acc, _, _ => by simp [compL]
  | x :: xs, acc, h, hz => by
    obtain ⟨env1, h1, h2, h3⟩ := h x List.mem_cons_self
    rw [List.length_cons] at hz
    simp only [List.map_cons, compL, h1, h2, h3, Res.nox_ok, Res.bind_ok, if_true]
    rw [if_pos (by omega), compL_map (fun y hy => h y (List.mem_cons_of_mem _ hy)) (by simp; omega)]
    simp
theorem compL_if {α : Type} {g : D → AE → Option AE} {t : FT} {f : FE} {env : AE} {e o : α → D} {c : α → Bool} {ah : AH} : ∀ {xs : List α} {acc : List D}, (∀ x ∈ xs, ∃ env1, g (e x) env = some env1 ∧ t env1 ah = .ok (c x) ah ∧ (c x = true → f env1 ah = .ok (o x) ah)) →
    acc.length + xs.length ≤ sizeLine → compL g t f env (xs.map e) acc ah = .ok (acc ++ (xs.filter c).map o) ah
  | [], acc, _, _ => by simp [compL]
  | x :: xs, acc, h, hz => by
    obtain ⟨env1, h1, h2, h3⟩ := h x List.mem_cons_self
    rw [List.length_cons] at hz
    simp only [List.map_cons, compL, h1, h2, Res.nox_ok, Res.bind_ok]
    cases hc : c x with
    | true =>
      rw [if_pos rfl, h3 hc]
      simp only [Res.nox_ok, Res.bind_ok]
      rw [if_pos (by omega), compL_if (fun y hy => h y (List.mem_cons_of_mem _ hy)) (by simp; omega)]
      simp [hc]
    | false =>
      rw [if_neg Bool.false_ne_true, compL_if (fun y hy => h y (List.mem_cons_of_mem _ hy)) (by omega)]
      simp [hc]
/-- a loop that runs through: the state behind i turns is st i -/
theorem forL_run {g : D → AE → Option AE} {body : FS} {ds : List D} {st : Nat → AE × AH} {n : Nat} (hn : ds.length = n) (h : ∀ i d, ds[i]? = some d → ∃ env1 fl, g d (st i).1 = some env1 ∧ (fl = .nx ∨ fl = .ct) ∧ body env1 (st i).2 = .ok (fl, (st (i + 1)).1) (st (i + 1)).2) :
    forL g body ds (st 0).1 (st 0).2 = .ok (.nx, (st n).1) (st n).2 := by
  induction ds generalizing st n with
  | nil => subst hn; rfl
  | cons d ds ih =>
    subst hn
    obtain ⟨env1, fl, h1, h2, h3⟩ := h 0 d (by simp)
    simp only [forL, h1, h3, Res.bind_ok]
    have := ih (st := fun i => st (i + 1)) rfl fun i d' e => h (i + 1) d' (by simpa using e)
    rcases h2 with rfl | rfl
    · simpa using this
    · simpa using this
@[simp] theorem oAdd_int {i j : Int} {ah : AH} : oAdd (.int i) (.int j) ah = .ok (.int (i + j)) ah := rfl
@[simp] theorem oSub_int {i j : Int} {ah : AH} : oSub (.int i) (.int j) ah = .ok (.int (i - j)) ah := rfl
theorem oMul_int {i j : Int} {ah : AH} (h : CMul i j) : oMul (.int i) (.int j) ah = .ok (.int (i * j)) ah := by simp [oMul, h]
theorem oDiv_int {i j : Int} {ah : AH} (h : 0 < j ∧ j < 1073741824) : oDiv (.int i) (.int j) ah = .ok (.int (i / j)) ah := by simp [oDiv, oI, CDiv, h]
theorem oMod_int {i j : Int} {ah : AH} (h : 0 < j) : oMod (.int i) (.int j) ah = .ok (.int (i % j)) ah := by simp [oMod, oI, C0, h]
theorem oTup_eq {ds : List D} {ah : AH} (h : ds.length ≤ sizeLine) : oTup ds ah = .ok (.tup ds) ah := by simp [oTup, h]
theorem oLst_eq {ds : List D} {ah : AH} (h : ds.length ≤ sizeLine) : oLst ds ah = .ok (.lst ds) ah := by simp [oLst, h]
@[simp] theorem oTuple_lst {xs : List D} {ah : AH} : oTuple [.lst xs] ah = .ok (.tup xs) ah := rfl
@[simp] theorem oTuple_tup {xs : List D} {ah : AH} : oTuple [.tup xs] ah = .ok (.tup xs) ah := rfl
@[simp] theorem oLen_tup {xs : List D} {ah : AH} : oLen [.tup xs] ah = .ok (.int (xs.length : Nat)) ah := rfl
@[simp] theorem oLen_lst {xs : List D} {ah : AH} : oLen [.lst xs] ah = .ok (.int (xs.length : Nat)) ah := rfl
theorem oIx_tup {xs : List D} {i : Int} {d : D} {ah : AH} (h : atI xs i = some d) : oIx (.tup xs) (.int i) ah = .ok d ah := by simp [oIx, seqD, h]
theorem oIx_lst {xs : List D} {i : Int} {d : D} {ah : AH} (h : atI xs i = some d) : oIx (.lst xs) (.int i) ah = .ok d ah := by simp [oIx, seqD, h]
theorem at_nat {xs : List D} {n : Nat} : atI xs (n : Int) = xs[n]? := by
  cases e : xs[n]? with
  | some v => exact atI_nat e
  | none =>
    have h := List.getElem?_eq_none_iff.mp e
    unfold atI ixN
    rw [if_pos (by omega), if_neg (by omega)]
    rfl
theorem ix_tup {xs : List D} {n : Nat} {d : D} {ah : AH} {i : Int} (h : xs[n]? = some d) (e : i = (n : Int)) : oIx (.tup xs) (.int i) ah = .ok d ah := oIx_tup (by rw [e, at_nat, h])
theorem ix_lst {xs : List D} {n : Nat} {d : D} {ah : AH} {i : Int} (h : xs[n]? = some d) (e : i = (n : Int)) : oIx (.lst xs) (.int i) ah = .ok d ah := oIx_lst (by rw [e, at_nat, h])
/-- a loop, by what holds ahead of each turn -/
theorem forL_inv {g : D → AE → Option AE} {body : FS} {I : Nat → AE → AH → Prop} : ∀ {ds : List D} {env : AE} {ah : AH} {k : Nat}, I k env ah →
    (∀ i d env ah, ds[i]? = some d → I (k + i) env ah → ∃ env1 fl env2 ah2, g d env = some env1 ∧ (fl = .nx ∨ fl = .ct) ∧ body env1 ah = .ok (fl, env2) ah2 ∧ I (k + i + 1) env2 ah2) →
    ∃ env' ah', forL g body ds env ah = .ok (.nx, env') ah' ∧ I (k + ds.length) env' ah'
  | [], env, ah, k, h0, _ => ⟨env, ah, rfl, h0⟩
  | d :: ds, env, ah, k, h0, h => by
    obtain ⟨env1, fl, env2, ah2, h1, h2, h3, h4⟩ := h 0 d env ah (by simp) h0
    obtain ⟨env', ah', h5, h6⟩ := forL_inv (ds := ds) (k := k + 1) (I := I) h4 fun i d' e a q z => by
      have := h (i + 1) d' e a (by simpa using q) (by rw [show k + (i + 1) = k + 1 + i by omega]; exact z)
      rw [show k + (i + 1) + 1 = k + 1 + i + 1 by omega] at this
      exact this
    refine ⟨env', ah', ?_, by rw [List.length_cons, show k + (ds.length + 1) = k + 1 + ds.length by omega]; exact h6⟩
    simp only [forL, h1, h3, Res.bind_ok]
    rcases h2 with rfl | rfl <;> exact h5
theorem small {n : Nat} (h : n ≤ 1048576) : n ≤ sizeLine := by rw [sizeLine_eq]; omega
theorem rangeD_map (n : Nat) : rangeD 0 n = (List.range n).map dI := by
  unfold rangeD dI
  exact List.map_congr_left fun i _ => by rw [Int.zero_add]
end DL
namespace DL
open PySem PySem.Spec PyProof.Rows L2
theorem pure_map {α : Type} {e : α → D} (h : ∀ x, pureD (e x) = true) : ∀ xs : List α, pureDL (xs.map e) = true
  | [] => rfl
  | x :: xs => by simp [pureDL, h x, pure_map h xs]
theorem pure_dT {α : Type} {e : α → D} (h : ∀ x, pureD (e x) = true) (xs : List α) : pureD (dT e xs) = true := pure_map h xs
theorem pure_dL {α : Type} {e : α → D} (h : ∀ x, pureD (e x) = true) (xs : List α) : pureD (dL e xs) = true := pure_map h xs
theorem oAdd_tup {xs ys : List D} {ah : AH} (h : xs.length + ys.length ≤ sizeLine) : oAdd (.tup xs) (.tup ys) ah = .ok (.tup (xs ++ ys)) ah := by
  show (if xs.length + ys.length ≤ sizeLine then (if xs = [] then Res.ok (D.tup ys) ah else if ys = [] then .ok (D.tup xs) ah else .ok (D.tup (xs ++ ys)) ah) else .bad) = _
  rw [if_pos h]
  split
  · rename_i e; subst e; rfl
  · split
    · rename_i e; subst e; simp
    · rfl
theorem oAdd_lst {xs ys : List D} {ah : AH} (h : xs.length + ys.length ≤ sizeLine) : oAdd (.lst xs) (.lst ys) ah = .ok (.lst (xs ++ ys)) ah := by
  show (if xs.length + ys.length ≤ sizeLine then Res.ok (D.lst (xs ++ ys)) ah else .bad) = _
  rw [if_pos h]
theorem zipD_map {α β : Type} {e : α → D} {f : β → D} : ∀ (xs : List α) (ys : List β), zipD (xs.map e) (ys.map f) = (List.zip xs ys).map fun p => D.tup [e p.1, f p.2]
  | [], _ => by simp [zipD]
  | _ :: _, [] => by simp [zipD]
  | x :: xs, y :: ys => by simp [zipD, zipD_map xs ys]
theorem oShl1 {k : Nat} {ah : AH} (h : k ≤ 1000000) : oShl (.int 1) (.int (k : Int)) ah = .ok (.int ((2 ^ k : Nat) : Int)) ah := by
  have c : CPow 1 (k : Int) := ⟨by omega, by omega, by decide⟩
  have e : (1 : Int) * 2 ^ (k : Int).toNat = ((2 ^ k : Nat) : Int) := by rw [Int.toNat_natCast, Int.one_mul]; exact (Int.natCast_pow 2 k).symm
  unfold oShl oI
  simp only [c, if_true, e]
end DL
namespace DL
open PySem PySem.Spec PyProof.Rows L2
@[simp] theorem tup1 {a : D} {ah : AH} : oTup [a] ah = .ok (.tup [a]) ah := oTup_eq (small (by simp))
@[simp] theorem tup2 {a b : D} {ah : AH} : oTup [a, b] ah = .ok (.tup [a, b]) ah := oTup_eq (small (by simp))
@[simp] theorem tup3 {a b c : D} {ah : AH} : oTup [a, b, c] ah = .ok (.tup [a, b, c]) ah := oTup_eq (small (by simp))
@[simp] theorem tup4 {a b c d : D} {ah : AH} : oTup [a, b, c, d] ah = .ok (.tup [a, b, c, d]) ah := oTup_eq (small (by simp))
@[simp] theorem tup0 {ah : AH} : oTup [] ah = .ok (.tup []) ah := oTup_eq (small (by simp))
@[simp] theorem lst0 {ah : AH} : oLst [] ah = .ok (.lst []) ah := oLst_eq (small (by simp))
@[simp] theorem lst1 {a : D} {ah : AH} : oLst [a] ah = .ok (.lst [a]) ah := oLst_eq (small (by simp))
@[simp] theorem lst2 {a b : D} {ah : AH} : oLst [a, b] ah = .ok (.lst [a, b]) ah := oLst_eq (small (by simp))
@[simp] theorem lstM0 {ah : AH} : oLstM [] ah = .ok (.ref ah.length) (ah ++ [.lst []]) := by unfold oLstM; rw [if_pos (small (by simp))]
@[simp] theorem lstM1 {a : D} {ah : AH} : oLstM [a] ah = .ok (.ref ah.length) (ah ++ [.lst [a]]) := by unfold oLstM; rw [if_pos (small (by simp))]
@[simp] theorem lstM2 {a b : D} {ah : AH} : oLstM [a, b] ah = .ok (.ref ah.length) (ah ++ [.lst [a, b]]) := by unfold oLstM; rw [if_pos (small (by simp))]
def rangeK (d : D) (ah : AH) : Res (List D) := match d with
  | .int j => if rgIn j then .ok (rangeD 0 j.toNat) ah else .bad
  | _ => .bad
theorem iRange1_eq {f : FE} {env : AE} {ah : AH} : iRange1 [f] env ah = (f env ah).bind rangeK := by
  unfold iRange1 iArgs iArgs
  cases f env ah with
  | ok d ah1 =>
    simp only [Res.bind_ok]
    unfold rangeK
    cases d <;> rfl
  | exc x e a => rfl
  | bad => rfl
theorem rangeK_nat {n : Nat} {ah : AH} (h : n ≤ 4096) : rangeK (.int (n : Int)) ah = .ok ((List.range n).map dI) ah := by
  unfold rangeK
  have c : rgIn (n : Int) := by unfold rgIn; omega
  simp only [c, if_true, Int.toNat_natCast, rangeD_map]
def rangeK2 (d e : D) (ah : AH) : Res (List D) := match d, e with
  | .int i, .int j => if rgIn i ∧ rgIn j then .ok (rangeD i (j - i).toNat) ah else .bad
  | _, _ => .bad
theorem iRange2_eq {f g : FE} {env : AE} {ah : AH} : iRange2 [f, g] env ah = (f env ah).bind fun x ah1 => (g env ah1).bind fun y ah2 => rangeK2 x y ah2 := by
  unfold iRange2 iArgs iArgs iArgs
  cases f env ah with
  | ok d ah1 =>
    simp only [Res.bind_ok]
    cases g env ah1 with
    | ok e ah2 =>
      simp only [Res.bind_ok]
      unfold rangeK2
      cases d <;> cases e <;> rfl
    | exc x e a => rfl
    | bad => rfl
  | exc x e a => rfl
  | bad => rfl
end DL
namespace DL
open PySem PySem.Spec PyProof.Rows L2
section
variable {env env1 : AE} {ah a1 a2 a3 a4 : AH} {f fa fb fc : FE} {fs : List FE} {x y z d : D} {ds xs : List D} {t t2 : FT} {s s2 : FS} {fi : FI} {b : Bool}
theorem eC : iC d env ah = .ok d ah := rfl
theorem eK : iK d env ah = .ok d ah := rfl
theorem eV {i : Nat} (h : env[i]? = some (some d)) : iVar i env ah = .ok d ah := by unfold iVar; rw [h]
theorem eBin {o : D → D → AH → Res D} (h1 : fa env ah = .ok x a1) (h2 : fb env a1 = .ok y a2) (h3 : o x y a2 = .ok z a3) : iBin o fa fb env ah = .ok z a3 := by unfold iBin; rw [h1, Res.bind_ok, h2, Res.bind_ok, h3]
theorem eUn {o : D → AH → Res D} (h1 : f env ah = .ok x a1) (h3 : o x a1 = .ok z a3) : iUn o f env ah = .ok z a3 := by unfold iUn; rw [h1, Res.bind_ok, h3]
theorem eA0 : iArgs [] env ah = .ok [] ah := rfl
theorem eA (h1 : f env ah = .ok x a1) (h2 : iArgs fs env a1 = .ok xs a2) : iArgs (f :: fs) env ah = .ok (x :: xs) a2 := by unfold iArgs; rw [h1, Res.bind_ok, h2, Res.bind_ok]
theorem eCall {o : List D → AH → Res D} (h1 : iArgs fs env ah = .ok xs a1) (h2 : o xs a1 = .ok z a2) : iCall o fs env ah = .ok z a2 := by unfold iCall; rw [h1, Res.bind_ok, h2]
theorem eDef {F : List D → AH → Res D} (h1 : iArgs fs env ah = .ok xs a1) (h2 : F xs a1 = .ok z a2) : iDef F fs env ah = .ok z a2 := by unfold iDef; rw [h1, Res.bind_ok, h2, Res.nox_ok]
theorem eFz (h1 : f env ah = .ok x a1) (h3 : fzD x a1 = .ok z a3) : iFz f env ah = .ok z a3 := eUn h1 h3
theorem eIfT (h1 : t env ah = .ok true a1) (h2 : fa env a1 = .ok z a2) : iIf t fa fb env ah = .ok z a2 := by unfold iIf; rw [h1, Res.bind_ok, if_pos rfl, h2]
theorem eIfF (h1 : t env ah = .ok false a1) (h2 : fb env a1 = .ok z a2) : iIf t fa fb env ah = .ok z a2 := by unfold iIf; rw [h1, Res.bind_ok, if_neg Bool.false_ne_true, h2]
theorem eIf (h1 : t env ah = .ok b a1) (h2 : (if b = true then fa env a1 else fb env a1) = .ok z a2) : iIf t fa fb env ah = .ok z a2 := by unfold iIf; rw [h1, Res.bind_ok, h2]
theorem eTr (h1 : f env ah = .ok (.bl b) a1) : iTr f env ah = .ok b a1 := by unfold iTr; rw [h1, Res.bind_ok]
theorem eTru (h1 : f env ah = .ok x a1) (h2 : truD a1 x = some b) : iTru f env ah = .ok b a1 := by unfold iTru; rw [h1, Res.bind_ok, h2]
theorem eNotT (h1 : t env ah = .ok b a1) : bNot t env ah = .ok (!b) a1 := by unfold bNot; rw [h1, Res.bind_ok]
theorem eAndT (h1 : t env ah = .ok true a1) {r : Res Bool} (h2 : t2 env a1 = r) : bAnd t t2 env ah = r := by unfold bAnd; rw [h1, Res.bind_ok, if_pos rfl, h2]
theorem eAndF (h1 : t env ah = .ok false a1) : bAnd t t2 env ah = .ok false a1 := by unfold bAnd; rw [h1, Res.bind_ok, if_neg Bool.false_ne_true]
theorem eOrT (h1 : t env ah = .ok true a1) : bOr t t2 env ah = .ok true a1 := by unfold bOr; rw [h1, Res.bind_ok, if_pos rfl]
theorem eOrF (h1 : t env ah = .ok false a1) {r : Res Bool} (h2 : t2 env a1 = r) : bOr t t2 env ah = r := by unfold bOr; rw [h1, Res.bind_ok, if_neg Bool.false_ne_true, h2]
theorem eSeq {r : Res (Fl × AE)} (h1 : s env ah = .ok (.nx, env1) a1) (h2 : s2 env1 a1 = r) : sSeq s s2 env ah = r := by unfold sSeq; rw [h1, Res.bind_ok]; exact h2
theorem eSeqR (h1 : s env ah = .ok (.rt d, env1) a1) : sSeq s s2 env ah = .ok (.rt d, env1) a1 := by unfold sSeq; rw [h1, Res.bind_ok]
theorem eRet (h1 : f env ah = .ok d a1) : sRet f env ah = .ok (.rt d, env) a1 := by unfold sRet; rw [h1, Res.bind_ok]
theorem eNx : sNx env ah = .ok (.nx, env) ah := rfl
theorem eDrop (h1 : f env ah = .ok d a1) : sDrop f env ah = .ok (.nx, env) a1 := by unfold sDrop; rw [h1, Res.bind_ok]
theorem eAsg {g : D → AE → Option AE} (h1 : f env ah = .ok d a1) (h2 : g d env = some env1) : sAsg g f env ah = .ok (.nx, env1) a1 := by unfold sAsg; rw [h1, Res.bind_ok, h2]
theorem eSIfT {r : Res (Fl × AE)} (h1 : t env ah = .ok true a1) (h2 : s env a1 = r) : sIf t s s2 env ah = r := by unfold sIf; rw [h1, Res.bind_ok, if_pos rfl, h2]
theorem eSIfF {r : Res (Fl × AE)} (h1 : t env ah = .ok false a1) (h2 : s2 env a1 = r) : sIf t s s2 env ah = r := by unfold sIf; rw [h1, Res.bind_ok, if_neg Bool.false_ne_true, h2]
theorem eSIf {r : Res (Fl × AE)} (h1 : t env ah = .ok b a1) (h2 : (if b = true then s env a1 else s2 env a1) = r) : sIf t s s2 env ah = r := by unfold sIf; rw [h1, Res.bind_ok, h2]
theorem eFor {g : D → AE → Option AE} {r : Res (Fl × AE)} (h1 : fi env ah = .ok ds a1) (h2 : forL g s ds env a1 = r) : sFor fi g s env ah = r := by unfold sFor; rw [h1, Res.bind_ok, h2]
theorem ePut {fo fx : FE} (h1 : f env ah = .ok d a1) (h2 : fo env a1 = .ok x a2) (h3 : fx env a2 = .ok y a3) (h4 : putD x y d a3 = some a4) : sPut fo fx f env ah = .ok (.nx, env) a4 := by
  unfold sPut; rw [h1, Res.bind_ok, h2, Res.bind_ok, h3, Res.bind_ok, h4]
theorem eAug {i : Nat} {o : D → D → AH → Res D} (h0 : env[i]? = some (some x)) (h1 : f env ah = .ok y a1) (h2 : o x y a1 = .ok z a2) : sAug i o f env ah = .ok (.nx, env.set i (some z)) a2 := by unfold sAug; rw [h0]; simp only; rw [h1, Res.bind_ok, h2, Res.bind_ok]
theorem eApp {fo : FE} {n : Nat} (h1 : fo env ah = .ok (.ref n) a1) (h2 : a1[n]? = some (.lst xs)) (h3 : f env a1 = .ok y a2) (h4 : a2[n]? = some (.lst ds)) (hz : ds.length < sizeLine) : iApp fo f env ah = .ok .non (a2.set n (.lst (ds ++ [y]))) := by
  unfold iApp
  rw [h1, Res.bind_ok]
  have e : isLst a1 (.ref n) = true := by unfold isLst; simp only [h2]
  rw [if_pos e, h3, Res.bind_ok]
  unfold oApp
  simp only [h4]
  rw [if_pos hz]
theorem eLc {g : D → AE → Option AE} {vs : List Nat} (h1 : fi env ah = .ok ds a1) (h2 : compL g t f (wipeA env vs) ds [] a1 = .ok xs a2) : iLc fi g t f vs env ah = .ok (.lst xs) a2 := by unfold iLc; rw [h1, Res.bind_ok, h2, Res.bind_ok]
theorem eLcM {g : D → AE → Option AE} {vs : List Nat} (h1 : fi env ah = .ok ds a1) (h2 : compL g t f (wipeA env vs) ds [] a1 = .ok xs a2) : iLcM fi g t f vs env ah = .ok (.ref a2.length) (a2 ++ [.lst xs]) := by unfold iLcM; rw [h1, Res.bind_ok, h2, Res.bind_ok]
theorem eSl {o : D → Option Int → Option Int → AH → Res D} {fl fh : FO} {lo hi : Option Int} (h1 : f env ah = .ok x a1) (h2 : fl env a1 = .ok lo a2) (h3 : fh env a2 = .ok hi a3) (h4 : o x lo hi a3 = .ok z a4) : iSl o f fl fh env ah = .ok z a4 := by
  unfold iSl; rw [h1, Res.bind_ok, h2, Res.bind_ok, h3, Res.bind_ok, h4]
theorem eNoP : iNoP env ah = .ok none ah := rfl
theorem ePart {i : Int} (h1 : f env ah = .ok (.int i) a1) : iPart f env ah = .ok (some i) a1 := by unfold iPart; rw [h1, Res.bind_ok]
theorem eRg1 {n : Nat} (h1 : f env ah = .ok (.int (n : Int)) a1) (hn : n ≤ 4096) : iRange1 [f] env ah = .ok ((List.range n).map dI) a1 := by rw [iRange1_eq, h1, Res.bind_ok, rangeK_nat hn]
theorem eSqT (h1 : f env ah = .ok (.tup ds) a1) : iSeqS f env ah = .ok ds a1 := by unfold iSeqS; rw [h1, Res.bind_ok]
theorem eSqL (h1 : f env ah = .ok (.lst ds) a1) : iSeqS f env ah = .ok ds a1 := by unfold iSeqS; rw [h1, Res.bind_ok]
theorem eSqS {q : Str} (h1 : f env ah = .ok (.str q) a1) : iSeqS f env ah = .ok (q.cps.toList.map fun c => .str ⟨#[c]⟩) a1 := by unfold iSeqS; rw [h1, Res.bind_ok]
theorem eRvT (h1 : f env ah = .ok (.tup ds) a1) : iRevI f env ah = .ok ds.reverse a1 := by unfold iRevI; rw [h1, Res.bind_ok]
theorem eRvL (h1 : f env ah = .ok (.lst ds) a1) : iRevI f env ah = .ok ds.reverse a1 := by unfold iRevI; rw [h1, Res.bind_ok]
theorem eZpL (h1 : iArgs fs env ah = .ok [.lst xs, .lst ds] a1) : iZipI fs env ah = .ok (zipD xs ds) a1 := by unfold iZipI; rw [h1, Res.bind_ok]
theorem eZpT (h1 : iArgs fs env ah = .ok [.tup xs, .tup ds] a1) : iZipI fs env ah = .ok (zipD xs ds) a1 := by unfold iZipI; rw [h1, Res.bind_ok]
theorem eBodyR {n : Nat} {args : List D} (h : s (args.map some ++ List.replicate (n - args.length) none) ah = .ok (.rt d, env1) a1) : iBody n s args ah = .ok d a1 := by unfold iBody; rw [h]
theorem eBodyN {n : Nat} {args : List D} (h : s (args.map some ++ List.replicate (n - args.length) none) ah = .ok (.nx, env1) a1) : iBody n s args ah = .ok .non a1 := by unfold iBody; rw [h]
theorem okd {α : Type} {r : Res α} {u v : α} (h : r = .ok u ah) (e : u = v) : r = .ok v ah := by rw [h, e]
end
end DL
namespace DL
open PySem PySem.Spec PyProof.Rows L2
theorem oTuple_ref {n : Nat} {xs : List D} {ah : AH} (h : ah[n]? = some (.lst xs)) : oTuple [.ref n] ah = .ok (.tup xs) ah := by
  have e : seqD ah (.ref n) = some (false, xs) := by simp only [seqD, h]
  unfold oTuple
  simp only [e]
theorem last_at {ah : AH} {o : AO} : (ah ++ [o])[ah.length]? = some o := by simp
theorem set_last {ah : AH} {o p : AO} : (ah ++ [o]).set ah.length p = ah ++ [p] := by
  induction ah with
  | nil => rfl
  | cons a ah ih => simp only [List.cons_append, List.length_cons, List.set_cons_succ, ih]
theorem zip_maps {α β γ : Type} (f : α → β) (g : α → γ) : ∀ xs : List α, (xs.map f).zip (xs.map g) = xs.map fun x => (f x, g x)
  | [] => rfl
  | x :: xs => by simp [zip_maps f g xs]
end DL
namespace DL
open PySem PySem.Spec PyProof.Rows L2
theorem compL_grow {α : Type} {g : D → AE → Option AE} {f : FE} {env : AE} {e : α → D} {o : AO} : ∀ {xs : List α} {acc : List D} {ah : AH}, (∀ x ∈ xs, ∀ a, ∃ env1, g (e x) env = some env1 ∧ f env1 a = .ok (.ref a.length) (a ++ [o])) → acc.length + xs.length ≤ sizeLine →
    compL g (fun _ ah => .ok true ah) f env (xs.map e) acc ah = .ok (acc ++ (List.range xs.length).map fun i => D.ref (ah.length + i)) (ah ++ List.replicate xs.length o)
  | [], acc, ah, _, _ => by simp [compL]
  | x :: xs, acc, ah, h, hz => by
    obtain ⟨env1, h1, h3⟩ := h x List.mem_cons_self ah
    rw [List.length_cons] at hz
    simp only [List.map_cons, compL, h1, h3, Res.nox_ok, Res.bind_ok, if_true]
    rw [if_pos (by omega), compL_grow (fun y hy a => h y (List.mem_cons_of_mem _ hy) a) (by simp; omega)]
    have e1 : (List.range (xs.length + 1)).map (fun i => D.ref (ah.length + i)) = D.ref ah.length :: (List.range xs.length).map fun i => D.ref ((ah ++ [o]).length + i) := by
      rw [List.range_succ_eq_map, List.map_cons, List.map_map]
      congr 1
      refine List.map_congr_left fun i _ => ?_
      simp only [Function.comp, List.length_append, List.length_cons, List.length_nil]
      congr 1
      omega
    rw [List.length_cons, e1, List.replicate_succ]
    simp
theorem oMulM_one {d : D} {n : Nat} {ah : AH} (h : n ≤ 4096) : oMulM (.lst [d]) (.int (n : Int)) ah = .ok (.ref ah.length) (ah ++ [.lst (List.replicate n d)]) := by
  unfold oMulM seqD
  simp only [Int.toNat_natCast, List.length_cons, List.length_nil]
  rw [if_pos ⟨by omega, by omega, by rw [sizeLine_eq]; omega⟩]
  have e : ∀ m : Nat, (List.replicate m [d]).flatten = List.replicate m d := fun m => by
    induction m with
    | zero => rfl
    | succ m ih => rw [List.replicate_succ, List.flatten_cons, ih]; rfl
  rw [e]
def aoI (row : List Int) : AO := .lst (row.map D.int)
def H2 (ah : AH) (F B : List (List Int)) : AH := ah ++ (F.map aoI ++ B.map aoI)
section
variable {ah : AH} {F B : List (List Int)} {r : Nat}
theorem h2_get1 (h : r < F.length) : (H2 ah F B)[ah.length + r]? = some (aoI (F.getD r [])) := by
  unfold H2
  rw [List.getElem?_append_right (by omega), show ah.length + r - ah.length = r by omega, List.getElem?_append_left (by simpa using h), List.getElem?_map, List.getElem?_eq_getElem h, List.getD_eq_getElem?_getD, List.getElem?_eq_getElem h]
  rfl
theorem h2_get2 (h : r < B.length) : (H2 ah F B)[ah.length + F.length + r]? = some (aoI (B.getD r [])) := by
  unfold H2
  rw [List.getElem?_append_right (by omega), show ah.length + F.length + r - ah.length = F.length + r by omega, List.getElem?_append_right (by simp), List.length_map, show F.length + r - F.length = r by omega, List.getElem?_map, List.getElem?_eq_getElem h, List.getD_eq_getElem?_getD, List.getElem?_eq_getElem h]
  rfl
theorem set_app1 {α : Type} {x : α} : ∀ {xs ys : List α} {i : Nat}, i < xs.length → (xs ++ ys).set i x = xs.set i x ++ ys
  | [], _, _, h => absurd h (Nat.not_lt_zero _)
  | y :: xs, ys, 0, _ => rfl
  | y :: xs, ys, i + 1, h => by simp only [List.cons_append, List.set_cons_succ]; rw [set_app1 (by simpa using h)]
theorem set_app2 {α : Type} {x : α} : ∀ {xs ys : List α} {i : Nat}, (xs ++ ys).set (xs.length + i) x = xs ++ ys.set i x
  | [], ys, i => by simp
  | y :: xs, ys, i => by
    rw [List.cons_append, List.length_cons, show xs.length + 1 + i = xs.length + i + 1 by omega, List.set_cons_succ, set_app2]
    rfl
theorem h2_set1 {row : List Int} (h : r < F.length) : (H2 ah F B).set (ah.length + r) (aoI row) = H2 ah (F.set r row) B := by
  unfold H2
  rw [set_app2, set_app1 (by simpa using h), List.map_set]
theorem h2_set2 {row : List Int} : (H2 ah F B).set (ah.length + F.length + r) (aoI row) = H2 ah F (B.set r row) := by
  unfold H2
  rw [Nat.add_assoc, set_app2, show F.length = (F.map aoI).length by simp, set_app2, List.map_set]
theorem put_row {a : AH} {n c : Nat} {row : List Int} {v : Int} (h : a[n]? = some (aoI row)) (hc : c < row.length) : putD (.ref n) (.int (c : Int)) (.int v) a = some (a.set n (aoI (row.set c v))) := by
  unfold putD
  simp only [h, aoI]
  have e : ixN (row.map D.int).length (c : Int) = some c := by
    unfold ixN
    rw [if_pos (by omega), if_pos (by rw [List.length_map]; omega)]
    simp
  simp only [e, List.map_set]
end
theorem eMulSmall {k v : Int} {ah : AH} (h1 : -(2 ^ 64) < k) (h2 : k < 2 ^ 64) : oMul (.int k) (.int v) ah = .ok (.int (k * v)) ah := oMul_int (.inl ⟨h1, h2⟩)
theorem range_getD {α β : Type} (f : α → β) (d : α) (xs : List α) : (List.range xs.length).map (fun j => f (xs.getD j d)) = xs.map f := by
  apply List.ext_getElem
  · simp
  · intro i h1 h2
    have hi : i < xs.length := by simpa using h2
    simp [List.getD_eq_getElem?_getD, List.getElem?_eq_getElem hi]
theorem eEnT {fs : List FE} {env : AE} {ah a1 : AH} {xs : List D} (h1 : iArgs fs env ah = .ok [.tup xs] a1) : iEnumA fs env ah = .ok (numD 0 xs) a1 := by unfold iEnumA; rw [h1, Res.bind_ok]
end DL
namespace DL
open PySem PySem.Spec PyProof.Rows L2
theorem fz_ref {n : Nat} {ds : List D} {ah : AH} (h : ah[n]? = some (.lst ds)) : fzD (.ref n) ah = .ok (.lst ds) (ah.set n (.fz (.lst ds))) := by
  unfold fzD
  simp only [h]
theorem fz_last {ds : List D} {ah : AH} : fzD (.ref ah.length) (ah ++ [.lst ds]) = .ok (.lst ds) (ah ++ [.fz (.lst ds)]) := by
  rw [fz_ref last_at, set_last]
theorem eDown_lst {xs : List D} {ah : AH} : oDown (.lst xs) ah = .ok (.lst xs.reverse) ah := rfl
theorem eDown_tup {xs : List D} {ah : AH} : oDown (.tup xs) ah = .ok (.tup xs.reverse) ah := rfl
theorem eP0 {env : AE} {ah : AH} : iPairs [] env ah = .ok [] ah := rfl
theorem eP {fk fv : FE} {ps : List (FE × FE)} {env : AE} {ah a1 a2 a3 : AH} {k v : D} {q : Key} {kvs : List (Key × D)} (h1 : fk env ah = .ok k a1) (h2 : fv env a1 = .ok v a2) (h3 : iPairs ps env a2 = .ok kvs a3) (h4 : keyD k = some q) : iPairs ((fk, fv) :: ps) env ah = .ok ((q, v) :: kvs) a3 := by
  unfold iPairs
  rw [h1, Res.bind_ok, h2, Res.bind_ok, h3, Res.bind_ok]
  simp only [h4]
theorem eDict {ps : List (FE × FE)} {env : AE} {ah a1 : AH} {kvs : List (Key × D)} (h1 : iPairs ps env ah = .ok kvs a1) (h2 : kvs.length ≤ 15) : iDict ps env ah = .ok (.dk (foldD kvs ([], [])).1 (foldD kvs ([], [])).2) a1 := by
  unfold iDict
  rw [h1, Res.bind_ok, if_pos h2]
end DL
namespace DL
open PySem PySem.Spec PyProof.Rows L2
/-- what may be shown and compared: depth at most k, at most n items -/
structure Shw (k n : Nat) (d : PyData) : Prop where
  sh : d.showable = true
  lf : d.leavesShort 13 = true
  ly : d.canLay0 = true
  nd : d.hasDict = false
  dp : d.depth ≤ k
  bk : d.bulk ≤ n
theorem Shw.mono {k n k' n' : Nat} {d : PyData} (h : Shw k n d) (h1 : k ≤ k') (h2 : n ≤ n') : Shw k' n' d := ⟨h.sh, h.lf, h.ly, h.nd, Nat.le_trans h.dp h1, Nat.le_trans h.bk h2⟩
theorem shw_int {i : Int} (h : i.natAbs < 1000000000000) : Shw 0 0 (.int i) := by
  refine ⟨?_, ?_, rfl, rfl, Nat.le_refl _, Nat.le_refl _⟩
  · show decide (i.natAbs.log2 < 1920) = true
    refine decide_eq_true ?_
    by_cases c : i.natAbs = 0
    · rw [c]; decide
    · have : i.natAbs.log2 < 40 := (Nat.log2_lt c).mpr (by omega)
      omega
  · show decide ((PyData.shown (.int i)).length ≤ 13) = true
    refine decide_eq_true ?_
    have e := int_text_length_le10 (a := i) (k := 12) (by decide) (by omega)
    show (PySem.Str.ofString (ToString.toString i)).length ≤ 13
    rw [PySem.ofString_length]
    exact e
theorem shw_all {k n : Nat} : ∀ {xs : List PyData}, (∀ x ∈ xs, Shw k n x) → PyData.showableAll xs = true ∧ PyData.leavesShortAll 13 xs = true ∧ PyData.canLayAll0 xs = true ∧ PyData.hasDictAll xs = false ∧ PyData.depthAll xs ≤ k ∧ PyData.bulkAll xs ≤ xs.length * (n + 1)
  | [], _ => ⟨rfl, rfl, rfl, rfl, Nat.zero_le _, Nat.zero_le _⟩
  | x :: xs, h => by
    have a := h x List.mem_cons_self
    obtain ⟨b1, b2, b3, b4, b5, b6⟩ := shw_all fun y hy => h y (List.mem_cons_of_mem _ hy)
    refine ⟨?_, ?_, ?_, ?_, ?_, ?_⟩
    · simp [PyData.showableAll, a.sh, b1]
    · simp [PyData.leavesShortAll, a.lf, b2]
    · simp [PyData.canLayAll0, a.ly, b3]
    · simp [PyData.hasDictAll, a.nd, b4]
    · show max _ _ ≤ k
      exact Nat.max_le.mpr ⟨a.dp, b5⟩
    · show PyData.bulk x + 1 + PyData.bulkAll xs ≤ (xs.length + 1) * (n + 1)
      have := a.bk
      rw [Nat.add_mul]
      omega
theorem shw_tup {k n : Nat} {xs : List PyData} (h : ∀ x ∈ xs, Shw k n x) : Shw (k + 1) (xs.length * (n + 1)) (.tuple xs) := by
  obtain ⟨b1, b2, b3, b4, b5, b6⟩ := shw_all h
  exact ⟨by simpa [PyData.showable] using b1, by simpa [PyData.leavesShort] using b2, by simpa [PyData.canLay0] using b3, by simpa [PyData.hasDict] using b4, by simp only [PyData.depth]; omega, by simpa [PyData.bulk] using b6⟩
theorem shw_lst {k n : Nat} {xs : List PyData} (h : ∀ x ∈ xs, Shw k n x) : Shw (k + 1) (xs.length * (n + 1)) (.list xs) := by
  obtain ⟨b1, b2, b3, b4, b5, b6⟩ := shw_all h
  exact ⟨by simpa [PyData.showable] using b1, by simpa [PyData.leavesShort] using b2, by simpa [PyData.canLay0] using b3, by simpa [PyData.hasDict] using b4, by simp only [PyData.depth]; omega, by simpa [PyData.bulk] using b6⟩
theorem Shw.rpr {k n : Nat} {d : PyData} (h : Shw k n d) (hk : k ≤ 40) (hn : n ≤ 1048576) : rprOk d = true := by
  have h1 := h.bk; have h2 := h.dp
  unfold rprOk
  simp only [Bool.and_eq_true, decide_eq_true_eq, Bool.not_eq_true']
  exact ⟨h.sh, h.lf, by omega, by omega, h.nd⟩
theorem Shw.shaped {k n : Nat} {d : PyData} (h : Shw k n d) (hk : k ≤ 40) : SeqAt.shaped d = true := by
  have h2 := h.dp
  unfold SeqAt.shaped
  simp only [Bool.and_eq_true, decide_eq_true_eq]
  exact ⟨h.ly, by omega⟩
theorem py_map {α : Type} {e : α → D} {p : α → PyData} (h : ∀ x, toPy (e x) = some (p x)) : ∀ xs : List α, toPyL (xs.map e) = some (xs.map p)
  | [] => rfl
  | x :: xs => by simp [toPyL, h x, py_map h xs]
theorem py_dT {α : Type} {e : α → D} {p : α → PyData} (h : ∀ x, toPy (e x) = some (p x)) (xs : List α) : toPy (dT e xs) = some (.tuple (xs.map p)) := by
  unfold dT toPy
  simp only [py_map h xs]
theorem py_dL {α : Type} {e : α → D} {p : α → PyData} (h : ∀ x, toPy (e x) = some (p x)) (xs : List α) : toPy (dL e xs) = some (.list (xs.map p)) := by
  unfold dL toPy
  simp only [py_map h xs]
theorem eqv_map {α : Type} [DecidableEq α] {p : α → PyData} (h : ∀ x y, PyData.eqv (p x) (p y) = decide (x = y)) : ∀ xs ys : List α, PyData.eqvAll (xs.map p) (ys.map p) = decide (xs = ys)
  | [], [] => by simp [PyData.eqvAll]
  | [], _ :: _ => by simp [PyData.eqvAll]
  | _ :: _, [] => by simp [PyData.eqvAll]
  | x :: xs, y :: ys => by
    rw [List.map_cons, List.map_cons, PyData.eqvAll, h x y, eqv_map h xs ys, Bool.eq_iff_iff]
    simp
theorem eqv_tupM {α : Type} [DecidableEq α] {p : α → PyData} (h : ∀ x y, PyData.eqv (p x) (p y) = decide (x = y)) (xs ys : List α) : PyData.eqv (.tuple (xs.map p)) (.tuple (ys.map p)) = decide (xs = ys) := by rw [PyData.eqv]; exact eqv_map h xs ys
theorem eqv_intI (x y : Int) : PyData.eqv (.int x) (.int y) = decide (x = y) := by
  rw [PyData.eqv, Bool.eq_iff_iff]
  simp
theorem eRepr {fs : List FE} {env : AE} {ah a1 : AH} {d : D} {q : PyData} (h1 : iArgs fs env ah = .ok [d] a1) (h2 : toPy d = some q) (h3 : rprOk q = true) : iCall oRepr fs env ah = .ok (.str q.shown) a1 := by
  refine eCall h1 ?_
  unfold oRepr
  simp only [h2, h3, if_true]
theorem oEq_str {x y : Str} {ah : AH} : oEq (.str x) (.str y) ah = .ok (.bl (decide (x = y))) ah := rfl
theorem oEq_dat {x y : D} {p q : PyData} {ah : AH} (h0 : scalD x y = none) (h1 : toPy x = some p) (h2 : toPy y = some q) (s1 : SeqAt.shaped p = true) (s2 : SeqAt.shaped q = true) : oEq x y ah = .ok (.bl (PyData.eqv p q)) ah := by
  unfold oEq eqD
  simp only [h0, h1, h2, s1, s2, and_self, if_true]
theorem eAnd1 {f g : FE} {env : AE} {ah a1 : AH} {r : Res D} (h1 : f env ah = .ok (.bl true) a1) (h2 : g env a1 = r) : iAnd f g env ah = r := by unfold iAnd; rw [h1, Res.bind_ok]; exact h2
theorem eAnd0 {f g : FE} {env : AE} {ah a1 : AH} (h1 : f env ah = .ok (.bl false) a1) : iAnd f g env ah = .ok (.bl false) a1 := by unfold iAnd; rw [h1, Res.bind_ok]
theorem all_bl {bs : List Bool} {ah : AH} : oAll [.lst (bs.map D.bl)] ah = .ok (.bl (bs.all id)) ah := by
  unfold oAll oL1 lstD
  simp only [seqD, blsD_map]
end DL
namespace DL
open PySem PySem.Spec PyProof.Rows L2
theorem eChain {o o' : D → D → AH → Res D} {fa fb fc : FE} {env : AE} {ah a1 a2 a3 a4 a5 : AH} {x y u z : D} (h1 : fa env ah = .ok x a1) (h2 : fb env a1 = .ok y a2) (h3 : o x y a2 = .ok (.bl true) a3) (h4 : fc env a3 = .ok u a4) (h5 : o' y u a4 = .ok z a5) : iChain o o' fa fb fc env ah = .ok z a5 := by
  unfold iChain
  rw [h1, Res.bind_ok, h2, Res.bind_ok, h3, Res.bind_ok]
  simp only
  rw [h4, Res.bind_ok, h5]
theorem eChain0 {o o' : D → D → AH → Res D} {fa fb fc : FE} {env : AE} {ah a1 a2 a3 : AH} {x y : D} (h1 : fa env ah = .ok x a1) (h2 : fb env a1 = .ok y a2) (h3 : o x y a2 = .ok (.bl false) a3) : iChain o o' fa fb fc env ah = .ok (.bl false) a3 := by
  unfold iChain
  rw [h1, Res.bind_ok, h2, Res.bind_ok, h3, Res.bind_ok]
theorem oLeI {i j : Int} {ah : AH} : oLe (.int i) (.int j) ah = .ok (.bl (decide (i ≤ j))) ah := rfl
theorem oLtI {i j : Int} {ah : AH} : oLt (.int i) (.int j) ah = .ok (.bl (decide (i < j))) ah := rfl
theorem oEqI {i j : Int} {ah : AH} : oEq (.int i) (.int j) ah = .ok (.bl (decide (i = j))) ah := rfl
theorem isNot_bl {a b : Bool} {ah : AH} : oIsNot (.bl a) (.bl b) ah = .ok (.bl (!decide (a = b))) ah := by cases a <;> cases b <;> rfl
end DL
namespace DL
open PySem PySem.Spec PyProof.Rows L2
/-- a comprehension whose items change the heap, by what holds of it -/
theorem compL_ex {α : Type} {g : D → AE → Option AE} {f : FE} {env : AE} {e : α → D} {P : AH → Prop} {Q : D → Prop} : ∀ {xs : List α} {acc : List D} {ah : AH}, P ah → (∀ x ∈ xs, ∀ a, P a → ∃ env1 y a', g (e x) env = some env1 ∧ f env1 a = .ok y a' ∧ Q y ∧ P a') → acc.length + xs.length ≤ sizeLine →
    ∃ ys ah', compL g (fun _ ah => .ok true ah) f env (xs.map e) acc ah = .ok (acc ++ ys) ah' ∧ ys.length = xs.length ∧ (∀ y ∈ ys, Q y) ∧ P ah'
  | [], acc, ah, h0, _, _ => ⟨[], ah, by simp [compL], rfl, (fun _ h => absurd h List.not_mem_nil), h0⟩
  | x :: xs, acc, ah, h0, h, hz => by
    obtain ⟨env1, y, a', h1, h3, hq, hp⟩ := h x List.mem_cons_self ah h0
    rw [List.length_cons] at hz
    obtain ⟨ys, ah', k1, k2, k3, k4⟩ := compL_ex (acc := acc ++ [y]) (xs := xs) (e := e) hp (fun z hz a => h z (List.mem_cons_of_mem _ hz) a) (by simp; omega)
    refine ⟨y :: ys, ah', ?_, by simp [k2], fun z hz => (List.mem_cons.mp hz).elim (fun w => by rw [w]; exact hq) (k3 z), k4⟩
    simp only [List.map_cons, compL, h1, h3, Res.nox_ok, Res.bind_ok, if_true]
    rw [if_pos (by omega), k1]
    simp
theorem rangeK2_0 {n : Nat} {ah : AH} (h : n ≤ 4096) : rangeK2 (.int 0) (.int (n : Int)) ah = .ok ((List.range n).map dI) ah := by
  unfold rangeK2
  have c : rgIn 0 ∧ rgIn (n : Int) := by unfold rgIn; omega
  simp only [c, and_self, if_true, Int.sub_zero, Int.toNat_natCast, rangeD_map]
theorem eRg2 {f g : FE} {env : AE} {ah a1 a2 : AH} {n : Nat} (h1 : f env ah = .ok (.int 0) a1) (h2 : g env a1 = .ok (.int (n : Int)) a2) (h : n ≤ 4096) : iRange2 [f, g] env ah = .ok ((List.range n).map dI) a2 := by
  rw [iRange2_eq, h1, Res.bind_ok, h2, Res.bind_ok, rangeK2_0 h]
theorem oGe_int {i j : Int} {ah : AH} : oGe (.int i) (.int j) ah = .ok (.bl (decide (j ≤ i))) ah := rfl
theorem oGt_int {i j : Int} {ah : AH} : oGt (.int i) (.int j) ah = .ok (.bl (decide (j < i))) ah := rfl
theorem oMulR {k v : Int} {ah : AH} (h1 : -(2 ^ 64) < v) (h2 : v < 2 ^ 64) : oMul (.int k) (.int v) ah = .ok (.int (k * v)) ah := oMul_int (.inr ⟨h1, h2⟩)
theorem oPow_int {i j : Int} {ah : AH} (h : CPow i j) : oPow (.int i) (.int j) ah = .ok (.int (i ^ j.toNat)) ah := by
  unfold oPow oI
  simp only [h, if_true]
theorem oInt_int {i : Int} {ah : AH} : oInt [.int i] ah = .ok (.int i) ah := rfl
theorem oLen_lstI {ns : List Int} {ah : AH} : oLen [.lst (ns.map D.int)] ah = .ok (.int ((ns.length : Nat) : Int)) ah := by rw [oLen_lst, List.length_map]
theorem atI_map {ns : List Int} {k : Nat} (h : k < ns.length) : (ns.map D.int)[k]? = some (.int ns[k]) := by rw [List.getElem?_map, List.getElem?_eq_getElem h]; rfl
end DL
namespace DL
open PySem PySem.Spec PyProof.Rows L2
theorem compL_alloc {α : Type} {g : D → AE → Option AE} {f : FE} {env : AE} {e : α → D} {o : α → AO} : ∀ {xs : List α} {acc : List D} {ah : AH}, (∀ x ∈ xs, ∀ a, ∃ env1, g (e x) env = some env1 ∧ f env1 a = .ok (.ref a.length) (a ++ [o x])) → acc.length + xs.length ≤ sizeLine →
    compL g (fun _ ah => .ok true ah) f env (xs.map e) acc ah = .ok (acc ++ (List.range xs.length).map fun i => D.ref (ah.length + i)) (ah ++ xs.map o)
  | [], acc, ah, _, _ => by simp [compL]
  | x :: xs, acc, ah, h, hz => by
    obtain ⟨env1, h1, h3⟩ := h x List.mem_cons_self ah
    rw [List.length_cons] at hz
    simp only [List.map_cons, compL, h1, h3, Res.nox_ok, Res.bind_ok, if_true]
    rw [if_pos (by omega), compL_alloc (fun y hy a => h y (List.mem_cons_of_mem _ hy) a) (by simp; omega)]
    have e1 : (List.range (xs.length + 1)).map (fun i => D.ref (ah.length + i)) = D.ref ah.length :: (List.range xs.length).map fun i => D.ref ((ah ++ [o x]).length + i) := by
      rw [List.range_succ_eq_map, List.map_cons, List.map_map]
      congr 1
      refine List.map_congr_left fun i _ => ?_
      simp only [Function.comp, List.length_append, List.length_cons, List.length_nil]
      congr 1
      omega
    rw [List.length_cons, e1]
    simp
end DL
namespace DL
open PySem PySem.Spec PyProof.Rows L2
/-- a loop each of whose turns appends to a list -/
theorem forL_app {α : Type} {g : D → AE → Option AE} {body : FS} {St : List D → AE → AH → Prop} {e : α → D} {Y : α → List D} {N : Nat} : ∀ {xs : List α} {X : List D} {env : AE} {a : AH}, X.length + (xs.flatMap Y).length ≤ N →
    (∀ x ∈ xs, ∀ X env a, X.length + (Y x).length ≤ N → St X env a → ∃ env1 env2 a2, g (e x) env = some env1 ∧ body env1 a = .ok (.nx, env2) a2 ∧ St (X ++ Y x) env2 a2) → St X env a →
    ∃ env' a', forL g body (xs.map e) env a = .ok (.nx, env') a' ∧ St (X ++ xs.flatMap Y) env' a'
  | [], X, env, a, _, _, h0 => ⟨env, a, rfl, by simpa using h0⟩
  | x :: xs, X, env, a, hz, h, h0 => by
    rw [List.flatMap_cons, List.length_append] at hz
    obtain ⟨env1, env2, a2, h1, h2, h3⟩ := h x List.mem_cons_self X env a (by omega) h0
    obtain ⟨env', a', h4, h5⟩ := forL_app (xs := xs) (X := X ++ Y x) (by rw [List.length_append]; omega) (fun y hy => h y (List.mem_cons_of_mem _ hy)) h3
    refine ⟨env', a', ?_, by rw [List.flatMap_cons, ← List.append_assoc]; exact h5⟩
    simp only [List.map_cons, forL, h1, h2, Res.bind_ok]
    exact h4
/-- a loop that changes nothing but its own names -/
theorem forL_same {α : Type} {g : D → AE → Option AE} {body : FS} {St : AE → Prop} {e : α → D} {a : AH} : ∀ {xs : List α} {env : AE}, St env → (∀ x ∈ xs, ∀ env, St env → ∃ env1 env2, g (e x) env = some env1 ∧ body env1 a = .ok (.nx, env2) a ∧ St env2) →
    ∃ env', forL g body (xs.map e) env a = .ok (.nx, env') a ∧ St env'
  | [], env, h0, _ => ⟨env, rfl, h0⟩
  | x :: xs, env, h0, h => by
    obtain ⟨env1, env2, h1, h2, h3⟩ := h x List.mem_cons_self env h0
    obtain ⟨env', h4, h5⟩ := forL_same (xs := xs) h3 fun y hy => h y (List.mem_cons_of_mem _ hy)
    refine ⟨env', ?_, h5⟩
    simp only [List.map_cons, forL, h1, h2, Res.bind_ok]
    exact h4
theorem eNe_dat {x y : D} {p q : PyData} {ah : AH} (h0 : scalD x y = none) (h1 : toPy x = some p) (h2 : toPy y = some q) (s1 : SeqAt.shaped p = true) (s2 : SeqAt.shaped q = true) : oNe x y ah = .ok (.bl (!PyData.eqv p q)) ah := by
  unfold oNe eqD
  simp only [h0, h1, h2, s1, s2, and_self, if_true]
theorem eLstRg {r : FRg} {env : AE} {ah a1 : AH} {i j : Int} (h1 : r env ah = .ok (i, j) a1) (h2 : rgOk i j = true) : iLstRg r env ah = .ok (.lst (rgD i j)) a1 := by
  unfold iLstRg
  rw [h1, Res.bind_ok]
  simp only
  rw [if_pos h2]
theorem eRgg {f g : FE} {env : AE} {ah a1 a2 : AH} {i j : Int} (h1 : f env ah = .ok (.int i) a1) (h2 : g env a1 = .ok (.int j) a2) : iRg2 f g env ah = .ok (i, j) a2 := by
  unfold iRg2
  rw [h1, Res.bind_ok, h2, Res.bind_ok]
end DL
namespace DL
open PySem PySem.Spec PyProof.Rows L2
theorem tup_once (l : Addr) (items : Array Value) (n : Nat) (dd : Option Addr) (sl : Array (Option Value)) (u : Tok) :
    Meets (Builtin.«tuple.__mul__» ⟨[.ref l, .int 1 u], []⟩) (fun _ R s => s.heap.get? l = some { cls := .type "tuple", dict := dd, data := .seq items n, slots := sl } ∧ R (.ok (.ret (.ref l))) s) :=
  .of_wp fun prog w A R s h => by
    obtain ⟨hp, g, d, tk, os⟩ := s
    obtain ⟨hl, h⟩ := h
    have f1 := AutoSeq1.idx_int
    have c1 : (items.isEmpty || ((1 : Int) == 1)) = true := by rw [show ((1 : Int) == 1) = true from rfl, Bool.or_true]
    wp_walk using wpAny_loadPart' hl
    repeat (first
      | (refine wpAny_ite_false (decide_eq_false (by decide)) ?_; wp_walk using wpAny_loadPart' hl)
      | (refine wpAny_ite_true (decide_eq_true c1) ?_; wp_walk using wpAny_loadPart' hl))
    exact ⟨_, rfl, h⟩
theorem tup_never (l : Addr) (items : Array Value) (n : Nat) (dd : Option Addr) (sl : Array (Option Value)) (u : Tok) (c1 : (items.isEmpty || ((0 : Int) == 1)) = false) (c2 : (decide ((0 : Int) ≤ 0) || items.isEmpty) = true) :
    Meets (Builtin.«tuple.__mul__» ⟨[.ref l, .int 0 u], []⟩) (fun _ R s => s.heap.get? l = some { cls := .type "tuple", dict := dd, data := .seq items n, slots := sl } ∧
      R (.ok (.ret (Value.ref s.heap.objs.size))) { s with heap := s.heap.push { cls := Value.type "tuple", data := Data.seq #[] }, toks := s.toks }) :=
  .of_wp fun prog w A R s h => by
    obtain ⟨hp, g, d, tk, os⟩ := s
    obtain ⟨hl, h⟩ := h
    have f1 := AutoSeq1.idx_int
    have hsz : (#[] : Array Value).size ≤ sizeLine := Nat.zero_le _
    wp_walk using wpAny_loadPart' hl
    repeat (first
      | (refine wpAny_ite_false (decide_eq_false (by decide)) ?_; wp_walk using wpAny_loadPart' hl)
      | (refine wpAny_ite_false (decide_eq_false (by rw [c1]; exact Bool.false_ne_true)) ?_; wp_walk using wpAny_loadPart' hl)
      | (refine wpAny_ite_true (decide_eq_true c2) ?_; wp_walk using wpAny_loadPart' hl)
      | (refine wpAny_ite_false (decide_eq_false (Nat.not_lt.mpr hsz)) ?_; wp_walk using wpAny_loadPart' hl))
    exact ⟨_, rfl, h⟩
def rRep01 (K : PySem.W.Frag) : R2 := fun x y H Q => ∃ l k xs, x = .ref l ∧ y = .int k ∧ SqT K H l xs ∧ ((k = 1 ∧ Q (.ref l) H) ∨ (k = 0 ∧ xs ≠ [] ∧ ∀ p, H p = none → Q (.ref p) (upd H p (.tup []))))
section
variable {X : Cx} {W : XW}
theorem op_rep01 : OpR X (binaryOp .Mult) (rRep01 X.K) := by
  intro pnz s σ H x y v u Q I rx ry h
  obtain ⟨l, k, xs, rfl, rfl, hT, h⟩ := h
  cases rx
  obtain ⟨t, rfl⟩ := ry
  obtain ⟨its, r, ⟨⟨cls, dd, data, sl⟩, ho, hc, n, hd⟩, hz⟩ := I.tuple hT
  simp only at hc hd
  subst hc hd
  rcases h with ⟨rfl, q⟩ | ⟨rfl, ne, q⟩
  · refine wpAny_binaryOp_repeat_ref (T := "tuple") (U := "int") (by decide) ⟨_, ho, rfl⟩ (fun z => typeIs_int z 1 t) noFill_tuple_mul F.fills_int_mul F.slot_int_rmul repeat_tuple F.slot_int_index.lookup
      (call_meets F.slot_int_rmul (typeIs_int s 1 t) F.entry_int_rmul (F.args_int_rmul_2 _ _) (int_rmul_tuple 1 t l its.toArray n dd sl)
        ⟨ho, rfl, ⟨_, ho, rfl⟩, call_meets F.slot_tuple_mul ⟨_, ho, rfl⟩ F.entry_tuple_mul (F.args_tuple_mul_2 _ _) (tup_once l its.toArray n dd sl t) ⟨ho, ?_⟩⟩)
    exact ⟨.ref l, H, I, rfl, q⟩
  · have hi : its.toArray.isEmpty = false := by
      cases its with
      | nil => cases r; exact absurd rfl ne
      | cons _ _ => rfl
    refine wpAny_binaryOp_repeat_ref (T := "tuple") (U := "int") (by decide) ⟨_, ho, rfl⟩ (fun z => typeIs_int z 0 t) noFill_tuple_mul F.fills_int_mul F.slot_int_rmul repeat_tuple F.slot_int_index.lookup
      (call_meets F.slot_int_rmul (typeIs_int s 0 t) F.entry_int_rmul (F.args_int_rmul_2 _ _) (int_rmul_tuple 0 t l its.toArray n dd sl)
        ⟨ho, rfl, ⟨_, ho, rfl⟩, call_meets F.slot_tuple_mul ⟨_, ho, rfl⟩ F.entry_tuple_mul (F.args_tuple_mul_2 _ _) (tup_never l its.toArray n dd sl t (by rw [hi]; rfl) (by rw [hi]; rfl)) ⟨ho, ?_⟩⟩)
    exact ⟨.ref s.heap.objs.size, _, I.laid (t' := s.toks) (o := .tup []) (fun b ob z => Heap.get?_push_of_some _ z) (Nat.le_refl _) ⟨Nat.zero_le _, _, .nil, IsTup.new _ _⟩, rfl, q _ (I.hok.fresh (Nat.le_refl _))⟩
/-- x * y, tuples however often -/
def oMulT (x y : D) (ah : AH) : Res D := match y with
  | .int k => match seqD ah x with
    | some (true, xs) => if k = 1 then .ok x ah else if xs ≠ [] ∧ k = 0 then .ok (.tup []) ah else oMul x y ah
    | _ => oMul x y ah
  | _ => oMul x y ah
def rMulT (K : PySem.W.Frag) : R2 := fun x y H Q => rRep01 K x y H Q ∨ rMulA K x y H Q
theorem op_mulT : OpR X (binaryOp .Mult) (rMulT X.K) := op_rep01.or op_mulA
end
section
variable {G : KW} {W : XW}
theorem ok_mulT : OpOk G W (rMulT G.K) oMulT := by
  intro η H ah x y v u Q p rx ry h
  unfold oMulT at h
  split at h
  · rename_i k
    split at h
    · rename_i xs e1
      split at h
      · rename_i hk
        subst hk
        have rx' := rx
        obtain ⟨a, vs, rfl, r1, q1, _⟩ := seq_rel p rx e1
        cases ry
        exact .inl ⟨a, 1, vs, rfl, rfl, q1 rfl, .inl ⟨rfl, post_val p rx' h⟩⟩
      · split at h
        · rename_i hk
          obtain ⟨ne, rfl⟩ := hk
          obtain ⟨a, vs, rfl, r1, q1, _⟩ := seq_rel p rx e1
          cases ry
          exact .inl ⟨a, 0, vs, rfl, rfl, q1 rfl, .inr ⟨rfl, fun z => ne ((nil_rel r1).mpr z), fun q hq => post_tup p .nil h hq⟩⟩
        · exact .inr (ok_mul η H ah x _ v u Q p rx ry h)
    · exact .inr (ok_mul η H ah x _ v u Q p rx ry h)
  · exact .inr (ok_mul η H ah x _ v u Q p rx ry h)
def oDivmod (ds : List D) (ah : AH) : Res D := match ds with
  | [.int i, .int j] => if CDiv i j then .ok (.tup [.int (i / j), .int (i % j)]) ah else .bad
  | _ => .bad
theorem ok_divmod : CaOk G W (fun xs H Q => ∃ i j, xs = [.int i, .int j] ∧ CDiv i j ∧ ∀ p, H p = none → Q (.ref p) (upd H p (.tup [.int (i / j), .int (i % j)]))) oDivmod := by
  intro η H ah ds vs Q p r h
  unfold oDivmod at h
  split at h
  · rename_i i j
    split at h
    · rename_i c
      cases r with
      | cons r1 r =>
        cases r1
        cases r with
        | cons r1 r =>
          cases r1
          cases r
          exact ⟨i, j, rfl, c, fun q hq => post_tup p (.cons (.int _) (.cons (.int _) .nil)) h hq⟩
    · exact h.elim
  · exact h.elim
def oSortedR := oL1 intsD fun ns => some (.lst ((ns.mergeSort (fun a b => decide (b ≤ a))).map D.int))
theorem sort_down {ns ms : List Int} (h1 : ms.Perm ns) (h2 : ms.Pairwise (· ≥ ·)) : ms = ns.mergeSort fun a b => decide (b ≤ a) := by
  refine List.Perm.eq_of_pairwise (le := fun a b : Int => b ≤ a) (fun a b _ _ x y => Int.le_antisymm y x) h2 ?_ (h1.trans (List.mergeSort_perm _ _).symm)
  have := List.pairwise_mergeSort (le := fun a b : Int => decide (b ≤ a)) (fun a b c h k => by simp at *; omega) (fun a b => by simp; omega) ns
  exact this.imp fun h => of_decide_eq_true h
theorem ok_sortedR : CaOk G W (fun vs H Q => rSortedKw G.K true [.bl true] vs [.bl true] H Q) oSortedR := ok_L1 fun η H ah a us xs ns d Q p r q e1 e2 h => by
  cases e2
  obtain rfl := ints_rel r e1
  refine ⟨a, ns, rfl, rfl, q, fun ms l h1 h2 hl => ?_⟩
  rw [sort_down h1 h2]
  exact post_fz p (RelAll.ints _) h hl
end
section
variable {X : Cx} {W : XW} {e : Expr} {f : FE} {p pos : Pos}
theorem j_sortedR {k1 : Nat} {p1 p2 : Pos} (hg : Gl X "sorted") (hm : X.mg "sorted" = none) (he : PE X e (SX X W f))
    (h1 : backTo pos (starEach [e] X.env) = (false, eval e X.env) :: backTo pos (starEach [] X.env) := by rfl) (h2 : (backTo pos (starEach [e] X.env)).any (·.1) = false := by rfl) (h3 : starEach [e] X.env = (false, eval e X.env) :: starEach [] X.env := by rfl) :
    PE X (.Call (.Name "sorted" p) [e] [⟨some "reverse", .Constant (.bool true) k1 p1, p2⟩] pos) (SX X W (iCall oSortedR [f])) := by
  refine PE.imp (pe_fz (pe_callBK (ks := [Str.ofString "reverse"]) (cr_sortedRev (b := true)) hg hm boot_sorted (a_cons he a_nil h3) (pk_cons pe_bl pk_nil) (by decide) (by decide) h1 h2)) fun S H Q ⟨env, ah, η, en, pk, h⟩ => ?_
  exact ⟨env, ah, η, en, pk, h.bind.imp0 fun ds η1 H1 ah1 m1 p1 q1 => fun vs rs => ok_sortedR η1 H1 ah1 ds vs Q p1 rs q1⟩
end
section
variable {X : Cx} {W : XW} {tg : Expr} {fs : List FE} {p pos : Pos} {G : KW} {η : List Addr} {H : Hp}
theorem rangeC_len (lo c : Int) (n : Nat) : (rangeC lo c n).length = n := by simp [rangeC]
theorem it_rangeC {lo c : Int} {n : Nat} : ItOk G η H (Itc lo c n) (rangeC lo c n) where
  go := fun i d hd H' e => by
    have hi : i < n := by have := (List.getElem?_eq_some_iff.mp hd).1; rw [rangeC_len] at this; exact this
    refine ⟨hi, fun x H'' y => ?_⟩
    obtain ⟨rfl, rfl⟩ := y
    simp [rangeC, hi] at hd
    subst hd
    exact ⟨Same.refl _, .int _⟩
  stop := fun i hi H' e => by rw [rangeC_len] at hi; exact hi
/-- how many there are, where the model's own bounds hold -/
def rg3B (i j c : Int) : Bool := decide (c ≠ 0) && (decide (c.natAbs < 1073741824) && Builtin.Range.small i j c)
def rg3N (i j c : Int) : Nat := (Builtin.Range.rangeSize i j c).toNat
def iRange3 (fs : List FE) : FI := fun env ah => (iArgs fs env ah).bind fun ds ah1 => match ds with
  | [.int i, .int j, .int c] => if rg3B i j c = true ∧ Builtin.Range.rangeSize i j c = (rg3N i j c : Nat) then .ok (rangeC i c (rg3N i j c)) ah1 else .bad
  | _ => .bad
theorem i_range3 {a b c : Expr} (hg : Gl X "range") (hm : X.mg "range" = none) (ha : PA X [a, b, c] (AX' X W fs)) (hs : starEach [a, b, c] X.env = (false, eval a X.env) :: starEach [b, c] X.env := by rfl) (hs2 : (backTo pos (starEach [b, c] X.env)).any (·.1) = false := by rfl) :
    PI X tg (.Call (.Name "range" p) [a, b, c] [] pos) (IX X W (iRange3 fs)) :=
  PI.imp (pi_range3 hg hm ha hs hs2) fun S H R ⟨env, ah, η, en, pk, h⟩ =>
  ⟨env, ah, η, en, pk, h.bind.imp0 fun ds η1 H1 ah1 m1 p1 q1 => fun vs rs => by
    split at q1
    · rename_i i j c
      split at q1
      · rename_i hc
        cases rs with
        | cons r rs =>
          cases r
          cases rs with
          | cons r rs =>
            cases r
            cases rs with
            | cons r rs =>
              cases r; cases rs
              obtain ⟨z1, z2⟩ := hc
              unfold rg3B at z1
              simp only [Bool.and_eq_true, decide_eq_true_eq] at z1
              exact ⟨i, j, c, _, rfl, ⟨z1.1, z1.2.1, z1.2.2, z2⟩, q1.at p1 _ it_rangeC⟩
      · exact q1.elim
    · exact q1.elim⟩
end
end DL
namespace DL
open PySem PySem.Spec PyProof.Rows L2
def iTupRg3 (fs : List FE) : FE := fun env ah => (iArgs fs env ah).bind fun ds ah1 => match ds with
  | [.int i, .int j, .int c] => if (rg3B i j c = true ∧ Builtin.Range.rangeSize i j c = (rg3N i j c : Nat)) ∧ rg3N i j c ≤ 2 ^ 24 then .ok (.tup (rangeC i c (rg3N i j c))) ah1 else .bad
  | _ => .bad
def tTupRg3 (ta : TA) : TE := fun σ H Q => ta σ H fun vs H1 => ∃ (i j c : Int) (n : Nat), vs = [.int i, .int j, .int c] ∧ (RgC i j c n ∧ n ≤ 2 ^ 24) ∧ ∀ q, H1 q = none → Q (.ref q) (upd H1 q (.tup ((List.range n).map fun (k : Nat) => V.int (i + (k : Int) * c))))
section
variable {X : Cx} {W : XW} {a b c : Expr} {ta : TA} {fs : List FE} {p p2 pos pos2 : Pos}
theorem vals_rgC {i c : Int} {n : Nat} {acc : Array Value} (h : ItemsOf (fun k v => ∃ t, v = .int (i + k * c) t) acc n) : Vals ((List.range n).map fun (k : Nat) => V.int (i + (k : Int) * c)) acc.toList := by
  have e : acc.toList.length = n := by rw [Array.length_toList]; exact h.1
  rw [← e]
  refine vals_of_get acc.toList _ fun j u hj => ?_
  obtain ⟨t, rfl⟩ := h.2 j u (by rw [← hj, Array.getElem?_toList])
  exact ⟨t, rfl⟩
theorem pe_tupRg3 (hc : X.calm = true) (hgt : Gl X "tuple") (hmt : X.mg "tuple" = none) (hg : Gl X "range") (hm : X.mg "range" = none) (ha : PA X [a, b, c] ta)
    (hs : starEach [a, b, c] X.env = (false, eval a X.env) :: starEach [b, c] X.env := by rfl) (hpl : (backTo pos (starEach [b, c] X.env)).any (·.1) = false := by rfl)
    (na : starEach [.Call (.Name "range" p) [a, b, c] [] pos] X.env = (false, eval (.Call (.Name "range" p) [a, b, c] [] pos) X.env) :: starEach [] X.env := by rfl) :
    PE X (.Call (.Name "tuple" p2) [.Call (.Name "range" p) [a, b, c] [] pos] [] pos2) (tTupRg3 ta) := by
  refine ⟨fun pins s σ H Q I h => ?_⟩
  have rg : wpAny (model X.prog X.w) X.A (eval (.Call (.Name "range" p) [a, b, c] [] pos) X.env) (fun x s' => ∃ r i j k t u v n H', x = .ref r ∧ IsRange s'.heap r i j k t u v ∧ Inv X pins σ H' s' ∧ (RgC i j k n ∧ n ≤ 2 ^ 24) ∧ ∀ q, H' q = none → Q (.ref q) (upd H' q (.tup ((List.range n).map fun (l : Nat) => V.int (i + (l : Int) * k))))) X.xe s := by
    refine Call_ (ld_blt I hg hm boot_range (PyProof.Rows.callWith_type1 (thn (ha.run pos pins s σ H _ I h) fun us s1 ⟨vs, H1, I1, r1, q1⟩ => ?_) hs hpl))
    obtain ⟨i, j, k, n, e, ok, q⟩ := q1
    subst e
    cases r1 with
    | cons r rr =>
      cases rr with
      | cons r' rr =>
        cases rr with
        | cons r'' rr =>
          cases rr
          obtain ⟨t, rfl⟩ := r
          obtain ⟨t', rfl⟩ := r'
          obtain ⟨t'', rfl⟩ := r''
          refine call_range_3 ok.1.1 ?_ (.inl (PyProof.noPylong_small ok.1.2.1))
          exact ⟨_, i, j, k, _, _, _, n, H1, rfl, IsRange.new .., I1.kept fun b u e => Heap.get?_push_of_some _ e, ok, q⟩
  refine Call_ (ld_blt I hgt hmt boot_tuple (PyProof.Rows.callWith_type1 (args_cons (thn rg fun x s1 ⟨r, i, j, k, t, u, v, n, H1, ex, hr, I1, ok, q⟩ => args_nil ?_) na) na))
  subst ex
  obtain ⟨⟨c0, c1, c2, c3⟩, b5⟩ := ok
  refine call_tuple_range (n := n) (I1.ok.hd hc) hr c2 c3 b5 fun h' tk acc hk hi => ?_
  have I2 : Inv X pins σ H1 { s1 with heap := h', toks := tk } := I1.kept hk
  refine ⟨.ref h'.objs.size, upd H1 h'.objs.size (.tup _), I2.laid (t' := tk) (fun c o e => Heap.get?_push_of_some _ e) (Nat.le_refl _) (show ObjOk X.prog X.w _ _ _ (.tup _) from ⟨?_, acc.toList, vals_rgC hi, ?_⟩), rfl, q _ (I2.hok.fresh (Nat.le_refl _))⟩
  · rw [List.length_map, List.length_range, sizeLine_eq]; omega
  · rw [Array.toArray_toList]; exact IsTup.new _ _
theorem rangeC_rel {G : KW} {η : List Addr} {H : Hp} (i c : Int) (n : Nat) : RelAll G η H (rangeC i c n) ((List.range n).map fun (k : Nat) => V.int (i + (k : Int) * c)) := by
  have e1 : rangeC i c n = ((List.range n).map fun (k : Nat) => i + (k : Int) * c).map D.int := by unfold rangeC; rw [List.map_map]; rfl
  have e2 : ((List.range n).map fun (k : Nat) => V.int (i + (k : Int) * c)) = ((List.range n).map fun (k : Nat) => i + (k : Int) * c).map V.int := by rw [List.map_map]; rfl
  rw [e1, e2]
  exact RelAll.ints _
theorem j_tupRg3 (hc : X.calm = true) (hgt : Gl X "tuple") (hmt : X.mg "tuple" = none) (hg : Gl X "range") (hm : X.mg "range" = none) (ha : PA X [a, b, c] (AX' X W fs))
    (hs : starEach [a, b, c] X.env = (false, eval a X.env) :: starEach [b, c] X.env := by rfl) (hpl : (backTo pos (starEach [b, c] X.env)).any (·.1) = false := by rfl)
    (na : starEach [.Call (.Name "range" p) [a, b, c] [] pos] X.env = (false, eval (.Call (.Name "range" p) [a, b, c] [] pos) X.env) :: starEach [] X.env := by rfl) :
    PE X (.Call (.Name "tuple" p2) [.Call (.Name "range" p) [a, b, c] [] pos] [] pos2) (SX X W (iTupRg3 fs)) :=
  PE.imp (pe_fz (pe_tupRg3 hc hgt hmt hg hm ha hs hpl na)) fun S H Q ⟨env, ah, η, en, pk, h⟩ => ⟨env, ah, η, en, pk, h.bind.imp0 fun ds η1 H1 ah1 m1 p1 q1 => fun vs rs => by
    split at q1
    · rename_i i j c
      split at q1
      · rename_i hc
        cases rs with
        | cons r rs =>
          cases r
          cases rs with
          | cons r rs =>
            cases r
            cases rs with
            | cons r rs =>
              cases r; cases rs
              obtain ⟨⟨z1, z2⟩, z3⟩ := hc
              unfold rg3B at z1
              simp only [Bool.and_eq_true, decide_eq_true_eq] at z1
              exact ⟨i, j, c, _, rfl, ⟨⟨z1.1, z1.2.1, z1.2.2, z2⟩, z3⟩, fun q hq => post_tup p1 (rangeC_rel _ _ _) q1 hq⟩
      · exact q1.elim
    · exact q1.elim⟩
end
def compL2 (g : D → AE → Option AE) (t : FT) (fi1 : FI) (g1 : D → AE → Option AE) (t1 : FT) (f : FE) (vs1 : List Nat) (env : AE) : List D → List D → AH → Res (List D)
  | [], acc, ah => .ok acc ah
  | d :: ds, acc, ah => match g d env with
    | none => .bad
    | some env1 => (t env1 ah).nox.bind fun b ah1 => if b = true then (fi1 env1 ah1).nox.bind fun ds1 ah2 => (compL g1 t1 f (wipeA env1 vs1) ds1 acc ah2).bind fun acc1 ah3 => compL2 g t fi1 g1 t1 f vs1 env ds acc1 ah3 else compL2 g t fi1 g1 t1 f vs1 env ds acc ah1
def iLc2 (fi : FI) (g : D → AE → Option AE) (t : FT) (fi1 : FI) (g1 : D → AE → Option AE) (t1 : FT) (f : FE) (vs vs1 : List Nat) : FE := fun env ah => (fi env ah).bind fun ds ah1 => (compL2 g t fi1 g1 t1 f vs1 (wipeA env vs) ds [] ah1).bind fun xs ah2 => .ok (.lst xs) ah2
section
variable {X : Cx} {W : XW} {elt tg iter tg1 iter1 : Expr} {ifs ifs1 : List Expr} {scope : Scope} {own : List (Str × Nat)} {pos : Pos} {fi fi1 : FI} {q qb : Pt} {ft ft1 : FT} {f : FE} {vs1 : List Nat}
theorem bind_bind {α β γ : Type} (r : Res α) (g1 : α → AH → Res β) (g2 : β → AH → Res γ) : (r.bind g1).bind g2 = r.bind fun a h => (g1 a h).bind g2 := by cases r <;> rfl
theorem lc2_loop {β : Type} {G : KW} {vs vs1 : List Nat} {S : L2.St} {H : Hp} {R : VK} {k : List D → AH → Res β} {Q : β → List Addr → Hp → AH → Prop} {env : AE} {ah : AH} {η : List Addr}
    (en : EnvOk G η H env S) (pk : HpOk G η H ah) (hq : ∀ i ∈ q.ix, i ∈ vs) (hq1 : ∀ i ∈ qb.ix, i ∈ vs1) (h : Post G W η H ((fi env ah).bind fun ds ah1 => (compL2 (ptB q) ft fi1 (ptB qb) ft1 f vs1 (wipeA env vs) ds [] ah1).bind k) Q)
    (fin : ∀ (Dd : Addr) (η1 η' : List Addr) (H1 H' : Hp) (acc : List V) (xs : List D) (ah' : AH), Mv η H η1 H1 → H1 Dd = none → H' Dd = some (.lst acc) → Dd ∉ η' → RelAll G η' H' xs acc → Mv η1 H1 η' H' → HpOk G η' H' ah' → Post G W η1 H1 (k xs ah') Q → R (.ref Dd) H') :
    tLc2 (IJ G W fi) (GJ G q.ix (ptB q)) (TJ G noW ft) (IJ G noW fi1) (GJ G qb.ix (ptB qb)) (TJ G noW ft1) (SJ G noW f) vs vs1 S H R := by
  refine ⟨env, ah, η, en, pk, h.bind.imp0 fun ds η1 H1 ah1 m1 p1 q1 => fun J hJ => ?_⟩
  intro Dd hD
  have hD0 := same_new (o := .lst []) hD
  have en0 := (en.mv m1).wipe vs
  refine ⟨fun i m H' => m = ds.length - i ∧ i ≤ ds.length ∧ ∃ acc xs ah η', H' Dd = some (.lst acc) ∧ Dd ∉ η' ∧ RelAll G η' H' xs acc ∧ HpOk G η' H' ah ∧ Mv η1 H1 η' H' ∧ Post G W η1 H1 ((compL2 (ptB q) ft fi1 (ptB qb) ft1 f vs1 (wipeA env vs) (ds.drop i) xs ah).bind k) Q,
    ⟨ds.length, by simp, Nat.zero_le _, [], [], ah1, η1, upd_same, p1.fresh hD, .nil, p1.same hD0, .same hD0, q1⟩, ?_⟩
  rintro i m H2 ⟨rfl, hi, acc, xs, ah2, η2, hD2, nD, r2, p2, m2, q2⟩
  by_cases hlt : i < ds.length
  · have hd : ds[i]? = some ds[i] := by simp [hlt]
    obtain ⟨hgo, hy⟩ := hJ.go i _ hd H2 m2.ext
    refine .inr ⟨hgo, fun H' => i + 1 ≤ ds.length ∧ ∃ acc xs ah η', H' Dd = some (.lst acc) ∧ Dd ∉ η' ∧ RelAll G η' H' xs acc ∧ HpOk G η' H' ah ∧ Mv η1 H1 η' H' ∧ Post G W η1 H1 ((compL2 (ptB q) ft fi1 (ptB qb) ft1 f vs1 (wipeA env vs) (ds.drop (i + 1)) xs ah).bind k) Q,
      fun H' k => ⟨ds.length - (i + 1), by omega, rfl, k⟩, fun x H3 y => ?_⟩
    obtain ⟨sm, rx⟩ := hy x H3 y
    rw [List.drop_eq_getElem_cons hlt] at q2
    simp only [compL2] at q2
    split at q2
    · exact q2.elim
    · rename_i env3 e3
      have m3 : Mv η2 H2 η2 H3 := .same sm
      have m13 := m2.trans m3
      refine ⟨wipeA env vs, η2, ds[i], env3, en0.mv m13, rx.ext m2.pre (Ext.refl _), e3, fun S3 en3 kz => ⟨?_, ?_⟩⟩
      · exact wipe_kz (kz.mono hq)
      · rw [bind_bind] at q2
        have q3 := Post.bindB q2 m13
        refine ⟨env3, ah2, η2, en3, p2.same sm, (Post.nox q3).imp0 fun b η4 H4 ah4 m4 p4 q4 => ?_⟩
        have m14 := m13.trans m4
        have hD4 : H4 Dd = some (.lst acc) := m4.frm _ _ (m3.frm _ _ hD2 nD) nD
        have nD4 : Dd ∉ η4 := fun z => (m4.new _ z).elim nD fun w => by rw [m3.frm _ _ hD2 nD] at w; cases w
        cases b with
        | true =>
          simp only [if_true] at q4 ⊢
          rw [bind_bind] at q4
          have q5 := Post.bindB q4 m14
          refine ⟨env3, ah4, η4, en3.mv m4, p4, (Post.nox q5).imp0 fun ds1 η5 H5 ah5 m5 p5 q6 => fun J1 hJ1 => ?_⟩
          have m15 := m14.trans m5
          have hD5 : H5 Dd = some (.lst acc) := m5.frm _ _ hD4 nD4
          have nD5 : Dd ∉ η5 := fun z => (m5.new _ z).elim nD4 fun w => by rw [hD4] at w; cases w
          have r5 : RelAll G η5 H5 xs acc := (r2.mv m3).mv (m4.trans m5)
          have en5 : EnvOk G η5 H5 (wipeA env3 vs1) (L2.wipe S3 vs1) := ((en3.mv m4).mv m5).wipe vs1
          rw [bind_bind] at q6
          -- what is left behind the inner loop
          generalize hk : (fun (acc1 : List D) (ah3 : AH) => (compL2 (ptB q) ft fi1 (ptB qb) ft1 f vs1 (wipeA env vs) (ds.drop (i + 1)) acc1 ah3).bind k) = k1 at q6
          let I : Nat → Hp → Prop := fun j H' => j ≤ ds1.length ∧ ∃ acc xs ah η', H' Dd = some (.lst acc) ∧ Dd ∉ η' ∧ RelAll G η' H' xs acc ∧ HpOk G η' H' ah ∧ Mv η1 H1 η' H' ∧ η5 <+: η' ∧ Ext H5 H' ∧ Post G W η1 H1 ((compL (ptB qb) ft1 f (wipeA env3 vs1) (ds1.drop j) xs ah).bind k1) Q
          refine ⟨fun j n H' => n = ds1.length - j ∧ I j H', ⟨ds1.length, by simp, Nat.zero_le _, acc, xs, ah5, η5, hD5, nD5, r5, p5, m15, List.prefix_refl _, Ext.refl _, q6⟩, ?_⟩
          rintro j n H6 ⟨rfl, hj, acc1, xs1, ah6, η6, hD6, nD6, r6, p6, m16, pre56, ext56, q7⟩
          by_cases hlt1 : j < ds1.length
          · have hd1 : ds1[j]? = some ds1[j] := by simp [hlt1]
            obtain ⟨hgo1, hy1⟩ := hJ1.go j _ hd1 H6 ext56
            refine .inr ⟨hgo1, I (j + 1), fun H' k => ⟨ds1.length - (j + 1), by omega, rfl, k⟩, fun x1 H7 y1 => ?_⟩
            obtain ⟨sm1, rx1⟩ := hy1 x1 H7 y1
            rw [List.drop_eq_getElem_cons hlt1] at q7
            simp only [compL] at q7
            split at q7
            · exact q7.elim
            · rename_i env7 e7
              have m7 : Mv η6 H6 η6 H7 := .same sm1
              have m17 := m16.trans m7
              have en7 : EnvOk G η6 H7 (wipeA env3 vs1) (L2.wipe S3 vs1) := ⟨en5.len, fun i d e => by
                obtain ⟨w, h1, h2⟩ := en5.ok i d e
                exact ⟨w, h1, h2.ext pre56 (ext56.trans m7.ext)⟩⟩
              refine ⟨wipeA env3 vs1, η6, ds1[j], env7, en7, rx1.ext pre56 (Ext.refl _), e7, fun S8 en8 kz8 => ⟨wipe_kz (kz8.mono hq1), ?_⟩⟩
              rw [bind_bind] at q7
              have q8 := Post.bindB q7 m17
              refine ⟨env7, ah6, η6, en8, p6.same sm1, (Post.nox q8).imp0 fun b η9 H9 ah9 m9 p9 q9 => ?_⟩
              have m19 := m17.trans m9
              have hD9 : H9 Dd = some (.lst acc1) := m9.frm _ _ (m7.frm _ _ hD6 nD6) nD6
              have nD9 : Dd ∉ η9 := fun z => (m9.new _ z).elim nD6 fun w => by rw [m7.frm _ _ hD6 nD6] at w; cases w
              cases b with
              | true =>
                simp only [if_true] at q9 ⊢
                rw [bind_bind] at q9
                have q10 := Post.bindB q9 m19
                refine ⟨env7, ah9, η9, en8.mv m9, p9, (Post.nox q10).imp0 fun z η10 H10 ah10 m10 p10 q11 => fun w rw' => ?_⟩
                have hD10 : H10 Dd = some (.lst acc1) := m10.frm _ _ hD9 nD9
                have nD10 : Dd ∉ η10 := fun z => (m10.new _ z).elim nD9 fun w => by rw [hD9] at w; cases w
                have r10 : RelAll G η10 H10 xs1 acc1 := (r6.mv m7).mv (m9.trans m10)
                split at q11
                · rename_i hz
                  have E : Ext H10 (upd H10 Dd (.lst (acc1 ++ [w]))) := Ext.upd hD10 (fun _ z => nomatch z) (fun _ _ z => nomatch z)
                  exact ⟨acc1, hD10, by rw [← r6.length]; exact hz, by omega, acc1 ++ [w], xs1 ++ [z], ah10, η10, upd_same, nD10, (r10.snoc rw').ext (List.prefix_refl _) E, p10.side nD10 hD10 (fun _ z => nomatch z) (fun _ _ z => nomatch z), (m19.trans m10).side hD hD10, pre56.trans ((m7.trans m9).trans m10).pre, (ext56.trans ((m7.trans m9).trans m10).ext).trans E, q11⟩
                · exact q11.elim
              | false =>
                rw [if_neg Bool.false_ne_true] at q9
                dsimp only
                rw [if_neg Bool.false_ne_true]
                exact ⟨by omega, acc1, xs1, ah9, η9, hD9, nD9, r6.mv (m7.trans m9), p9, m19, pre56.trans (m7.trans m9).pre, ext56.trans (m7.trans m9).ext, q9⟩
          · have hj2 : ds1.length ≤ j := by omega
            rw [List.drop_of_length_le hj2] at q7
            refine .inl ⟨hJ1.stop j hj2 H6 ext56, by omega, acc1, xs1, ah6, η6, hD6, nD6, r6, p6, m16, ?_⟩
            rw [← hk] at q7
            exact q7
        | false =>
          rw [if_neg Bool.false_ne_true] at q4
          dsimp only
          rw [if_neg Bool.false_ne_true]
          exact ⟨by omega, acc, xs, ah4, η4, hD4, nD4, r2.mv (m3.trans m4), p4, m14, q4⟩
  · have hi2 : ds.length ≤ i := by omega
    rw [List.drop_of_length_le hi2] at q2
    exact .inl ⟨hJ.stop i hi2 H2 m2.ext, fin Dd η1 η2 H1 H2 acc xs ah2 m1 hD hD2 nD r2 m2 p2 q2⟩
theorem lc2_fz {G : KW} {vs vs1 : List Nat} {S : L2.St} {H : Hp} {Q : VK} (hq : ∀ i ∈ q.ix, i ∈ vs) (hq1 : ∀ i ∈ qb.ix, i ∈ vs1) (h : SJ G W (iLc2 fi (ptB q) ft fi1 (ptB qb) ft1 f vs vs1) S H Q) : tLc2 (IJ G W fi) (GJ G q.ix (ptB q)) (TJ G noW ft) (IJ G noW fi1) (GJ G qb.ix (ptB qb)) (TJ G noW ft1) (SJ G noW f) vs vs1 S H (QF Q) := by
  obtain ⟨env, ah, η, en, pk, h⟩ := h
  refine lc2_loop en pk hq hq1 h fun Dd η1 η' H1 H' acc xs ah' m hD hD' nD r mv p k => ?_
  refine .inr ⟨Dd, .lst acc, rfl, hD', trivial, fun od => ?_⟩
  have E : Ext H' (upd H' Dd (.frz od (.lst acc))) := Ext.upd hD' (fun _ z => nomatch z) (fun _ _ z => nomatch z)
  exact k η' _ (mv.side hD hD') (p.side nD hD' (fun _ z => nomatch z) (fun _ _ z => nomatch z)) _ (.lst ⟨od, upd_same⟩ (r.ext (List.prefix_refl _) E))
theorem j_lc2 (hc : X.calm = true) (hN : X.N.Nodup) (hi : PI X tg iter (IX X W fi)) (ok : BlkOk X.N X.env.scope scope own) (hq : ∀ i ∈ q.ix, i ∈ own.map (·.2)) (hv : ∀ i ∈ qb.ix, i ∈ own.map (·.2))
    (hg : ∀ (s : Shared) (H : Hp) (C : Addr) (cl : List (Str × Addr)) (fp : List Addr), PG (X.blk s H scope (compEnvC scope cl C X.env) fp) tg (GP X q)) (ht : ∀ (s : Shared) (H : Hp) (C : Addr) (cl : List (Str × Addr)) (fp : List Addr), PTs (X.blk s H scope (compEnvC scope cl C X.env) fp) ifs (TX X noW ft))
    (hi1 : ∀ (s : Shared) (H : Hp) (C : Addr) (cl : List (Str × Addr)) (fp : List Addr), PI (X.blk s H scope (compEnvC scope cl C X.env) fp) tg1 iter1 (IX X noW fi1))
    (hg1 : ∀ (s : Shared) (H : Hp) (C : Addr) (cl : List (Str × Addr)) (fp : List Addr), PG (X.blk s H scope (compEnvC scope cl C X.env) fp) tg1 (GP X qb)) (ht1 : ∀ (s : Shared) (H : Hp) (C : Addr) (cl : List (Str × Addr)) (fp : List Addr), PTs (X.blk s H scope (compEnvC scope cl C X.env) fp) ifs1 (TX X noW ft1))
    (he : ∀ (s : Shared) (H : Hp) (C : Addr) (cl : List (Str × Addr)) (fp : List Addr), PE (X.blk s H scope (compEnvC scope cl C X.env) fp) elt (SX X noW f)) (hs : ∀ x, foldedSetIterable iter X.env x = pure x := by intro _; rfl) (hs1 : ∀ env x, foldedSetIterable iter1 env x = pure x := by intro _ _; rfl) :
    PE X (.ListComp elt [⟨tg, iter, ifs, 0⟩, ⟨tg1, iter1, ifs1, 0⟩] scope pos) (SX X W (iLc2 fi (ptB q) ft fi1 (ptB qb) ft1 f (own.map (·.2)) qb.ix)) := PE.imp (pe_fz (pe_lc2 hc hN hi ok hv hg ht hi1 hg1 ht1 he hs hs1)) fun S H Q h => lc2_fz hq (fun _ h => h) h
end
end DL
namespace DL
open PySem PySem.Spec PyProof.Rows L2
def iNewT : FE := fun _ ah => .ok (.ref ah.length) (ah ++ [.dt [] []])
def iNewK : FE := fun _ ah => .ok (.ref ah.length) (ah ++ [.dk [] []])
section
variable {X : Cx} {W : XW} {pos : Pos}
theorem j_newT : PE X (.Dict [] [] pos) (SX X W iNewT) := PE.imp pe_dnewT fun S H Q ⟨env, ah, η, en, pk, h⟩ a ha => by
  have m : Mv η H (η ++ [a]) (upd H a (.dT [])) := .made ha
  refine h (η ++ [a]) _ m (pk.new ha ⟨[], upd_same, rfl, .nil⟩) _ (.ref ?_)
  rw [← pk.len, List.getElem?_append_right (Nat.le_refl _)]
  simp
theorem j_newK : PE X (.Dict [] [] pos) (SX X W iNewK) := PE.imp pe_dnewK fun S H Q ⟨env, ah, η, en, pk, h⟩ a ha => by
  have m : Mv η H (η ++ [a]) (upd H a (.dK [])) := .made ha
  refine h (η ++ [a]) _ m (pk.new ha ⟨[], upd_same, rfl, .nil⟩) _ (.ref ?_)
  rw [← pk.len, List.getElem?_append_right (Nat.le_refl _)]
  simp
end
theorem ptV_len {κ : Type} [DecidableEq κ] : ∀ (ks : List κ) (ds : List D) (q : κ) (e : D), ks.length = ds.length → (ptV ks ds q e).length = ds.length
  | [], [], _, _, _ => rfl
  | [], _ :: _, _, _, h => by simp at h
  | _ :: _, [], _, _, h => by simp at h
  | k :: ks, d :: ds, q, e, h => by
    unfold ptV
    rw [List.length_cons, List.length_cons, ptV_len ks ds q e (by simpa using h)]
theorem lk_ptV {κ : Type} [DecidableEq κ] : ∀ (ks : List κ) (ds : List D) (q q' : κ) (e : D), ks.length = ds.length → hasD ks q = true → lkD ks (ptV ks ds q e) q' = if q' = q then some e else lkD ks ds q'
  | [], _, _, _, _, _, h => by simp [hasD] at h
  | _ :: _, [], _, _, _, h, _ => by simp at h
  | k :: ks, d :: ds, q, q', e, h, hh => by
    have hl : ks.length = ds.length := by simpa using h
    unfold ptV lkD
    by_cases c : k = q'
    · rw [if_pos c, if_pos c]
      by_cases c2 : k = q
      · rw [if_pos c2, if_pos (c.symm.trans c2)]
      · rw [if_neg c2, if_neg fun z => c2 (c.trans z)]
    · rw [if_neg c, if_neg c]
      by_cases c2 : hasD ks q = true
      · exact lk_ptV ks ds q q' e hl c2
      · have kq : k = q := by
          unfold hasD at hh c2
          rw [List.any_cons, Bool.or_eq_true] at hh
          rcases hh with z | z
          · exact of_decide_eq_true z
          · exact absurd z c2
        have n : ∀ (ks : List κ) (ds : List D), ks.length = ds.length → ¬ hasD ks q = true → ptV ks ds q e = ds := fun ks => by
          induction ks with
          | nil => intro ds hl _; cases ds with
            | nil => rfl
            | cons _ _ => simp at hl
          | cons k ks ih => intro ds hl hn; cases ds with
            | nil => simp at hl
            | cons d ds =>
              unfold hasD at hn
              rw [List.any_cons, Bool.or_eq_true, not_or] at hn
              unfold ptV
              rw [if_neg fun z => hn.1 (decide_eq_true z), ih ds (by simpa using hl) hn.2]
        rw [n ks ds hl c2, if_neg fun z => c (kq.trans z.symm)]
theorem lk_snoc {κ : Type} [DecidableEq κ] : ∀ (ks : List κ) (ds : List D) (q q' : κ) (e : D), ks.length = ds.length → ¬ hasD ks q = true → lkD (ks ++ [q]) (ds ++ [e]) q' = if q' = q then some e else lkD ks ds q'
  | [], [], q, q', e, _, _ => by
    show (if q = q' then some e else none) = if q' = q then some e else none
    by_cases c : q = q'
    · rw [if_pos c, if_pos c.symm]
    · rw [if_neg c, if_neg fun z => c z.symm]
  | [], _ :: _, _, _, _, h, _ => by simp at h
  | _ :: _, [], _, _, _, h, _ => by simp at h
  | k :: ks, d :: ds, q, q', e, h, hn => by
    unfold hasD at hn
    rw [List.any_cons, Bool.or_eq_true, not_or] at hn
    rw [List.cons_append, List.cons_append]
    unfold lkD
    rw [lk_snoc ks ds q q' e (by simpa using h) hn.2]
    by_cases c : k = q'
    · rw [if_pos c, if_pos c, if_neg fun z => hn.1 (decide_eq_true (c.trans z))]
    · rw [if_neg c, if_neg c]
theorem lk_put {κ : Type} [DecidableEq κ] {ks : List κ} {ds : List D} (q q' : κ) (e : D) (h : ks.length = ds.length) : lkD (ptD ks ds q e).1 (ptD ks ds q e).2 q' = if q' = q then some e else lkD ks ds q' := by
  unfold ptD
  by_cases c : hasD ks q = true
  · rw [if_pos c]; exact lk_ptV ks ds q q' e h c
  · rw [if_neg c]; exact lk_snoc ks ds q q' e h c
theorem put_len {κ : Type} [DecidableEq κ] {ks : List κ} {ds : List D} (q : κ) (e : D) (h : ks.length = ds.length) : (ptD ks ds q e).1.length = (ptD ks ds q e).2.length ∧ (ptD ks ds q e).1.length ≤ ks.length + 1 := by
  unfold ptD
  by_cases c : hasD ks q = true
  · rw [if_pos c]
    exact ⟨by rw [ptV_len ks ds q e h]; exact h, Nat.le_succ _⟩
  · rw [if_neg c]
    exact ⟨by simp [h], by simp⟩
theorem put_dt {n : Nat} {ah : AH} {ks : List (List Key)} {ds : List D} {zs : List D} {q : List Key} {e : D} (h : ah[n]? = some (.dt ks ds)) (hk : keysL zs = some q) (hl : ks.length < sizeLine) : putD (.ref n) (.tup zs) e ah = some (ah.set n (.dt (ptD ks ds q e).1 (ptD ks ds q e).2)) := by
  unfold putD
  simp only [h, hk]
  rw [if_pos hl]
theorem get_dt {ah : AH} {ks : List (List Key)} {ds : List D} {zs : List D} {q : List Key} {e : D} (hk : keysL zs = some q) (hl : lkD ks ds q = some e) : oIx (.dt ks ds) (.tup zs) ah = .ok e ah := by
  unfold oIx dgD dkD dtD
  simp only [hk, hl]
end DL
namespace DL
open PySem PySem.Spec PyProof.Rows L2
def isDD (ah : AH) (d : D) : Bool := (dkD ah d).isSome || (dtD ah d).isSome
def iGet1 (fo f : FE) : FE := fun env ah => (fo env ah).bind fun d ah1 => if isDD ah1 d = true then (f env ah1).bind fun k ah2 => match dgD ah2 d k with
  | some o => .ok (o.getD .non) ah2
  | none => .bad else .bad
def iGet2 (fo f fx : FE) : FE := fun env ah => (fo env ah).bind fun d ah1 => if isDD ah1 d = true then (f env ah1).bind fun k ah2 => (fx env ah2).bind fun x ah3 => match dgD ah3 d k with
  | some o => .ok (o.getD x) ah3
  | none => .bad else .bad
section
variable {G : KW} {W : XW} {η : List Addr} {H : Hp} {ah : AH} {d : D} {v : V}
theorem isD_of (p : HpOk G η H ah) (r : Rel G η H d v) (e : isDD ah d = true) : ∃ a, v = .ref a ∧ IsD H a := by
  unfold isDD at e
  rw [Bool.or_eq_true] at e
  rcases e with e | e
  · obtain ⟨z, hz⟩ := Option.isSome_iff_exists.mp e
    obtain ⟨a, kvs, rfl, h1, _⟩ := dk_rel p r hz
    exact ⟨a, rfl, .inl ⟨kvs, h1⟩⟩
  · obtain ⟨z, hz⟩ := Option.isSome_iff_exists.mp e
    obtain ⟨a, kvs, rfl, h1, _⟩ := dt_rel p r hz
    exact ⟨a, rfl, .inr ⟨kvs, h1⟩⟩
variable {X : Cx} {o e f : Expr} {fo fe fx : FE} {apos cpos : Pos}
theorem j_get1 (hu : X.A.units + 1 < cLine) (ho : PE X o (SX X W fo)) (he : PE X e (SX X W fe)) (hb : attributeBase o "get" X.env (eval o X.env) = eval o X.env := by rfl)
    (hf : ((backTo cpos (starEach [e] X.env)).all (fun x => !x.1) && (backToKw cpos (keywordEach [] X.env)).all (fun x => x.1.isSome) && decide (([e] : List Expr).length + ([] : List Keyword).length + (if ([] : List Keyword).isEmpty then 0 else 1) < 30)) = true := by rfl)
    (hl : (apos.endLine == cpos.line) = true := by rfl) (ht : backTo cpos (starEach [e] X.env) = [(false, eval e X.env)] := by rfl) :
    PE X (.Call (.Attribute o "get" apos) [e] [] cpos) (SX X W (iGet1 fo fe)) :=
  PE.imp (pe_fz (pe_dget1 hu ho he ⟨hb, hf, hl, ht⟩)) fun S H Q ⟨env, ah, η, en, p, h⟩ => ⟨env, ah, η, en, p, h.bind.imp0 fun x η1 H1 ah1 m1 p1 q1 v rv => by
    split at q1
    · rename_i hd
      obtain ⟨a, ev, isd⟩ := isD_of p1 rv hd
      refine ⟨a, ev, isd, env, ah1, η1, en.mv m1, p1, q1.bind.imp0 fun y η2 H2 ah2 m2 p2 q2 u ru => ?_⟩
      split at q2
      · rename_i w hg
        obtain ⟨a', z, ea, g, h1, h2⟩ := dg_rel p2 (rv.mv m2) ru hg
        rw [ev] at ea
        cases ea
        refine ⟨z, g, ?_⟩
        cases w with
        | none => rw [h2 rfl]; exact post_val p2 .non q2
        | some t =>
          obtain ⟨t', e1, r1⟩ := h1 t rfl
          rw [e1]
          exact post_val p2 r1 q2
      · exact q2.elim
    · exact q1.elim⟩
theorem j_get2 (hu : X.A.units + 1 < cLine) (ho : PE X o (SX X W fo)) (he : PE X e (SX X W fe)) (hx : PE X f (SX X W fx)) (hb : attributeBase o "get" X.env (eval o X.env) = eval o X.env := by rfl)
    (hf : ((backTo cpos (starEach [e, f] X.env)).all (fun x => !x.1) && (backToKw cpos (keywordEach [] X.env)).all (fun x => x.1.isSome) && decide (([e, f] : List Expr).length + ([] : List Keyword).length + (if ([] : List Keyword).isEmpty then 0 else 1) < 30)) = true := by rfl)
    (hl : (apos.endLine == cpos.line) = true := by rfl) (ht : backTo cpos (starEach [e, f] X.env) = [(false, eval e X.env), (false, eval f X.env)] := by rfl) :
    PE X (.Call (.Attribute o "get" apos) [e, f] [] cpos) (SX X W (iGet2 fo fe fx)) :=
  PE.imp (pe_fz (pe_dget2 hu ho he hx ⟨hb, hf, hl, ht⟩)) fun S H Q ⟨env, ah, η, en, p, h⟩ => ⟨env, ah, η, en, p, h.bind.imp0 fun x η1 H1 ah1 m1 p1 q1 v rv => by
    split at q1
    · rename_i hd
      obtain ⟨a, ev, isd⟩ := isD_of p1 rv hd
      refine ⟨a, ev, isd, env, ah1, η1, en.mv m1, p1, q1.bind.imp0 fun y η2 H2 ah2 m2 p2 q2 u ru => ⟨env, ah2, η2, (en.mv m1).mv m2, p2, q2.bind.imp0 fun s η3 H3 ah3 m3 p3 q3 t rt => ?_⟩⟩
      split at q3
      · rename_i w hg
        obtain ⟨a', z, ea, g, h1, h2⟩ := dg_rel p3 ((rv.mv m2).mv m3) (ru.mv m3) hg
        rw [ev] at ea
        cases ea
        refine ⟨z, g, ?_⟩
        cases w with
        | none => rw [h2 rfl]; exact post_val p3 rt q3
        | some t =>
          obtain ⟨t', e1, r1⟩ := h1 t rfl
          rw [e1]
          exact post_val p3 r1 q3
      · exact q3.elim
    · exact q1.elim⟩
def rvOk (a b : Int) : Bool := decide (-(2 ^ 62) ≤ a ∧ a < 2 ^ 62 ∧ -(2 ^ 62) ≤ b ∧ b < 2 ^ 62)
def iRevRg (r : FRg) : FI := fun env ah => (r env ah).bind fun x ah1 => if rvOk x.1 x.2 = true then .ok (rangeC (x.1 + (((x.2 - x.1).toNat : Nat) : Int) - 1) (-1) (x.2 - x.1).toNat) ah1 else .bad
theorem i_revRg {tg : Expr} {r : FRg} {p pos : Pos} (hg : Gl X "reversed") (hm : X.mg "reversed" = none) (he : PRg X e (RX X W r)) (hs : starEach [e] X.env = (false, eval e X.env) :: starEach [] X.env := by rfl) :
    PI X tg (.Call (.Name "reversed" p) [e] [] pos) (IX X W (iRevRg r)) :=
  PI.imp (pi_revR hg hm he hs) fun S H R ⟨env, ah, η, en, pk, h⟩ => ⟨env, ah, η, en, pk, h.bind.imp0 fun x η1 H1 ah1 m1 p1 q1 => by
    split at q1
    · rename_i hc
      unfold rvOk at hc
      obtain ⟨c1, c2, c3, c4⟩ := of_decide_eq_true hc
      exact ⟨c1, c2, c3, c4, q1.at p1 _ it_rangeC⟩
    · exact q1.elim⟩
end
end DL
namespace DL
open PySem PySem.Spec PyProof.Rows L2
section
variable {a b : Nat} {ah a1 : AH} {env : AE}
theorem eN (n : Nat) {i : Int} (h : i = (n : Int) := by rfl) : iC (.int i) env ah = .ok (dI n) ah := by rw [h]; rfl
theorem addN : oAdd (dI a) (dI b) ah = .ok (dI (a + b)) ah := rfl
theorem subN (h : b ≤ a) : oSub (dI a) (dI b) ah = .ok (dI (a - b)) ah := by
  unfold dI
  rw [oSub_int, show ((a : Int) - (b : Int)) = ((a - b : Nat) : Int) by omega]
theorem mulN (h : a < 18446744073709551616) : oMul (dI a) (dI b) ah = .ok (dI (a * b)) ah := by
  unfold dI
  rw [oMul_int (.inl ⟨by omega, by omega⟩), Int.natCast_mul]
theorem mulNr (h : b < 18446744073709551616) : oMul (dI a) (dI b) ah = .ok (dI (a * b)) ah := by
  unfold dI
  rw [oMul_int (.inr ⟨by omega, by omega⟩), Int.natCast_mul]
theorem divN (h : 0 < b) (k : b < 1073741824) : oDiv (dI a) (dI b) ah = .ok (dI (a / b)) ah := by
  unfold dI
  rw [oDiv_int ⟨by omega, by omega⟩]
  rfl
theorem modN (h : 0 < b) : oMod (dI a) (dI b) ah = .ok (dI (a % b)) ah := by
  unfold dI
  rw [oMod_int (by omega)]
  rfl
theorem shlN (h : b ≤ 1000) (k : a < 1000000) : oShl (dI a) (dI b) ah = .ok (dI (a * 2 ^ b)) ah := by
  have c : CPow (a : Int) (b : Int) := ⟨by omega, by omega, by
    have : ((a : Int)).natAbs = a := by omega
    first
      | (simp only [this]; omega)
      | decide⟩
  have e : (a : Int) * 2 ^ (b : Int).toNat = ((a * 2 ^ b : Nat) : Int) := by
    rw [Int.toNat_natCast, Int.natCast_mul, Int.natCast_pow]
    rfl
  unfold oShl oI dI
  simp only [c, if_true, e]
theorem ltN : oLt (dI a) (dI b) ah = .ok (.bl (decide (a < b))) ah := by
  have e : decide ((a : Int) < (b : Int)) = decide (a < b) := by rw [decide_eq_decide]; omega
  unfold dI; rw [oLtI, e]
theorem leN : oLe (dI a) (dI b) ah = .ok (.bl (decide (a ≤ b))) ah := by
  have e : decide ((a : Int) ≤ (b : Int)) = decide (a ≤ b) := by rw [decide_eq_decide]; omega
  unfold dI; rw [oLeI, e]
theorem gtN : oGt (dI a) (dI b) ah = .ok (.bl (decide (b < a))) ah := by
  have e : decide ((b : Int) < (a : Int)) = decide (b < a) := by rw [decide_eq_decide]; omega
  unfold dI; rw [oGt_int, e]
theorem geN : oGe (dI a) (dI b) ah = .ok (.bl (decide (b ≤ a))) ah := by
  have e : decide ((b : Int) ≤ (a : Int)) = decide (b ≤ a) := by rw [decide_eq_decide]; omega
  unfold dI; rw [oGe_int, e]
theorem eqN : oEq (dI a) (dI b) ah = .ok (.bl (decide (a = b))) ah := by
  have e : decide ((a : Int) = (b : Int)) = decide (a = b) := by rw [decide_eq_decide]; omega
  show Res.ok (D.bl (decide ((a : Int) = (b : Int)))) ah = _
  rw [e]
theorem neN : oNe (dI a) (dI b) ah = .ok (.bl (!decide (a = b))) ah := by
  have e : decide ((a : Int) = (b : Int)) = decide (a = b) := by rw [decide_eq_decide]; omega
  show Res.ok (D.bl (!decide ((a : Int) = (b : Int)))) ah = _
  rw [e]
theorem eqS {x y : Str} : oEq (.str x) (.str y) ah = .ok (.bl (decide (x = y))) ah := rfl
theorem intN : oInt [dI a] ah = .ok (dI a) ah := rfl
theorem max2N : oMax2 [dI a, dI b] ah = .ok (dI (max a b)) ah := by
  show Res.ok (D.int (if (b : Int) > (a : Int) then (b : Int) else (a : Int))) ah = _
  unfold dI
  congr 2
  split <;> omega
theorem min2N : oMin2 [dI a, dI b] ah = .ok (dI (min a b)) ah := by
  show Res.ok (D.int (if (b : Int) < (a : Int) then (b : Int) else (a : Int))) ah = _
  unfold dI
  congr 2
  split <;> omega
theorem lenT {α : Type} {e : α → D} {xs : List α} : oLen [.tup (xs.map e)] ah = .ok (dI xs.length) ah := by rw [oLen_tup, List.length_map]; rfl
theorem lenL {α : Type} {e : α → D} {xs : List α} : oLen [.lst (xs.map e)] ah = .ok (dI xs.length) ah := by rw [oLen_lst, List.length_map]; rfl
theorem lenT' {xs : List D} : oLen [.tup xs] ah = .ok (dI xs.length) ah := rfl
theorem lenL' {xs : List D} : oLen [.lst xs] ah = .ok (dI xs.length) ah := rfl
theorem lenS {x : Str} (h : x.length ≤ 1048576) : oLen [.str x] ah = .ok (dI x.length) ah := by
  unfold oLen
  simp only
  rw [if_pos (small h)]
  rfl
theorem map_dI (xs : List Nat) : xs.map dI = (xs.map fun n => ((n : Nat) : Int)).map D.int := by rw [List.map_map]; rfl
theorem sum_cast (xs : List Nat) : (xs.map fun n => ((n : Nat) : Int)).sum = ((xs.sum : Nat) : Int) := by
  induction xs with
  | nil => rfl
  | cons x xs ih => rw [List.map_cons, List.sum_cons, List.sum_cons, ih]; omega
theorem sumN {xs : List Nat} : oSum [.lst (xs.map dI)] ah = .ok (dI xs.sum) ah := by
  rw [map_dI]
  unfold oSum oL1 lstD
  simp only [seqD, intsD_map, sum_cast]
  rfl
theorem maxI_cast : ∀ (x : Nat) (xs : List Nat), maxI ((x :: xs).map fun n => ((n : Nat) : Int)) = some (((xs.foldl max x : Nat) : Nat) : Int)
  | x, [] => rfl
  | x, y :: xs => by
    have h := maxI_cast y xs
    have fm : ∀ (zs : List Nat) (p q : Nat), zs.foldl max (max p q) = max p (zs.foldl max q) := fun zs => by
      induction zs with
      | nil => intro p q; rfl
      | cons z zs ih => intro p q; rw [List.foldl_cons, List.foldl_cons, Nat.max_assoc, ih]
    show (maxI ((y :: xs).map fun n => ((n : Nat) : Int))).map (max (x : Int)) = _
    rw [h, List.foldl_cons, fm]
    show some (max (x : Int) _) = _
    congr 1
    omega
def maxL : List Nat → Nat
  | [] => 0
  | x :: xs => xs.foldl max x
theorem maxN {xs : List Nat} (h : xs ≠ []) : oMax [.lst (xs.map dI)] ah = .ok (dI (maxL xs)) ah := by
  cases xs with
  | nil => exact absurd rfl h
  | cons x xs =>
    rw [map_dI]
    unfold oMax oL1 lstD
    simp only [seqD, intsD_map, maxI_cast, Option.map_some]
    rfl
theorem mapE_at {α : Type} {e : α → D} {xs : List α} {n : Nat} {x : α} (h : xs[n]? = some x) : (xs.map e)[n]? = some (e x) := by rw [List.getElem?_map, h]; rfl
theorem ixT {α : Type} {e : α → D} {xs : List α} {n : Nat} {x : α} (h : xs[n]? = some x) : oIx (.tup (xs.map e)) (dI n) ah = .ok (e x) ah := ix_tup (n := n) (mapE_at h) rfl
theorem ixL {α : Type} {e : α → D} {xs : List α} {n : Nat} {x : α} (h : xs[n]? = some x) : oIx (.lst (xs.map e)) (dI n) ah = .ok (e x) ah := ix_lst (n := n) (mapE_at h) rfl
/-- range, two bounds -/
theorem eRgN {f g : FE} {a2 : AH} {m n : Nat} (h1 : f env ah = .ok (dI m) a1) (h2 : g env a1 = .ok (dI n) a2) (k : m ≤ 1048576) (l : n ≤ 1048576) : iRange2 [f, g] env ah = .ok ((List.range (n - m)).map fun i => dI (m + i)) a2 := by
  rw [iRange2_eq, h1, Res.bind_ok, h2, Res.bind_ok]
  unfold rangeK2 dI
  have c : rgIn (m : Int) ∧ rgIn (n : Int) := by unfold rgIn; omega
  simp only [c, and_self, if_true]
  congr 1
  unfold rangeD
  rw [show ((n : Int) - (m : Int)).toNat = n - m by omega]
  rfl
theorem eRg1N {f : FE} {n : Nat} (h1 : f env ah = .ok (dI n) a1) (hn : n ≤ 4096) : iRange1 [f] env ah = .ok ((List.range n).map dI) a1 := eRg1 (n := n) h1 hn
theorem cut_to {xs : List D} {n : Nat} : cutD xs none (some (n : Int)) = xs.take n := by
  unfold cutD
  rw [show HT.sIx xs.length 0 none = 0 from rfl, HT.sIx_nat xs.length xs.length n, Nat.sub_zero, List.drop_zero]
  by_cases c : n ≤ xs.length
  · rw [Nat.min_eq_left c]
  · rw [Nat.min_eq_right (by omega), List.take_of_length_le (Nat.le_refl _), List.take_of_length_le (by omega)]
theorem cut_from {xs : List D} {n : Nat} : cutD xs (some (n : Int)) none = xs.drop n := by
  unfold cutD
  rw [HT.sIx_nat xs.length 0 n, show HT.sIx xs.length xs.length none = xs.length from rfl]
  by_cases c : n ≤ xs.length
  · rw [Nat.min_eq_left c]
    exact List.take_of_length_le (by simp)
  · rw [Nat.min_eq_right (by omega), Nat.sub_self, List.take_zero, List.drop_of_length_le (by omega)]
theorem sliceToL {xs : List D} {n : Nat} : oSl (.lst xs) none (some (n : Int)) ah = .ok (.lst (xs.take n)) ah := by
  show Res.ok (D.lst (cutD xs none (some (n : Int)))) ah = _
  rw [cut_to]
theorem sliceFromL {xs : List D} {n : Nat} : oSl (.lst xs) (some (n : Int)) none ah = .ok (.lst (xs.drop n)) ah := by
  show Res.ok (D.lst (cutD xs (some (n : Int)) none)) ah = _
  rw [cut_from]
theorem sliceToT {xs : List D} {n : Nat} : oSl (.tup xs) none (some (n : Int)) ah = .ok (.tup (xs.take n)) ah := by
  have e1 : HT.sIx xs.length xs.length (some (n : Int)) = min n xs.length := HT.sIx_nat xs.length xs.length n
  unfold oSl seqD
  simp only [e1, cut_to]
  split
  · rename_i z
    rw [List.take_of_length_le (by omega)]
  · rfl
theorem sliceFromT {xs : List D} {n : Nat} : oSl (.tup xs) (some (n : Int)) none ah = .ok (.tup (xs.drop n)) ah := by
  have e1 : HT.sIx xs.length 0 (some (n : Int)) = min n xs.length := HT.sIx_nat xs.length 0 n
  have e2 : HT.sIx xs.length xs.length none = xs.length := rfl
  unfold oSl seqD
  simp only [e1, e2, cut_from]
  split
  · rename_i z
    have : n = 0 ∨ xs = [] := by
      by_cases c : xs = []
      · exact .inr c
      · have := List.length_pos_iff.mpr c; exact .inl (by omega)
    rcases this with rfl | rfl <;> simp
  · rfl
theorem ePartN {f : FE} {n : Nat} (h1 : f env ah = .ok (dI n) a1) : iPart f env ah = .ok (some (n : Int)) a1 := ePart h1
/-- a loop over a list, by what holds ahead of each item -/
theorem forL_each {α : Type} {g : D → AE → Option AE} {body : FS} {e : α → D} {I : List α → AE → AH → Prop} : ∀ {xs : List α} {env : AE} {ah : AH}, I xs env ah →
    (∀ x xs env ah, I (x :: xs) env ah → ∃ env1 fl env2 ah2, g (e x) env = some env1 ∧ (fl = .nx ∨ fl = .ct) ∧ body env1 ah = .ok (fl, env2) ah2 ∧ I xs env2 ah2) →
    ∃ env' ah', forL g body (xs.map e) env ah = .ok (.nx, env') ah' ∧ I [] env' ah'
  | [], env, ah, h0, _ => ⟨env, ah, rfl, h0⟩
  | x :: xs, env, ah, h0, h => by
    obtain ⟨env1, fl, env2, ah2, h1, h2, h3, h4⟩ := h x xs env ah h0
    obtain ⟨env', ah', h5, h6⟩ := forL_each (xs := xs) h4 h
    refine ⟨env', ah', ?_, h6⟩
    simp only [List.map_cons, forL, h1, h3, Res.bind_ok]
    rcases h2 with rfl | rfl <;> exact h5
end
end DL
set_option maxHeartbeats 1500000
namespace DL
open PySem PySem.Spec PyProof.Rows L2
section
variable {X : Cx}
/-- a tuple of ints, as the model's items -/
theorem tupInts {pnz : List (Addr × Obj)} {σ : L2.St} {H : Hp} {s : Shared} {a : Addr} {ns : List Int} (I : Inv X pnz σ H s) (hs : SqT X.K H a (ns.map V.int)) :
    ∃ (xs : Array (Int × Tok)) (its : List Value), s.heap.IsTuple a (intItems xs) ∧ xs.toList.map (·.1) = ns ∧ IntsAre its ns ∧ s.heap.IsTuple a its.toArray ∧ its.length ≤ sizeLine := by
  obtain ⟨its, rv, p, hz⟩ := I.tuple hs
  have hi := rv.ints
  obtain ⟨xs, e⟩ := hi.allInts.items
  have hn : numsOf (intItems xs).toList = ns := by rw [← e]; exact hi.numsOf
  rw [nums_intItems] at hn
  refine ⟨xs, its, ?_, hn, hi, p, ?_⟩
  · rw [← e]; exact p
  · rw [rv.length] at hz; exact hz
def rSumT (K : PySem.W.Frag) : List V → Hp → VK → Prop := fun vs H Q => ∃ (a : Addr) (ns : List Int), vs = [V.ref a] ∧ SqT K H a (ns.map V.int) ∧ Q (.int ns.sum) H
theorem cr_sumT (hc : X.calm = true) : CallR X (.builtin "sum") (rSumT X.K) := by
  intro pnz s σ H vs us Q I r h
  obtain ⟨a, ns, rfl, hs, q⟩ := h
  rw [Vals.ref1 r]
  obtain ⟨xs, its, t1, rfl, -, -, -⟩ := tupInts I hs
  refine PySem.W.ktm_sumG (I.ok.hd hc) t1 fun h' tk t' hk => ⟨.int _, H, I.kept hk, ⟨t', ?_⟩, q⟩
  rw [preSum_eq, List.take_of_length_le (by simp)]
def rMaxT (K : PySem.W.Frag) : List V → Hp → VK → Prop := fun vs H Q => ∃ (a : Addr) (ns : List Int), vs = [V.ref a] ∧ SqT K H a (ns.map V.int) ∧ 0 < ns.length ∧ ∀ m, m ∈ ns → (∀ y, y ∈ ns → y ≤ m) → Q (.int m) H
def rMinT (K : PySem.W.Frag) : List V → Hp → VK → Prop := fun vs H Q => ∃ (a : Addr) (ns : List Int), vs = [V.ref a] ∧ SqT K H a (ns.map V.int) ∧ 0 < ns.length ∧ ∀ m, m ∈ ns → (∀ y, y ∈ ns → m ≤ y) → Q (.int m) H
theorem tup_iter {prog : Program} {w : World} {A : Around} {E Q : Value → Shared → Prop} {s : Shared} {t : Addr} {items : Array Value} (ht : s.heap.IsTuple t items)
    (h : ∀ s2 : Shared, s2 = { s with heap := s.heap.push { cls := .type "tuple_iterator", data := .fields #[.ref t, .int 0 0] } } → (s2.heap.IsTupleIter s.heap.objs.size t 0 ∧ s2.heap.IsTuple t items) → (∀ b ∈ [s.heap.objs.size, t], b < s2.heap.objs.size) → t ≠ s.heap.objs.size → Q (.ref s.heap.objs.size) s2) :
    wpAny (model prog w) A (pyIter (.ref t)) Q E s := by
  have lt : t < s.heap.objs.size := by obtain ⟨_, e, _⟩ := ht; exact Heap.lt_size e
  refine wpAny_pyIter_tuple ht (h _ rfl ⟨⟨_, Heap.get?_push_size _ rfl, rfl, rfl⟩, ht.at fun o e => Heap.get?_push_of_some _ e⟩ (fun b hb => ?_) (Nat.ne_of_lt lt))
  have sz : (s.heap.push { cls := .type "tuple_iterator", data := .fields #[.ref t, .int 0 0] }).objs.size = s.heap.objs.size + 1 := Heap.size_push _ _
  show b < (s.heap.push _).objs.size
  rw [sz]
  rcases List.mem_cons.mp hb with e | hb
  · rw [e]; exact Nat.lt_succ_self _
  · rw [List.mem_singleton.mp hb]; exact Nat.lt_succ_of_lt lt
theorem past_kept {s : Shared} {t : Addr} {h' : Heap} (hk : ∀ b o, b ∉ [s.heap.objs.size] → (s.heap.push { cls := .type "tuple_iterator", data := .fields #[.ref t, .int 0 0] }).get? b = some o → h'.get? b = some o) (b : Addr) (o : Obj) (e : s.heap.get? b = some o) : h'.get? b = some o :=
  hk b o (fun m => absurd (List.mem_singleton.mp m) (Nat.ne_of_lt (Heap.lt_size e))) (Heap.get?_push_of_some _ e)
theorem cr_maxT (hc : X.calm = true) : CallR X (.builtin "max") (rMaxT X.K) := by
  intro pnz s σ H vs us Q I r h
  obtain ⟨a, ns, rfl, hs, hne, q⟩ := h
  rw [Vals.ref1 r]
  obtain ⟨xs, its, t1, rfl, -, -, -⟩ := tupInts I hs
  have hz : 0 < xs.size := by simpa using hne
  refine call_max_walk (tup_iter t1 fun s2 e st hfp hne2 => ?_)
  subst e
  refine ⟨_, _, _, _, _, _, _, rfl, Walks.tuple (A := X.A.in1) (I.ok.hd hc) _ a hne2 (intItems xs), st, hfp, by simpa [intItems] using hz, CmpOf.ints_gt (numAt xs) (fun _ _ => intItems_at), fun v h' tk hP hk => ?_⟩
  obtain ⟨t, rfl⟩ := intItems_at (show (intItems xs)[argBest (fun i j => decide (numAt xs i > numAt xs j)) (xs.size - 1)]? = some v by simpa [intItems] using hP)
  obtain ⟨h1, h2⟩ := argBest_gt (numAt xs) (xs.size - 1)
  refine ⟨.int _, H, I.kept (past_kept hk), ⟨t, rfl⟩, q _ ?_ fun y hy => ?_⟩
  · rw [numAt_eq]; exact PySem.getD_mem (by rw [List.length_map, Array.length_toList]; omega)
  · obtain ⟨j, hj, rfl⟩ := mem_getD hy
    rw [List.length_map, Array.length_toList] at hj
    rw [← numAt_eq]; exact h2 j (by omega)
theorem cr_minT (hc : X.calm = true) : CallR X (.builtin "min") (rMinT X.K) := by
  intro pnz s σ H vs us Q I r h
  obtain ⟨a, ns, rfl, hs, hne, q⟩ := h
  rw [Vals.ref1 r]
  obtain ⟨xs, its, t1, rfl, -, -, -⟩ := tupInts I hs
  have hz : 0 < xs.size := by simpa using hne
  refine call_min_walk (tup_iter t1 fun s2 e st hfp hne2 => ?_)
  subst e
  refine ⟨_, _, _, _, _, _, _, rfl, Walks.tuple (A := X.A.in1) (I.ok.hd hc) _ a hne2 (intItems xs), st, hfp, by simpa [intItems] using hz, CmpOf.ints_lt (numAt xs) (fun _ _ => intItems_at), fun v h' tk hP hk => ?_⟩
  obtain ⟨t, rfl⟩ := intItems_at (show (intItems xs)[argBest (fun i j => decide (numAt xs i < numAt xs j)) (xs.size - 1)]? = some v by simpa [intItems] using hP)
  obtain ⟨h1, h2⟩ := argBest_lt (numAt xs) (xs.size - 1)
  refine ⟨.int _, H, I.kept (past_kept hk), ⟨t, rfl⟩, q _ ?_ fun y hy => ?_⟩
  · rw [numAt_eq]; exact PySem.getD_mem (by rw [List.length_map, Array.length_toList]; omega)
  · obtain ⟨j, hj, rfl⟩ := mem_getD hy
    rw [List.length_map, Array.length_toList] at hj
    rw [← numAt_eq]; exact h2 j (by omega)
end
section
variable {prog : Program} {w : World} {A : Around} {E : Value → Shared → Prop} {s : Shared}
/-- a tuple's items gathered: one new list -/
theorem gather_tup {Q : List Value → Shared → Prop} {t : Addr} {o : Obj} {items : Array Value} {n : Nat} (ho : s.heap.get? t = some o) (hc : o.cls = .type "tuple") (hd : o.data = .seq items n) (hz : items.size ≤ sizeLine)
    (q : Q items.toList { s with heap := (s.heap.push (seqObj "list" #[] 0)).update s.heap.objs.size (Obj.mapSeq (· ++ items)) }) : wpAny (model prog w) A (collect (.ref t)) Q E s := by
  have new : (s.heap.push (seqObj "list" #[] 0)).get? s.heap.objs.size = some (seqObj "list" #[] 0) := Heap.get?_push_size _ rfl
  have grown := get?_update_seq new (· ++ items)
  have last : wpAny (model prog w) A (do
      let o ← load s.heap.objs.size
      match o.data with
      | .seq xs _ => pure xs.toList
      | _ => unsupported "internal:collect") Q E { s with heap := (s.heap.push (seqObj "list" #[] 0)).update s.heap.objs.size (Obj.mapSeq (· ++ items)) } := by
    refine wpAny_bind (wpAny_load grown ?_)
    show wpAny _ _ (pure ((#[] : Array Value) ++ items).toList) Q E _
    rw [show ((#[] : Array Value) ++ items).toList = items.toList by simp]
    exact wpAny_pure q
  unfold collect
  refine wpAny_bind (wpAny_runValue (codeAny_builtin F.entry_proto_collect ?_))
  rw [Around.under_plainId F.plain_proto_collect _]
  refine wpAny_bind (wpAny_newObj_type (wpAny_pure ⟨plainId_quiet F.plain_list_iadd _, codeAny_builtin F.entry_list_iadd ?_⟩))
  rw [Around.under_plainId F.plain_list_iadd _]
  refine wpAny_mono (wpAny_extend_seq (hsz := hz) (A := A) (R := fun r z => r = .ok (.ret (.ref s.heap.objs.size)) ∧ z = { s with heap := (s.heap.push (seqObj "list" #[] 0)).update s.heap.objs.size (Obj.mapSeq (· ++ items)) })
    (s := { s with heap := s.heap.push (seqObj "list" #[] 0) }) _ t _ 0 (.inr rfl) new (Heap.get?_push_of_some _ ho) hc hd ⟨rfl, rfl⟩) (fun fin z h => ?_) (fun e z h => ?_)
  · cases fin with
    | done f =>
      obtain ⟨e, rfl⟩ := h
      cases e
      exact last
    | again c => exact ⟨h.1, codeAny_mono h.2 fun r z hr => by obtain ⟨rfl, rfl⟩ := hr; exact last⟩
  · exact absurd h.1 (by simp)
end
section
variable {X : Cx}
/-- sorted of a tuple -/
theorem sorted_tup {b : Bool} {kw : List (Str × Value)} {pnz : List (Addr × Obj)} {s : Shared} {σ : L2.St} {H : Hp} {a : Addr} {ns : List Int} {Q : VK} (I : Inv X pnz σ H s) (hs : SqT X.K H a (ns.map V.int))
    (hk : ∀ a, Builtin.«list.sort» ⟨[.ref a], kw⟩ = Builtin.«list.sort» ⟨[.ref a], [(Str.ofString "reverse", .bool b)]⟩) (ha1 : argsOk "sorted" ⟨[.ref a], kw⟩) (ha2 : ∀ a, argsOk "list.sort" ⟨[a], kw⟩)
    (q : ∀ (ms : List Int) (p : Addr), ms.Perm ns → OrdB b ms → H p = none → Q (.ref p) (upd H p (.lst (ms.map V.int)))) : wpAny (model X.prog X.w) X.A (call (.builtin "sorted") [.ref a] kw) (EP X pnz σ Q) X.xe s := by
  obtain ⟨xs, its, -, -, hi, ⟨o, ho, hc, n, hd⟩, hz⟩ := tupInts I hs
  refine call_function_entry_kw kind_sorted plain_sorted entry_sorted ha1 ?_
  unfold Builtin.«sorted»
  refine wpAny_bind (m := checkCount "sorted" 1 1 _) (wpAny_pure ?_)
  refine wpAny_bind (gather_tup ho hc hd (by rw [List.size_toArray]; exact hz) ?_)
  rw [show its.toArray.toList = its by simp]
  refine wpAny_bind (wpAny_newList ?_ hz)
  have sz1 : ((s.heap.push (seqObj "list" #[] 0)).update s.heap.objs.size (Obj.mapSeq (· ++ its.toArray))).objs.size = s.heap.objs.size + 1 := by rw [Heap.size_update, size_push']
  have at1 : (((s.heap.push (seqObj "list" #[] 0)).update s.heap.objs.size (Obj.mapSeq (· ++ its.toArray))).push (seqObj "list" its.toArray 0)).get? (s.heap.objs.size + 1) = some (seqObj "list" its.toArray 0) := by
    rw [← sz1]
    exact Heap.get?_push_size _ rfl
  show wpAny _ _ _ _ _ { s with heap := ((s.heap.push (seqObj "list" #[] 0)).update s.heap.objs.size (Obj.mapSeq (· ++ its.toArray))).push (seqObj "list" its.toArray 0) }
  rw [sz1]
  refine wpAny_bind (wpAny_holding (wpAny_call_entry_kw slot_list_sort ⟨_, at1, rfl⟩ entry_list_sort ?_ (ha2 _)))
  rw [hk]
  refine SrtR.list_sort_ordR SrtO.swo_int at1 hz (fun h2 => SrtO.ints_sortable hi h2) fun out o1 o2 => ⟨_, rfl, wpAny_pure ⟨_, rfl, ?_⟩⟩
  obtain ⟨ms, k1, k2, k3⟩ := SrtR.ints_outR hi o1 o2
  obtain ⟨ep, at2⟩ := PyProof.Rows.sortedAll_at s.heap its (if b = true then out.toArray.reverse else out.toArray)
  have lm : (ms.map V.int).length ≤ sizeLine := by
    rw [List.length_map, k2.length_eq, ← hi.length]
    exact hz
  have back : ((if b = true then out.toArray.reverse else out.toArray).toList).toArray = (if b = true then out.toArray.reverse else out.toArray) := by rw [Array.toArray_toList]
  exact ⟨.ref _, upd H (s.heap.objs.size + 1) (.lst (ms.map V.int)), I.laid (t' := s.toks) (fun _ _ => PyProof.Rows.sortedAll_old) (Nat.le_succ _) ⟨lm, _, ep, vals_of_ints k1, by rw [back]; exact at2⟩, rfl, q _ _ k2 k3 (I.hok.fresh (Nat.le_succ _))⟩
theorem cr_sortT1 : CallR X (.builtin "sorted") (fun vs H Q => ∃ (a : Addr) (ns : List Int), vs = [V.ref a] ∧ SqT X.K H a (ns.map V.int) ∧ ∀ (ms : List Int) (p : Addr), ms.Perm ns → OrdB false ms → H p = none → Q (.ref p) (upd H p (.lst (ms.map V.int)))) := by
  intro pnz s σ H vs us Q I r h
  obtain ⟨a, ns, rfl, hs, q⟩ := h
  rw [Vals.ref1 r]
  exact sorted_tup (b := false) (kw := []) I hs (fun a => by rw [list_sort_rev]; first | rfl | kernel_rfl) (args_sorted1 _) (fun a => by first | exact args_list_sort1 _ | decide +kernel | rfl) q
theorem cr_sortT2 {b : Bool} : CallRK X (.builtin "sorted") [Str.ofString "reverse"] (fun vs zs H Q => ∃ (a : Addr) (ns : List Int), vs = [V.ref a] ∧ zs = [.bl b] ∧ SqT X.K H a (ns.map V.int) ∧ ∀ (ms : List Int) (p : Addr), ms.Perm ns → OrdB b ms → H p = none → Q (.ref p) (upd H p (.lst (ms.map V.int)))) := by
  intro pnz s σ H vs zs us ws Q I r rz h
  obtain ⟨a, ns, rfl, rfl, hs, q⟩ := h
  rw [Vals.ref1 r]
  obtain ⟨w1, rfl, e1⟩ := vals1 rz
  obtain rfl : w1 = Value.bool b := e1
  exact sorted_tup I hs (fun _ => rfl) (PyProof.Rows.args_sorted_rev _ _) (fun _ => PyProof.Rows.args_list_sort_rev _ _) q
end
def oT1 {α : Type} (g : List D → Option α) (k : α → Option D) (ds : List D) (ah : AH) : Res D := match ds with
  | [d] => match seqD ah d with
    | some (true, xs) => match g xs with
      | some a => match k a with
        | some r => .ok r ah
        | none => .bad
      | none => .bad
    | _ => oL1 g k ds ah
  | _ => .bad
section
variable {G : KW} {W : XW}
theorem ok_T1 {α : Type} {g : List D → Option α} {k : α → Option D} {r r2 : List V → Hp → VK → Prop} (h0 : CaOk G W r (oL1 g k)) (hr : ∀ (η : List Addr) (H : Hp) (ah : AH) (a : Addr) (us : List V) (xs : List D) (x : α) (d : D) (Q : VK), HpOk G η H ah → RelAll G η H xs us → SqT G.K H a us → g xs = some x → k x = some d →
    Post G W η H (.ok d ah) (QV G Q) → r2 [.ref a] H (QF Q)) : CaOk G W (fun vs H Q => r vs H Q ∨ r2 vs H Q) (oT1 g k) := by
  intro η H ah ds vs Q p rr h
  unfold oT1 at h
  split at h
  · split at h
    · rename_i xs e1
      obtain ⟨v, rfl, rx⟩ := relL1 rr
      obtain ⟨a, us, rfl, r1, q1, _⟩ := seq_rel p rx e1
      split at h
      · split at h
        · exact .inr (hr η H ah a us xs _ _ Q p r1 (q1 rfl) (by assumption) (by assumption) h)
        · exact h.elim
      · exact h.elim
    · exact .inl (h0 η H ah _ vs Q p rr h)
  · exact h.elim
def oSumT := oT1 intsD fun ns => some (.int ns.sum)
def oMaxT := oT1 intsD fun ns => (maxI ns).map D.int
def oMinT := oT1 intsD fun ns => (minI ns).map D.int
def oSortedT := oT1 intsD fun ns => some (.lst ((ns.mergeSort (fun a b => decide (a ≤ b))).map D.int))
def oSortedRT := oT1 intsD fun ns => some (.lst ((ns.mergeSort (fun a b => decide (b ≤ a))).map D.int))
theorem ok_sumT : CaOk G W (fun vs H Q => rSum G.K vs H Q ∨ rSumT G.K vs H Q) oSumT := ok_T1 ok_sum fun η H ah a us xs ns d Q p r q e1 e2 h => by
  cases e2
  obtain rfl := ints_rel r e1
  exact ⟨a, ns, rfl, q, post_val p (.int _) h⟩
theorem ok_maxT : CaOk G W (fun vs H Q => rMax G.K vs H Q ∨ rMaxT G.K vs H Q) oMaxT := ok_T1 ok_max fun η H ah a us xs ns d Q p r q e1 e2 h => by
  obtain ⟨m, e3, rfl⟩ := Option.map_eq_some_iff.mp e2
  obtain rfl := ints_rel r e1
  obtain ⟨h1, h2⟩ := maxI_eq e3
  refine ⟨a, ns, rfl, q, List.length_pos_of_mem h1, fun m' hm hy => ?_⟩
  have := h2 m' hm; have := hy m h1
  obtain rfl : m' = m := by omega
  exact post_val p (.int _) h
theorem ok_minT : CaOk G W (fun vs H Q => rMin G.K vs H Q ∨ rMinT G.K vs H Q) oMinT := ok_T1 ok_min fun η H ah a us xs ns d Q p r q e1 e2 h => by
  obtain ⟨m, e3, rfl⟩ := Option.map_eq_some_iff.mp e2
  obtain rfl := ints_rel r e1
  obtain ⟨h1, h2⟩ := minI_eq e3
  refine ⟨a, ns, rfl, q, List.length_pos_of_mem h1, fun m' hm hy => ?_⟩
  have := h2 m' hm; have := hy m h1
  obtain rfl : m' = m := by omega
  exact post_val p (.int _) h
theorem ok_sortedT : CaOk G W (fun vs H Q => rSortedI G.K vs H Q ∨ ∃ (a : Addr) (ns : List Int), vs = [V.ref a] ∧ SqT G.K H a (ns.map V.int) ∧ ∀ (ms : List Int) (p : Addr), ms.Perm ns → OrdB false ms → H p = none → Q (.ref p) (upd H p (.lst (ms.map V.int)))) oSortedT := ok_T1 ok_sorted fun η H ah a us xs ns d Q p r q e1 e2 h => by
  cases e2
  obtain rfl := ints_rel r e1
  refine ⟨a, ns, rfl, q, fun ms l h1 h2 hl => ?_⟩
  rw [sorted_one h1 h2]
  exact post_fz p (RelAll.ints _) h hl
theorem ok_sortedRT : CaOk G W (fun vs H Q => rSortedKw G.K true [.bl true] vs [.bl true] H Q ∨ ∃ (a : Addr) (ns : List Int), vs = [V.ref a] ∧ SqT G.K H a (ns.map V.int) ∧ ∀ (ms : List Int) (p : Addr), ms.Perm ns → OrdB true ms → H p = none → Q (.ref p) (upd H p (.lst (ms.map V.int)))) oSortedRT := ok_T1 ok_sortedR fun η H ah a us xs ns d Q p r q e1 e2 h => by
  cases e2
  obtain rfl := ints_rel r e1
  refine ⟨a, ns, rfl, q, fun ms l h1 h2 hl => ?_⟩
  rw [sort_down h1 h2]
  exact post_fz p (RelAll.ints _) h hl
end
section
variable {X : Cx} {W : XW} {e : Expr} {f : FE} {p pos : Pos}
theorem crOr {f : Value} {r r2 : List V → Hp → VK → Prop} (h1 : CallR X f r) (h2 : CallR X f r2) : CallR X f (fun vs H Q => r vs H Q ∨ r2 vs H Q) := by
  intro pnz s σ H vs us Q I rr h
  rcases h with h | h
  · exact h1 pnz s σ H vs us Q I rr h
  · exact h2 pnz s σ H vs us Q I rr h
theorem cr_sumA (hc : X.calm = true) : CallR X (.builtin "sum") (fun vs H Q => rSum X.K vs H Q ∨ rSumT X.K vs H Q) := crOr (cr_sum hc) (cr_sumT hc)
theorem cr_maxA (hc : X.calm = true) : CallR X (.builtin "max") (fun vs H Q => rMax X.K vs H Q ∨ rMaxT X.K vs H Q) := crOr (cr_max hc) (cr_maxT hc)
theorem cr_minA (hc : X.calm = true) : CallR X (.builtin "min") (fun vs H Q => rMin X.K vs H Q ∨ rMinT X.K vs H Q) := crOr (cr_min hc) (cr_minT hc)
theorem cr_sortedA : CallR X (.builtin "sorted") (fun vs H Q => rSortedI X.K vs H Q ∨ ∃ (a : Addr) (ns : List Int), vs = [V.ref a] ∧ SqT X.K H a (ns.map V.int) ∧ ∀ (ms : List Int) (p : Addr), ms.Perm ns → OrdB false ms → H p = none → Q (.ref p) (upd H p (.lst (ms.map V.int)))) := crOr cr_sortedI cr_sortT1
theorem j_sortedRT {k1 : Nat} {p1 p2 : Pos} (hg : Gl X "sorted") (hm : X.mg "sorted" = none) (he : PE X e (SX X W f))
    (h1 : backTo pos (starEach [e] X.env) = (false, eval e X.env) :: backTo pos (starEach [] X.env) := by rfl) (h2 : (backTo pos (starEach [e] X.env)).any (·.1) = false := by rfl) (h3 : starEach [e] X.env = (false, eval e X.env) :: starEach [] X.env := by rfl) :
    PE X (.Call (.Name "sorted" p) [e] [⟨some "reverse", .Constant (.bool true) k1 p1, p2⟩] pos) (SX X W (iCall oSortedRT [f])) := by
  have both : CallRK X (.builtin "sorted") [Str.ofString "reverse"] (fun vs zs H Q => rSortedKw X.K true [.bl true] vs zs H Q ∨ ∃ (a : Addr) (ns : List Int), vs = [V.ref a] ∧ zs = [.bl true] ∧ SqT X.K H a (ns.map V.int) ∧ ∀ (ms : List Int) (p : Addr), ms.Perm ns → OrdB true ms → H p = none → Q (.ref p) (upd H p (.lst (ms.map V.int)))) := by
    intro pnz s σ H vs zs us ws Q I r rz h
    rcases h with h | h
    · exact cr_sortedRev (b := true) pnz s σ H vs zs us ws Q I r rz h
    · exact cr_sortT2 (b := true) pnz s σ H vs zs us ws Q I r rz h
  refine PE.imp (pe_fz (pe_callBK (ks := [Str.ofString "reverse"]) both hg hm boot_sorted (a_cons he a_nil h3) (pk_cons pe_bl pk_nil) (by decide) (by decide) h1 h2)) fun S H Q ⟨env, ah, η, en, pk, h⟩ => ?_
  exact ⟨env, ah, η, en, pk, h.bind.imp0 fun ds η1 H1 ah1 m1 p1 q1 => fun vs rs => (ok_sortedRT η1 H1 ah1 ds vs Q p1 rs q1).imp id fun ⟨a, ns, z1, z2, z3⟩ => ⟨a, ns, z1, rfl, z2, z3⟩⟩
end
section
variable {ah : AH} {xs : List Nat}
theorem sumTT : oSumT [.tup (xs.map dI)] ah = .ok (dI xs.sum) ah := by
  rw [map_dI]
  unfold oSumT oT1
  simp only [seqD, intsD_map, sum_cast]
  rfl
theorem minI_cast : ∀ (x : Nat) (xs : List Nat), minI ((x :: xs).map fun n => ((n : Nat) : Int)) = some (((xs.foldl min x : Nat) : Nat) : Int)
  | x, [] => rfl
  | x, y :: xs => by
    have h := minI_cast y xs
    have fm : ∀ (zs : List Nat) (p q : Nat), zs.foldl min (min p q) = min p (zs.foldl min q) := fun zs => by
      induction zs with
      | nil => intro p q; rfl
      | cons z zs ih => intro p q; rw [List.foldl_cons, List.foldl_cons, Nat.min_assoc, ih]
    show (minI ((y :: xs).map fun n => ((n : Nat) : Int))).map (min (x : Int)) = _
    rw [h, List.foldl_cons, fm]
    show some (min (x : Int) _) = _
    congr 1
    omega
def minL : List Nat → Nat
  | [] => 0
  | x :: xs => xs.foldl min x
theorem maxTT (h : xs ≠ []) : oMaxT [.tup (xs.map dI)] ah = .ok (dI (maxL xs)) ah := by
  cases xs with
  | nil => exact absurd rfl h
  | cons x xs =>
    rw [map_dI]
    unfold oMaxT oT1
    simp only [seqD, intsD_map, maxI_cast, Option.map_some]
    rfl
theorem minTT (h : xs ≠ []) : oMinT [.tup (xs.map dI)] ah = .ok (dI (minL xs)) ah := by
  cases xs with
  | nil => exact absurd rfl h
  | cons x xs =>
    rw [map_dI]
    unfold oMinT oT1
    simp only [seqD, intsD_map, minI_cast, Option.map_some]
    rfl
theorem sortRTT (h : xs.Pairwise (· ≥ ·)) : oSortedRT [.tup (xs.map dI)] ah = .ok (.lst (xs.map dI)) ah := by
  have e := sort_down (ns := xs.map fun n => ((n : Nat) : Int)) (ms := xs.map fun n => ((n : Nat) : Int)) (List.Perm.refl _) (List.pairwise_map.mpr (h.imp fun k => by omega))
  rw [map_dI]
  unfold oSortedRT oT1
  simp only [seqD, intsD_map]
  rw [← e]
theorem sortTT (h : xs.Pairwise (· ≤ ·)) : oSortedT [.tup (xs.map dI)] ah = .ok (.lst (xs.map dI)) ah := by
  have e := sorted_one (ns := xs.map fun n => ((n : Nat) : Int)) (ms := xs.map fun n => ((n : Nat) : Int)) (List.Perm.refl _) (List.pairwise_map.mpr (h.imp fun k => by omega))
  rw [map_dI]
  unfold oSortedT oT1
  simp only [seqD, intsD_map]
  rw [← e]
theorem divmodN {a b : Nat} (h : 0 < b) (k : b < 1073741824) : oDivmod [dI a, dI b] ah = .ok (.tup [dI (a / b), dI (a % b)]) ah := by
  have c : CDiv (a : Int) (b : Int) := ⟨by omega, by omega⟩
  unfold oDivmod dI
  simp only [c, if_true]
  rfl
theorem mulT1 {d : D} {r : Nat} (h : r ≤ 1000) : oMulT (.tup [d]) (dI r) ah = .ok (.tup (List.replicate r d)) ah := by
  have f : ∀ m : Nat, (List.replicate m [d]).flatten = List.replicate m d := fun m => by
    induction m with
    | zero => rfl
    | succ m ih => rw [List.replicate_succ, List.flatten_cons, ih]; rfl
  by_cases h0 : r = 0
  · subst h0; rfl
  · by_cases h1 : r = 1
    · subst h1; rfl
    · unfold oMulT dI
      simp only [seqD]
      rw [if_neg (by omega), if_neg (by simp; omega)]
      unfold oMul seqD
      simp only
      rw [if_pos ⟨by simp, by omega, by omega, by simp⟩, Int.toNat_natCast, f]
theorem shp_nats {xs : List Nat} (h : ∀ x ∈ xs, x < 1000000000000) : Shw 1 xs.length (.list (xs.map fun n : Nat => PyData.int (n : Int))) ∧ Shw 1 xs.length (.tuple (xs.map fun n : Nat => PyData.int (n : Int))) := by
  have a : ∀ x ∈ xs.map fun n : Nat => PyData.int (n : Int), Shw 0 0 x := fun x hx => by
    obtain ⟨i, hi, rfl⟩ := List.mem_map.mp hx
    exact shw_int (by have := h i hi; omega)
  have l := shw_lst a
  have t := shw_tup a
  rw [List.length_map] at l t
  simp only [Nat.zero_add, Nat.mul_one] at l t
  exact ⟨l, t⟩
theorem eqv_natI (x y : Nat) : PyData.eqv (.int (x : Int)) (.int (y : Int)) = decide (x = y) := by
  rw [eqv_intI, decide_eq_decide]
  omega
theorem py_natL (xs : List Nat) : toPy (.lst (xs.map dI)) = some (.list (xs.map fun n : Nat => PyData.int (n : Int))) := py_dL (e := dI) (p := fun n : Nat => PyData.int (n : Int)) (fun _ => rfl) xs
theorem py_natT (xs : List Nat) : toPy (.tup (xs.map dI)) = some (.tuple (xs.map fun n : Nat => PyData.int (n : Int))) := by
  unfold toPy
  simp only [py_map (e := dI) (p := fun n : Nat => PyData.int (n : Int)) (fun _ => rfl) xs]
theorem ne_natL {xs ys : List Nat} (h : ∀ x ∈ xs, x < 1000000000000) (k : ∀ y ∈ ys, y < 1000000000000) : oNe (.lst (xs.map dI)) (.lst (ys.map dI)) ah = .ok (.bl (!decide (xs = ys))) ah := by
  have := eNe_dat (ah := ah) rfl (py_natL xs) (py_natL ys) ((shp_nats h).1.shaped (by omega)) ((shp_nats k).1.shaped (by omega))
  rw [PyData.eqv, eqv_map eqv_natI] at this
  exact this
theorem eq_natL {xs ys : List Nat} (h : ∀ x ∈ xs, x < 1000000000000) (k : ∀ y ∈ ys, y < 1000000000000) : oEq (.lst (xs.map dI)) (.lst (ys.map dI)) ah = .ok (.bl (decide (xs = ys))) ah := by
  have := oEq_dat (ah := ah) rfl (py_natL xs) (py_natL ys) ((shp_nats h).1.shaped (by omega)) ((shp_nats k).1.shaped (by omega))
  rw [PyData.eqv, eqv_map eqv_natI] at this
  exact this
theorem sumTL : oSumT [.lst (xs.map dI)] ah = .ok (dI xs.sum) ah := sumN
end
end DL
set_option maxHeartbeats 1500000
namespace DL
open PySem PySem.Spec PyProof.Rows L2
def whL (t : FT) (s : FS) : Nat → AE → AH → Res (Fl × AE)
  | 0, _, _ => .bad
  | n + 1, env, ah => (t env ah).bind fun b ah1 => if b = true then (s env ah1).bind fun r ah2 => (match r with
      | (.nx, env2) => whL t s n env2 ah2
      | (.ct, env2) => whL t s n env2 ah2
      | (.bk, env2) => .ok (.nx, env2) ah2
      | (.rt d, env2) => .ok (.rt d, env2) ah2) else .ok (.nx, env) ah1
def sWhile (n : Nat) (t : FT) (s : FS) : FS := fun env ah => whL t s n env ah
section
variable {X : Cx} {W : XW} {pos : Pos}
theorem s_while {c : Expr} {body : List Stmt} {ft : FT} {fb : FS} (n : Nat) (hp : PassesOwn (model X.prog X.w) X.A X.env X.xe) (hc : PT X c (TX X W ft)) (hb : PSs X body (SSX X W fb)) : PS X (.While c body [] pos) (SSX X W (sWhile n ft fb)) := PS.imp (ps_while hp hc hb) fun Dn S H ⟨env, ah, η, en, pk, h⟩ => by
  refine ⟨fun m S' H' => ∃ env1 ah1 η1, EnvOk (gX X) η1 H' env1 S' ∧ HpOk (gX X) η1 H' ah1 ∧ Mv η H η1 H' ∧ Post (gX X) W η1 H' (whL ft fb m env1 ah1) (QS (gX X) Dn), ⟨n, env, ah, η, en, pk, Mv.refl, h⟩, ?_⟩
  rintro m S2 H2 ⟨env2, ah2, η2, en2, p2, m2, q2⟩
  cases m with
  | zero => exact q2.elim
  | succ m =>
    simp only [whL] at q2
    refine ⟨env2, ah2, η2, en2, p2, q2.bind.imp0 fun b η3 H3 ah3 m3 p3 q3 => ?_⟩
    cases b with
    | true =>
      simp only [if_true] at q3 ⊢
      refine ⟨fun S' H' => ∃ env1 ah1 η1, EnvOk (gX X) η1 H' env1 S' ∧ HpOk (gX X) η1 H' ah1 ∧ Mv η H η1 H' ∧ Post (gX X) W η1 H' (whL ft fb m env1 ah1) (QS (gX X) Dn), fun S' H' k => ⟨m, Nat.lt_succ_self m, k⟩, ?_⟩
      refine ⟨env2, ah3, η3, en2.mv m3, p3, q3.bind.imp0 fun r η4 H4 ah4 m4 p4 q4 => ?_⟩
      obtain ⟨fl, env4⟩ := r
      have m5 : Mv η H η4 H4 := (m2.trans m3).trans m4
      cases fl with
      | nx => exact fun S' en' => ⟨env4, ah4, η4, en', p4, m5, q4⟩
      | ct => exact fun S' en' => ⟨env4, ah4, η4, en', p4, m5, q4⟩
      | bk => exact q4.at p4
      | rt d => exact q4.at p4
    | false =>
      rw [if_neg Bool.false_ne_true] at q3 ⊢
      exact q3.at p3 S2 (en2.mv m3)
end
section
variable {t : FT} {s : FS} {env env2 : AE} {ah a1 a2 : AH} {r : Res (Fl × AE)} {n : Nat}
theorem eWh0 (h1 : t env ah = .ok false a1) : whL t s (n + 1) env ah = .ok (.nx, env) a1 := by
  simp only [whL, h1, Res.bind_ok]
  rfl
theorem eWh1 (h1 : t env ah = .ok true a1) (h2 : s env a1 = .ok (.nx, env2) a2) (h3 : whL t s n env2 a2 = r) : whL t s (n + 1) env ah = r := by
  simp only [whL, h1, h2, Res.bind_ok, if_true]
  exact h3
theorem eOr1 {f g : FE} (h1 : f env ah = .ok (.bl true) a1) : iOr f g env ah = .ok (.bl true) a1 := by unfold iOr; rw [h1, Res.bind_ok]
theorem eOr0 {f g : FE} {q : Res D} (h1 : f env ah = .ok (.bl false) a1) (h2 : g env a1 = q) : iOr f g env ah = q := by unfold iOr; rw [h1, Res.bind_ok]; exact h2
theorem eWhile (h : whL t s n env ah = r) : sWhile n t s env ah = r := h
end
end DL
set_option maxHeartbeats 1500000
namespace DL
open PySem PySem.Spec PyProof.Rows L2
/-- a walk, counted from k on -/
theorem drawsFrom {prog : Program} {w : World} {A : Around} {it : Addr} {fp : List Addr} {n : Nat} {P : Nat → Value → Prop} {St : Nat → Heap → Prop} (k : Nat) (D : Draws prog w A it fp n P St) :
    Draws prog w A it fp (k + n) (fun i v => k ≤ i ∧ P (i - k) v) (fun i h => k ≤ i ∧ St (i - k) h) where
  live := fun i h st => D.live _ h st.2
  frame := fun i h h' st q => ⟨st.1, D.frame _ h h' st.2 q⟩
  item := fun i s Q E hi st hQ => D.item (i - k) s Q E (by omega) st.2 fun x h' tk p st' sb => hQ x h' tk ⟨st.1, p⟩ ⟨by omega, by rw [show i + 1 - k = i - k + 1 by omega]; exact st'⟩ sb
  done := fun s Q E st hE => D.done s Q E (by rw [show k + n - k = n by omega] at st; exact st.2) hE
def ItnK (K : PySem.W.Frag) (a : Addr) (k : Nat) : It :=
  ⟨fun i H => ∃ xs x, SqL K H a xs ∧ xs[i]? = some x, fun i H v H' => ∃ T x, v = .ref T ∧ H T = none ∧ H' = upd H T (.tup [.int ((k + i : Nat) : Int), x]) ∧ ∀ xs, SqL K H a xs → xs[i]? = some x,
    fun i H => ∃ xs : List V, SqL K H a xs ∧ xs.length ≤ i⟩
theorem turn_enumK {P : Program} {w : World} {K : PySem.W.Frag} {elts : List Expr} {kk : Nat} {tpos : Pos} (a e it : Addr) (k : Nat) :
    Turn P w K (.Tuple elts kk tpos) (ItnK K a k) [e, it] e (fun i h => (∃ old, IsEnum h e it ((k + i : Nat) : Int) old) ∧ h.IsListIter it a i ∧ e ≠ it) where
  mem := by simp
  obj := fun i h st b hb => by
    obtain ⟨⟨old, he⟩, ⟨o, ho, _, hd⟩, _⟩ := st
    rcases (by simpa using hb : b = e ∨ b = it) with rfl | rfl
    · exact ⟨_, he, fun v q => nomatch q⟩
    · exact ⟨o, ho, fun v q => by rw [hd] at q; cases q⟩
  keep := fun i h h' st q => let ⟨⟨old, he⟩, hi, hne⟩ := st; ⟨⟨old, q e (by simp) _ he⟩, hi.at fun o z => q it (by simp) o z, hne⟩
  item := by
    intro X hP hw hK hc i pnz s σ H E Iv hf st hg
    subst hP hw hK
    obtain ⟨⟨old, he⟩, hit, hne⟩ := st
    obtain ⟨xs, x, hq, hx⟩ := hg
    obtain ⟨its, rvv, p, hzz⟩ := Iv.list hq
    obtain ⟨u, hu, ru⟩ := rvv.get hx
    have le : e < s.heap.objs.size := Heap.lt_size he
    have li : it < s.heap.objs.size := by obtain ⟨_, q, _⟩ := hit; exact Heap.lt_size q
    have hh : X.A.in1.handled = none := Iv.ok.hd hc
    have pl := p.isList
    have hai : a ≠ it := fun z => by
      obtain ⟨o1, h1, h2, _⟩ := hit
      obtain ⟨o2, k1, k2, _⟩ := pl
      rw [z, h1] at k1; cases k1
      rw [h2] at k2; injection k2 with z2; exact absurd z2 (by decide)
    have hae : a ≠ e := fun z => by
      obtain ⟨o2, k1, k2, _⟩ := pl
      have he' : s.heap.get? e = some _ := he
      rw [z, he'] at k1; cases k1
      injection k2 with z2; exact absurd z2 (by decide)
    have lt : i < its.toArray.size := by simpa using (List.getElem?_eq_some_iff.mp hu).1
    have D := drawsFrom k (Draws.list (prog := X.prog) (w := X.w) (A := X.A.in1) hh it a hai its.toArray)
    refine wpAny_pyNext_enum_itemD D he ⟨by omega, by rw [show k + i - k = i by omega]; exact ⟨hit, pl⟩⟩ (by omega) hne (by simp; exact ⟨hne, hae.symm⟩) fun y h' tk hP ho hs' hT hsz hk => ?_
    have ey : y = u := by
      have h1 : its.toArray[i]? = some u := by simpa using hu
      have h2 := hP.2
      rw [show k + i - k = i by omega, h1] at h2
      exact (Option.some.inj h2).symm
    subst ey
    refine ⟨_, rfl, wpAny_letOwnedTupleGo_enum (s := { s with heap := h', toks := tk + 1 }) ho fun h'' he' sb => ?_⟩
    have hT2 : h''.get? s.heap.objs.size = some { cls := .type "tuple", data := .seq #[.int ((k + i : Nat) : Int) tk, y] } := (sb.2 _ (Nat.ne_of_gt le)).trans hT
    have new : ObjOk X.prog X.w (upd H s.heap.objs.size (.tup [.int ((k + i : Nat) : Int), x])) h'' s.heap.objs.size (.tup [.int ((k + i : Nat) : Int), x]) :=
      ⟨by show 2 ≤ sizeLine; decide, [.int ((k + i : Nat) : Int) tk, y], .cons ⟨_, rfl⟩ (.cons ru .nil), ⟨_, hT2, rfl, _, rfl⟩⟩
    have I1 : Inv X pnz σ (upd H s.heap.objs.size (.tup [.int ((k + i : Nat) : Int), x])) { s with heap := h'', toks := tk + 1 } :=
      Iv.turnedNew (ch := [e, it]) (fun b ob hb q => (sb.2 b (fun z => hb (by simp [z]))).trans (hk b ob (fun z => hb (by simp [z])) (fun z => hb (by simp [z])) q)) hf (Nat.le_refl _) new
    have its' : h''.IsListIter it a (i + 1) := by
      have q := hs'.2
      rw [show k + i + 1 - k = i + 1 by omega] at q
      exact q.1.at fun o z => (sb.2 it (Ne.symm hne)).trans z
    refine ⟨.ref s.heap.objs.size, _, I1, rfl, ⟨_, x, rfl, Iv.hok.fresh (Nat.le_refl _), rfl, fun ys hy => by rw [Iv.list_inj hy hq]; exact hx⟩, ⟨⟨y, by rw [show ((k + (i + 1) : Nat) : Int) = ((k + i : Nat) : Int) + 1 by omega]; exact he'⟩, its', hne⟩, fun b hb => ?_⟩
    have hb' : b < s.heap.objs.size := by
      rcases (by simpa using hb : b = e ∨ b = it) with z | z
      · rw [z]; exact le
      · rw [z]; exact li
    rw [upd_ne (Nat.ne_of_lt hb')]
    exact (hf b hb).1
  done := by
    intro X hP hw hK hc i pnz s σ H E Iv hf st hg
    subst hP hw hK
    obtain ⟨⟨old, he⟩, hit, hne⟩ := st
    obtain ⟨xs, hq, hx⟩ := hg
    obtain ⟨its, rvv, p, hzz⟩ := Iv.list hq
    have hh : X.A.in1.handled = none := Iv.ok.hd hc
    obtain ⟨f0, f1, f2, f3, f4, f5⟩ := hf it (by simp)
    have hT : s.TypeIs (.ref e) "enumerate" := ⟨_, he, rfl⟩
    unfold pyNext
    refine wpAny_bind (wpAny_attempt (wpAny_callSpecial?_slot (name := Str.ofString "__next__") hT F.slot_enumerate_next
      (wpAny_call_entry F.slot_enumerate_next hT F.entry_enumerate_next ?_ (F.args_enumerate_next_1 _))))
    show wpAny _ _ (field (.ref e) 2 >>= _) _ _ _
    refine wpAny_bind (wpAny_field he rfl (x := .ref it) rfl ?_)
    refine wpAny_bind (wpAny_nextOf_list_end hh hit p.isList (by simp; rw [← rvv.length]; exact hx) fun h' x he' hx' => ?_)
    obtain ⟨o, ho, hcl⟩ := hx'
    refine wpAny_bind (wpAny_isInstance (T := "StopIteration") (b := true) ⟨o, ho, hcl⟩ isSubtype_stop ?_)
    exact wpAny_pure ⟨rfl, Iv.turned (t' := s.toks) (fun b o hb q => he' b o hb q) f0 f1 f3 f4 f5⟩
  self := fun A i s Q E st h => let ⟨⟨_, he⟩, _⟩ := st; wpAny_pyIter_enum he h
theorem callKw {M : Model} {A : Around} {E : Value → Shared → Prop} {s : Shared} {env : Env} {pos : Pos} {T : String} {e : Expr} {rest : List Expr} {kws : List Keyword} {Q : Value → Shared → Prop}
    (h : wpAny M A (spliced (backTo pos (starEach (e :: rest) env))) (fun vs s1 => wpAny M A (evalAll ((backToKw pos (keywordEach kws env)).map (·.2))) (fun kvs s2 => wpAny M A (call (.type T) vs (((backToKw pos (keywordEach kws env)).filterMap (·.1)).zip kvs)) Q E s2) E s1) E s)
    (he : backTo pos (starEach (e :: rest) env) = (false, eval e env) :: backTo pos (starEach rest env)) (h1 : (backTo pos (starEach (e :: rest) env)).any (·.1) = false) (h2 : (backToKw pos (keywordEach kws env)).all (·.1.isSome) = true)
    (h3 : (backToKw pos (keywordEach kws env)).any (·.1.isNone) = false) : wpAny M A (callWith pos (.type T) [] (backTo pos (starEach (e :: rest) env)) (backToKw pos (keywordEach kws env))) Q E s := by
  have inner : wpAny M A (evalArgs (.type T) true (backTo pos (starEach (e :: rest) env)) (backToKw pos (keywordEach kws env))) (fun a s1 => wpAny M A (call (.type T) ([] ++ a.pos) a.kw) Q E s1) E s := by
    rw [he] at h ⊢
    exact PyProof.Rows.evalArgs_kwB h2 h
  unfold callWith
  refine wpAny_bind (wpAny_holding (wpAny_mono inner (fun a s1 k => wpAny_bind (wpAny_standAt ?_)) fun _ _ x => x))
  simp only [h1, h3, Bool.or_false]
  refine wpAny_bind (wpAny_pure ?_)
  exact wpAny_bind (wpAny_mono k (fun r s2 q => wpAny_bind (wpAny_holding (wpAny_point (wpAny_pure q)))) fun _ _ x => x)
def tgEnumK (K : PySem.W.Frag) (k : Nat) (ta : TA) : TI := fun S H R => ta S H fun vs H1 => ∃ a xs, vs = [.ref a] ∧ SqL K H1 a xs ∧ R (ItnK K a k) H1
theorem pi_enumK {X : Cx} {e : Expr} {ta : TA} {p pos tpos p1 p2 : Pos} {elts : List Expr} {kk k1 : Nat} (k : Nat) {i : Int} (hi : i = (k : Int)) (hk : k < 1000000) (hg : Gl X "enumerate") (hm : X.mg "enumerate" = none) (ha : PA X [e] ta)
    (he : backTo pos (starEach [e] X.env) = (false, eval e X.env) :: backTo pos (starEach [] X.env) := by rfl) (hpl : (backTo pos (starEach [e] X.env)).any (·.1) = false := by rfl)
    (hall : (backToKw pos (keywordEach [⟨some "start", .Constant (.int i) k1 p1, p2⟩] X.env)).all (·.1.isSome) = true := by rfl) (hnone : (backToKw pos (keywordEach [⟨some "start", .Constant (.int i) k1 p1, p2⟩] X.env)).any (·.1.isNone) = false := by rfl)
    (hks : (backToKw pos (keywordEach [⟨some "start", .Constant (.int i) k1 p1, p2⟩] X.env)).filterMap (·.1) = [Str.ofString "start"] := by rfl) :
    PI X (.Tuple elts kk tpos) (.Call (.Name "enumerate" p) [e] [⟨some "start", .Constant (.int i) k1 p1, p2⟩] pos) (tgEnumK X.K k ta) := by
  refine ⟨fun pnz s σ H R Iv h => ?_⟩
  refine wpAny_Call_Name_kw (ld_blt Iv hg hm boot_enumerate ?_ (by decide) (by decide))
  refine callKw (thn (ha.run pos pnz s σ H _ Iv h) fun us s1 ⟨vs, H1, I1, r1, a, xs, ex, hq, q⟩ => thn ((pk_cons (nm := some "start") pe_int pk_nil).run pos pnz s1 σ H1 (fun zs H2 => zs = [.int i] ∧ H2 = H1) I1 ⟨rfl, rfl⟩) fun ws s2 ⟨zs, H2, I2, r2, ez, eh⟩ => ?_) he hpl hall hnone
  subst ez eh
  rw [hks]
  obtain ⟨w1, rfl, t, rfl⟩ := vals1 r2
  subst ex
  cases r1 with
  | cons r rr =>
    cases rr; cases r
    obtain ⟨its, rvv, p', hzz⟩ := I2.list hq
    have fp : ∀ b ∈ [s2.heap.objs.size + 1, s2.heap.objs.size], FpOk X pnz H2 b := fun b hb => by
      have hle : s2.heap.objs.size ≤ b := by
        rcases (by simpa using hb : b = s2.heap.objs.size + 1 ∨ b = s2.heap.objs.size) with z | z
        · rw [z]; exact Nat.le_succ _
        · rw [z]; exact Nat.le_refl _
      exact I2.fpOk hle (I2.hok.fresh hle)
    refine PySem.enum_begins_start (begins_list a its.toArray) p'.isList (by omega) (by omega) fun h' he' hit _ hk' => wpAny_pyIter_enum he' ?_
    rw [hi] at he'
    exact ⟨s2.heap.objs.size + 1, _, _, _, H2, rfl, I2.kept (t' := s2.toks) hk', turn_enumK a _ _ k, ⟨⟨.none, he'⟩, ⟨_, hit, rfl, rfl⟩, Nat.succ_ne_self _⟩, fp, q⟩
def iEnumK (k : Nat) (f : FE) : FI := fun env ah => (f env ah).bind fun d ah1 => match d with
  | .lst xs => .ok (numD k xs) ah1
  | _ => .bad
theorem it_enumK {G : KW} {η : List Addr} {H : Hp} {a : Addr} {ds : List D} {vs : List V} {k : Nat} (h : FzL H a vs) (r : RelAll G η H ds vs) : ItOk G η H (ItnK G.K a k) (numD k ds) where
  go := fun i d hd H' e => by
    obtain ⟨x, hx, rfl⟩ := numD_get hd
    obtain ⟨v, hv, rvv⟩ := r.get hx
    refine ⟨⟨vs, v, (h.ext e).sq, hv⟩, fun z H'' w => ?_⟩
    obtain ⟨T, v', rfl, hT, rfl, w1⟩ := w
    have e1 := w1 vs (h.ext e).sq
    rw [hv] at e1; cases e1
    exact pair_new hT (.int _) (rvv.ext (List.prefix_refl _) e)
  stop := fun i hi H' e => ⟨vs, (h.ext e).sq, by rw [numD_len, r.length] at hi; exact hi⟩
theorem i_enumK {X : Cx} {W : XW} {e : Expr} {f : FE} {p pos tpos p1 p2 : Pos} {elts : List Expr} {kk k1 : Nat} (k : Nat) {i : Int} (hi : i = (k : Int)) (hk : k < 1000000) (hg : Gl X "enumerate") (hm : X.mg "enumerate" = none) (h : PE X e (SX X W f))
    (h3 : starEach [e] X.env = (false, eval e X.env) :: starEach [] X.env := by rfl) (he : backTo pos (starEach [e] X.env) = (false, eval e X.env) :: backTo pos (starEach [] X.env) := by rfl) (hpl : (backTo pos (starEach [e] X.env)).any (·.1) = false := by rfl)
    (hall : (backToKw pos (keywordEach [⟨some "start", .Constant (.int i) k1 p1, p2⟩] X.env)).all (·.1.isSome) = true := by rfl) (hnone : (backToKw pos (keywordEach [⟨some "start", .Constant (.int i) k1 p1, p2⟩] X.env)).any (·.1.isNone) = false := by rfl)
    (hks : (backToKw pos (keywordEach [⟨some "start", .Constant (.int i) k1 p1, p2⟩] X.env)).filterMap (·.1) = [Str.ofString "start"] := by rfl) :
    PI X (.Tuple elts kk tpos) (.Call (.Name "enumerate" p) [e] [⟨some "start", .Constant (.int i) k1 p1, p2⟩] pos) (IX X W (iEnumK k f)) :=
  PI.imp (pi_enumK k hi hk hg hm (a_cons h a_nil h3) he hpl hall hnone hks) fun S H R ⟨env, ah, η, en, pk, h⟩ => by
    refine ⟨env, ah, η, en, pk, ?_⟩
    have e1 : iArgs [f] env ah = (f env ah).bind fun d ah1 => .ok [d] ah1 := by
      unfold iArgs
      cases f env ah <;> rfl
    rw [e1]
    unfold iEnumK at h
    cases e2 : f env ah with
    | ok d ah1 =>
      rw [e2] at h
      simp only [Res.bind_ok] at h ⊢
      cases d with
      | lst xs =>
        intro η' H' m p' vs rs
        cases rs with
        | cons r rr =>
          cases rr
          cases r with
          | lst fz rl => exact ⟨_, _, rfl, fz.sq, h η' H' m p' _ (it_enumK fz rl)⟩
      | _ => exact h.elim
    | exc x e a => rw [e2] at h; exact h
    | bad => rw [e2] at h; exact h.elim
end DL
set_option maxHeartbeats 1500000
namespace DL
open PySem PySem.Spec PyProof.Rows L2
theorem RelAll.erase {G : KW} {η : List Addr} {H : Hp} : ∀ {ds : List D} {vs : List V} (i : Nat), RelAll G η H ds vs → RelAll G η H (ds.eraseIdx i) (vs.eraseIdx i)
  | _, _, _, .nil => .nil
  | _, _, 0, .cons _ r => r
  | _, _, i + 1, .cons h r => .cons h (RelAll.erase i r)
def oPop (x y : D) (ah : AH) : Res D := match x, y with
  | .ref n, .int i => match ah[n]? with
    | some (.lst ds) => if 0 ≤ i ∧ i < 2 ^ 62 then (match ds[i.toNat]? with
      | some d => .ok d (ah.set n (.lst (ds.eraseIdx i.toNat)))
      | none => .bad) else .bad
    | _ => .bad
  | _, _ => .bad
def iPop (fo f : FE) : FE := fun env ah => (fo env ah).bind fun x ah1 => if isLst ah1 x = true then (f env ah1).bind fun y ah2 => oPop x y ah2 else .bad
section
variable {X : Cx} {W : XW}
theorem pop_ok {G : KW} {η : List Addr} {H : Hp} {ah : AH} {x y : D} {v u : V} {Q : VK} (p : HpOk G η H ah) (rx : Rel G η H x v) (ry : Rel G η H y u) (h : Post G W η H (oPop x y ah) (QV G Q)) : rPopAt v [u] H Q := by
  unfold oPop at h
  split at h
  · rename_i n i
    cases ry
    cases rx with
    | ref hn =>
      rename_i a
      obtain ⟨o, ho, ok⟩ := p.at hn
      rw [ho] at h
      cases o with
      | lst ds =>
        obtain ⟨vs, h1, r1⟩ := ok
        simp only at h
        split at h
        · rename_i hi
          split at h
          · rename_i d hd
            obtain ⟨w, hw, rw'⟩ := r1.get hd
            have m : Mv η H η (upd H a (.lst (vs.eraseIdx i.toNat))) := .upd (List.mem_of_getElem? hn) h1 (fun _ z => nomatch z) (fun _ _ z => nomatch z)
            have lt := (List.getElem?_eq_some_iff.mp hw).1
            refine ⟨a, vs, i, i.toNat, w, rfl, rfl, h1, by omega, by omega, ?_, hw, h η _ m (p.put hn h1 (fun _ z => nomatch z) (fun _ _ z => nomatch z) ⟨_, upd_same, (RelAll.erase _ r1).mv m⟩) _ (rw'.mv m)⟩
            unfold seqIndex?
            simp only
            first
              | (rw [if_neg (by omega), if_pos (by omega)])
              | (split <;> first | omega | rfl | (split <;> first | omega | rfl))
              | (simp; omega)
          · exact h.elim
        · exact h.elim
      | _ => exact h.elim
  · exact h.elim
theorem j_pop {o e : Expr} {fo f : FE} {apos cpos : Pos} (ho : PE X o (SX X W fo)) (he : PE X e (SX X W f))
    (hbase : attributeBase o "pop" X.env (eval o X.env) = eval o X.env := by rfl)
    (hfew : ((backTo cpos (starEach [e] X.env)).all (fun x => !x.1) && (backToKw cpos (keywordEach [] X.env)).all (fun x => x.1.isSome)
      && decide ([e].length + ([] : List Keyword).length + (if ([] : List Keyword).isEmpty then 0 else 1) < 30)) = true := by rfl)
    (hline : (apos.endLine == cpos.line) = true := by rfl) (hs : starEach [e] X.env = (false, eval e X.env) :: starEach [] X.env := by rfl) (hplain : (backTo cpos (starEach [] X.env)).any (·.1) = false := by rfl) :
    PE X (.Call (.Attribute o "pop" apos) [e] [] cpos) (SX X W (iPop fo f)) :=
  PE.imp (pe_bm PySem.F.plainAttrs_list PySem.F.slot_list_pop PySem.F.type_list_pop mt_popAt ho (a_cons he a_nil hs) hbase hfew hline hs hplain) fun S H Q ⟨env, ah, η, en, pk, h⟩ => by
    refine ⟨env, ah, η, en, pk, h.bind.imp0 fun x η1 H1 ah1 m1 p1 q1 => fun v rvv => ?_⟩
    split at q1
    · rename_i hx
      obtain ⟨n, a, ds, vs, rfl, rfl, h1, h2, h3, h4⟩ := lst_at p1 rvv hx
      refine ⟨.inl ⟨rfl, vs, .inl (.inl h3)⟩, env, ah1, η1, en.mv m1, p1, ?_⟩
      unfold iArgs iArgs
      have q2 := q1.bind.imp0 (Q' := fun y η2 H2 ah2 => Post (gX X) W η2 H2 ((Res.ok [] ah2).bind fun ds ah3 => Res.ok (y :: ds) ah3) fun ds η' H' _ => ∀ vs, RelAll (gX X) η' H' ds vs → rPopAt (.ref a) vs H' Q) fun y η2 H2 ah2 m2 p2 q2 => ?_
      · revert q2
        generalize f env ah1 = r
        intro q2
        cases r with
        | ok d ah' => exact fun η' H' m p => (q2 η' H' m p).at p
        | exc x e' ah' => exact q2
        | bad => exact q2
      · rw [Res.bind_ok]
        intro η3 H3 m3 p3 us rs
        cases rs with
        | cons r rr =>
          cases rr
          exact pop_ok p3 ((rvv.mv m2).mv m3) r (q2.mono m3)
    · exact q1.elim
end
theorem ePop {fo f : FE} {env : AE} {ah a1 a2 : AH} {n k : Nat} {ds es : List D} {d : D} (h1 : fo env ah = .ok (.ref n) a1) (h2 : a1[n]? = some (.lst ds)) (h3 : f env a1 = .ok (dI k) a2) (h4 : a2[n]? = some (.lst es)) (h5 : es[k]? = some d) (hk : k < 1000000) : iPop fo f env ah = .ok d (a2.set n (.lst (es.eraseIdx k))) := by
  unfold iPop
  rw [h1, Res.bind_ok]
  have e : isLst a1 (.ref n) = true := by unfold isLst; simp only [h2]
  rw [if_pos e, h3, Res.bind_ok]
  unfold oPop dI
  simp only [h4, Int.toNat_natCast, h5]
  rw [if_pos ⟨by omega, by omega⟩]
end DL
namespace DL
open PySem PySem.Spec PyProof.Rows L2
def firstAt (q : PyData) : List PyData → Option Nat
  | [] => none
  | p :: ps => if PyData.eqv p q = true then some 0 else (firstAt q ps).map (· + 1)
theorem firstAt_ok {q : PyData} : ∀ {ps : List PyData} {j : Nat}, firstAt q ps = some j → (∃ z, ps[j]? = some z ∧ PyData.eqv z q = true) ∧ ∀ (m : Nat) (z' : PyData), m < j → ps[m]? = some z' → PyData.eqv z' q = false
  | [], _, h => nomatch h
  | p :: ps, j, h => by
    unfold firstAt at h
    by_cases c : PyData.eqv p q = true
    · rw [if_pos c] at h
      cases h
      exact ⟨⟨p, rfl, c⟩, fun m _ hm => absurd hm (Nat.not_lt_zero _)⟩
    · rw [if_neg c] at h
      obtain ⟨i, hi, rfl⟩ := Option.map_eq_some_iff.mp h
      obtain ⟨⟨z, h1, h2⟩, h3⟩ := firstAt_ok hi
      refine ⟨⟨z, h1, h2⟩, fun m z' hm hz => ?_⟩
      cases m with
      | zero =>
        cases hz
        exact Bool.eq_false_iff.mpr c
      | succ m => exact h3 m z' (by omega) hz
def oIndex (x y : D) (ah : AH) : Res D := match toPy x, toPy y with
  | some (.list ps), some q => if SeqAt.shaped (.list ps) = true ∧ SeqAt.shaped q = true then (match firstAt q ps with
    | some j => .ok (.int (j : Nat)) ah
    | none => .bad) else .bad
  | _, _ => .bad
def isLs (x : D) : Bool := match x with
  | .lst _ => true
  | _ => false
def iIndex (fo f : FE) : FE := fun env ah => (fo env ah).bind fun x ah1 => if isLs x = true then (f env ah1).bind fun y ah2 => oIndex x y ah2 else .bad
section
variable {X : Cx} {W : XW}
theorem index_ok {G : KW} {η : List Addr} {H : Hp} {ah : AH} {a : Addr} {x y : D} {u : V} {Q : VK} (p : HpOk G η H ah) (rx : Rel G η H x (.ref a)) (ry : Rel G η H y u) (h : Post G W η H (oIndex x y ah) (QV G Q)) : rIndexD G.K (.ref a) [u] H (QF Q) := by
  unfold oIndex at h
  split at h
  · rename_i ps q e1 e2
    split at h
    · rename_i hs
      split at h
      · rename_i j hj
        obtain ⟨⟨z, h1, h2⟩, h3⟩ := firstAt_ok hj
        exact ⟨a, u, q, ps, j, z, rfl, rfl, rel_dp _ rx e1, rel_dp _ ry e2, hs.1, hs.2, h1, h2, h3, post_val p (.int _) h⟩
      · exact h.elim
    · exact h.elim
  · exact h.elim
theorem j_index {o e : Expr} {fo f : FE} {apos cpos : Pos} (hu : X.A.units + 65 < cLine) (ho : PE X o (SX X W fo)) (he : PE X e (SX X W f))
    (hbase : attributeBase o "index" X.env (eval o X.env) = eval o X.env := by rfl)
    (hfew : ((backTo cpos (starEach [e] X.env)).all (fun x => !x.1) && (backToKw cpos (keywordEach [] X.env)).all (fun x => x.1.isSome)
      && decide ([e].length + ([] : List Keyword).length + (if ([] : List Keyword).isEmpty then 0 else 1) < 30)) = true := by rfl)
    (hline : (apos.endLine == cpos.line) = true := by rfl) (hs : starEach [e] X.env = (false, eval e X.env) :: starEach [] X.env := by rfl) (hplain : (backTo cpos (starEach [] X.env)).any (·.1) = false := by rfl) :
    PE X (.Call (.Attribute o "index" apos) [e] [] cpos) (SX X W (iIndex fo f)) :=
  PE.imp (pe_fz (pe_bm PySem.F.plainAttrs_list PySem.F.slot_list_index PySem.F.type_list_index (mt_indexD hu) ho (a_cons he a_nil hs) hbase hfew hline hs hplain)) fun S H Q ⟨env, ah, η, en, pk, h⟩ => by
    refine ⟨env, ah, η, en, pk, h.bind.imp0 fun x η1 H1 ah1 m1 p1 q1 => fun v rvv => ?_⟩
    split at q1
    · rename_i hx
      cases x with
      | lst xs =>
        obtain ⟨a, us, rfl, r1, _, q3⟩ := seq_rel (b := false) (ds := xs) p1 rvv rfl
        refine ⟨.inl ⟨rfl, us, .inl (q3 rfl)⟩, env, ah1, η1, en.mv m1, p1, ?_⟩
        unfold iArgs iArgs
        have q2 := q1.bind.imp0 (Q' := fun y η2 H2 ah2 => Post (gX X) W η2 H2 ((Res.ok [] ah2).bind fun ds ah3 => Res.ok (y :: ds) ah3) fun ds η' H' _ => ∀ vs, RelAll (gX X) η' H' ds vs → rIndexD X.K (.ref a) vs H' (QF Q)) fun y η2 H2 ah2 m2 p2 q2 => ?_
        · revert q2
          generalize f env ah1 = r
          intro q2
          cases r with
          | ok d ah' => exact fun η' H' m p => (q2 η' H' m p).at p
          | exc x e' ah' => exact q2
          | bad => exact q2
        · rw [Res.bind_ok]
          intro η3 H3 m3 p3 us2 rs
          cases rs with
          | cons r rr =>
            cases rr
            exact index_ok p3 ((rvv.mv m2).mv m3) r (q2.mono m3)
      | _ => cases hx
    · exact q1.elim
end
end DL
namespace DL
open PySem PySem.Spec PyProof.Rows L2
theorem RelAll.cat {G : KW} {η : List Addr} {H : Hp} : ∀ {ds es : List D} {vs us : List V}, RelAll G η H ds vs → RelAll G η H es us → RelAll G η H (ds ++ es) (vs ++ us)
  | _, _, _, _, .nil, r => r
  | _, _, _, _, .cons h r, q => .cons h (RelAll.cat r q)
def oExt (x y : D) (ah : AH) : Res D := match x, y with
  | .ref n, .ref m => match ah[n]?, ah[m]? with
    | some (.lst ds), some (.lst es) => if ds.length + es.length ≤ sizeLine then .ok .non (ah.set n (.lst (ds ++ es))) else .bad
    | _, _ => .bad
  | _, _ => .bad
def iExt (fo f : FE) : FE := fun env ah => (fo env ah).bind fun x ah1 => if isLst ah1 x = true then (f env ah1).bind fun y ah2 => oExt x y ah2 else .bad
section
variable {X : Cx} {W : XW}
theorem ext_ok {G : KW} {η : List Addr} {H : Hp} {ah : AH} {x y : D} {v u : V} {Q : VK} (p : HpOk G η H ah) (rx : Rel G η H x v) (ry : Rel G η H y u) (h : Post G W η H (oExt x y ah) (QV G Q)) : rExtend v [u] H Q := by
  unfold oExt at h
  split at h
  · rename_i n k
    cases ry with
    | ref hk =>
      cases rx with
      | ref hn =>
        rename_i c a
        obtain ⟨o, ho, ok⟩ := p.at hn
        obtain ⟨o2, ho2, ok2⟩ := p.at hk
        rw [ho, ho2] at h
        cases o with
        | lst ds =>
          cases o2 with
          | lst es =>
            obtain ⟨vs, h1, r1⟩ := ok
            obtain ⟨us, h2, r2⟩ := ok2
            simp only at h
            split at h
            · rename_i hz
              have m : Mv η H η (upd H a (.lst (vs ++ us))) := .upd (List.mem_of_getElem? hn) h1 (fun _ z => nomatch z) (fun _ _ z => nomatch z)
              exact ⟨a, _, vs, us, rfl, rfl, h1, h2, by rw [← r1.length, ← r2.length]; exact hz, h η _ m (p.put hn h1 (fun _ z => nomatch z) (fun _ _ z => nomatch z) ⟨_, upd_same, (RelAll.cat r1 r2).mv m⟩) _ .non⟩
            · exact h.elim
          | _ => exact h.elim
        | _ => exact h.elim
  · exact h.elim
theorem j_ext {o e : Expr} {fo f : FE} {apos cpos : Pos} (ho : PE X o (SX X W fo)) (he : PE X e (SX X W f))
    (hbase : attributeBase o "extend" X.env (eval o X.env) = eval o X.env := by rfl)
    (hfew : ((backTo cpos (starEach [e] X.env)).all (fun x => !x.1) && (backToKw cpos (keywordEach [] X.env)).all (fun x => x.1.isSome)
      && decide ([e].length + ([] : List Keyword).length + (if ([] : List Keyword).isEmpty then 0 else 1) < 30)) = true := by rfl)
    (hline : (apos.endLine == cpos.line) = true := by rfl) (hs : starEach [e] X.env = (false, eval e X.env) :: starEach [] X.env := by rfl) (hplain : (backTo cpos (starEach [] X.env)).any (·.1) = false := by rfl) :
    PE X (.Call (.Attribute o "extend" apos) [e] [] cpos) (SX X W (iExt fo f)) :=
  PE.imp (pe_bm PySem.F.plainAttrs_list PySem.F.slot_list_extend PySem.F.type_list_extend mt_extend ho (a_cons he a_nil hs) hbase hfew hline hs hplain) fun S H Q ⟨env, ah, η, en, pk, h⟩ => by
    refine ⟨env, ah, η, en, pk, h.bind.imp0 fun x η1 H1 ah1 m1 p1 q1 => fun v rvv => ?_⟩
    split at q1
    · rename_i hx
      obtain ⟨n, a, ds, vs, rfl, rfl, h1, h2, h3, h4⟩ := lst_at p1 rvv hx
      refine ⟨.inl ⟨rfl, vs, .inl (.inl h3)⟩, env, ah1, η1, en.mv m1, p1, ?_⟩
      unfold iArgs iArgs
      have q2 := q1.bind.imp0 (Q' := fun y η2 H2 ah2 => Post (gX X) W η2 H2 ((Res.ok [] ah2).bind fun ds ah3 => Res.ok (y :: ds) ah3) fun ds η' H' _ => ∀ vs, RelAll (gX X) η' H' ds vs → rExtend (.ref a) vs H' Q) fun y η2 H2 ah2 m2 p2 q2 => ?_
      · revert q2
        generalize f env ah1 = r
        intro q2
        cases r with
        | ok d ah' => exact fun η' H' m p => (q2 η' H' m p).at p
        | exc x e' ah' => exact q2
        | bad => exact q2
      · rw [Res.bind_ok]
        intro η3 H3 m3 p3 us rs
        cases rs with
        | cons r rr =>
          cases rr
          exact ext_ok p3 ((rvv.mv m2).mv m3) r (q2.mono m3)
    · exact q1.elim
theorem j_def0 {k : Nat} {f : Addr} {fd : FuncData} {ps : List Str} {F : List D → AH → Res D} {x : Str} {p pos : Pos} (hf : FnG X.prog X.w X.K X.mg X.base CX0 k f fd ps (spN (gX X) 0 F)) (hr : Room k X.A) (hn : NoRepr X.A) (hg : Gl X x) (hm : X.mg x = some (.ref f)) (hk : PySem.W.keepIn X.K (.ref f) = true)
    (hb : Binds X.K fd ps []) (hdb : (x == ("__debug__" : Str)) = false := by decide) : PE X (.Call (.Name x p) [] [] pos) (SX X W (iDef F [])) := PE.imp (pe_callG0 hf hr hn hg hm hk hb .nil pass0 hdb) fun S H Q ⟨env, ah, η, en, pk, h⟩ => by
  have h' : Post (gX X) W η H ((iArgs [] env ah).bind fun ds ah1 => (F ds ah1).nox) (QV (gX X) Q) := h
  rw [show iArgs [] env ah = .ok [] ah from rfl, Res.bind_ok] at h'
  exact ⟨[], ah, η, rfl, .nil, pk, Post.nox h'⟩
theorem Ok1.jd0 {x : Str} {k : Nat} {ps : List Str} {F : List D → AH → Res D} {p pos : Pos} (h : Ok1 X.prog X.w X.K X.mg X.base x k ps F) (hr : Room k X.A) (hn : NoRepr X.A) (hg : Gl X x) (hl : ps.length = 0)
    (hdb : (x == ("__debug__" : Str)) = false := by decide) : PE X (.Call (.Name x p) [] [] pos) (SX X W (iDef F [])) := by
  obtain ⟨f, fd, hm, hk, hb, hf⟩ := h
  rw [hl] at hf
  exact j_def0 hf hr hn hg hm hk hb hdb
end
end DL
namespace DL
open PySem PySem.Spec PyProof.Rows L2
def rMulStr : R2 := fun x y H Q => ∃ z k, x = .str z ∧ y = .int k ∧ MulOk z k ∧ Q (.str (Txt.mul z k)) H
def rMulS (K : PySem.W.Frag) : R2 := fun x y H Q => rMulStr x y H Q ∨ rMulA K x y H Q
section
variable {X : Cx} {W : XW}
theorem op_mulStr : OpR X (binaryOp .Mult) rMulStr := by
  intro pins s σ H x y v u Q I rx ry h
  obtain ⟨z, k, rfl, rfl, hz, q⟩ := h
  obtain ⟨t, rfl⟩ := rx
  obtain ⟨t', rfl⟩ := ry
  exact SB.mul hz fun t' tk => ⟨.str (Txt.mul z k), H, I.tok _, ⟨_, rfl⟩, q⟩
theorem op_mulS : OpR X (binaryOp .Mult) (rMulS X.K) := op_mulStr.or op_mulA
end
theorem mul_fits {z : Str} {k : Int} (h1 : -1000 ≤ k) (h2 : k ≤ 1000) (h3 : z.length ≤ 1000) : MulOk z k := by
  refine ⟨?_, fun c _ => ?_, fun c _ => ?_⟩
  · rw [decide_eq_false (by omega), decide_eq_false (by omega)]; rfl
  · have hm : (z.length : Int) * k ≤ 1000 * 1000 := Int.mul_le_mul (by omega) h2 (by omega) (by omega)
    have := Int.le_ediv_of_mul_le (a := (z.length : Int)) (b := 2 ^ 63 - 1) (c := k) (by omega) (by omega)
    omega
  · have hm : z.length * k.toNat ≤ 1000 * 1000 := Nat.mul_le_mul h3 (by omega)
    unfold Builtin.Str.tooLong
    rw [sizeLine_eq]
    exact decide_eq_false (by omega)
/-- x * y, texts too -/
def oMulS (x y : D) (ah : AH) : Res D := match x, y with
  | .str z, .int k => if -1000 ≤ k ∧ k ≤ 1000 ∧ z.length ≤ 1000 then .ok (.str (Txt.mul z k)) ah else .bad
  | x, y => oMul x y ah
section
variable {G : KW} {W : XW}
theorem ok_mulS : OpOk G W (rMulS G.K) oMulS := by
  intro η H ah x y v u Q p rx ry h
  unfold oMulS at h
  split at h
  · cases rx; cases ry
    split at h
    · rename_i c
      exact .inl ⟨_, _, rfl, rfl, mul_fits c.1 c.2.1 c.2.2, post_val p (.str _) h⟩
    · exact h.elim
  · exact .inr (ok_mul η H ah x _ v u Q p rx ry h)
end
theorem mulS {z : Str} {k : Nat} {ah : AH} (h1 : k ≤ 1000) (h2 : z.length ≤ 1000) : oMulS (.str z) (dI k) ah = .ok (.str (Txt.mul z (k : Int))) ah := by
  show (if -1000 ≤ (k : Int) ∧ (k : Int) ≤ 1000 ∧ z.length ≤ 1000 then Res.ok (D.str (Txt.mul z (k : Int))) ah else .bad) = _
  rw [if_pos ⟨by omega, by omega, h2⟩]
theorem strN {n : Nat} {ah : AH} (h : n < 1000000) : oStr [dI n] ah = .ok (.str (toString ((n : Nat) : Int))) ah ∧ (toString ((n : Nat) : Int) : Str).length ≤ 13 := by
  have s := shw_int (i := ((n : Nat) : Int)) (by omega)
  have s1 : decide (((n : Nat) : Int).natAbs.log2 < 1920) = true := s.sh
  have s2 : decide ((PyData.shown (.int ((n : Nat) : Int))).length ≤ 13) = true := s.lf
  refine ⟨?_, of_decide_eq_true s2⟩
  show (if ((n : Nat) : Int).natAbs.log2 < 1920 then Res.ok (D.str (toString ((n : Nat) : Int))) ah else .bad) = _
  rw [if_pos (of_decide_eq_true s1)]
theorem addS {a b : Str} {ah : AH} (h : a.length + b.length ≤ 1048576) : oAdd (.str a) (.str b) ah = .ok (.str (a ++ b)) ah := by
  show (if a.length + b.length ≤ sizeLine then Res.ok (D.str (a ++ b)) ah else .bad) = _
  rw [if_pos (small h)]
theorem slS {z : Str} {lo hi : Option Int} {ah : AH} (h : z.length ≤ 1048576) : oSl (.str z) lo hi ah = .ok (.str (cutS z lo hi)) ah := by
  show (if z.length ≤ sizeLine then Res.ok (D.str (cutS z lo hi)) ah else .bad) = _
  rw [if_pos (small h)]
theorem cut_len {z : Str} {lo hi : Option Int} : (cutS z lo hi).length ≤ z.length := by
  unfold cutS PySem.Str.length
  simp only [List.size_toArray, List.length_take, List.length_drop]
  have : z.cps.toList.length = z.cps.size := rfl
  omega
theorem app_nil (a : Str) : a ++ (⟨#[]⟩ : Str) = a := by
  cases a
  show Str.mk (_ ++ #[]) = _
  rw [Array.append_empty]
theorem ixS {z : Str} {i : Nat} {c : Nat} {ah : AH} (hz : z.length ≤ 1048576) (h : z.cps.toList[i]? = some c) : oIx (.str z) (dI i) ah = .ok (.str ⟨#[c]⟩) ah := by
  have e : atI z.cps.toList (i : Int) = some c := atI_nat h
  unfold oIx dI
  simp only [seqD]
  rw [if_pos (small hz), e]
end DL
namespace DL
open PySem PySem.Spec PyProof.Rows L2
mutual
/-- plain data: no constant's tuple in it -/
def dat : D → Option PyData
  | .non => some .none
  | .bl b => some (.bool b)
  | .int i => some (.int i)
  | .str x => some (.str x)
  | .tup ds => match datL ds with
    | some ps => some (.tuple ps)
    | none => none
  | .lst ds => match datL ds with
    | some ps => some (.list ps)
    | none => none
  | .ct _ => none
  | .dk _ _ => none
  | .dt _ _ => none
  | .cd _ _ => none
  | .ref _ => none
  | .fn _ => none
  | .ty _ => none
def datL : List D → Option (List PyData)
  | [] => some []
  | d :: ds => match dat d, datL ds with
    | some p, some ps => some (p :: ps)
    | _, _ => none
end
mutual
def ofPy : PyData → D
  | .none => .non
  | .bool b => .bl b
  | .int i => .int i
  | .str x => .str x
  | .list xs => .lst (ofPyL xs)
  | .tuple xs => .tup (ofPyL xs)
  | .dict _ => .non
def ofPyL : List PyData → List D
  | [] => []
  | x :: xs => ofPy x :: ofPyL xs
end
mutual
theorem dat_py : ∀ (d : D) {q : PyData}, dat d = some q → toPy d = some q ∧ ofPy q = d
  | .non, _, e => by simp only [dat] at e; cases e; exact ⟨by simp only [toPy], rfl⟩
  | .bl _, _, e => by simp only [dat] at e; cases e; exact ⟨by simp only [toPy], rfl⟩
  | .int _, _, e => by simp only [dat] at e; cases e; exact ⟨by simp only [toPy], rfl⟩
  | .str _, _, e => by simp only [dat] at e; cases e; exact ⟨by simp only [toPy], rfl⟩
  | .tup ds, _, e => by
    simp only [dat] at e
    split at e
    · rename_i ps h
      cases e
      obtain ⟨h1, h2⟩ := dat_pyL ds h
      exact ⟨by simp only [toPy, h1], by simp only [ofPy, h2]⟩
    · cases e
  | .lst ds, _, e => by
    simp only [dat] at e
    split at e
    · rename_i ps h
      cases e
      obtain ⟨h1, h2⟩ := dat_pyL ds h
      exact ⟨by simp only [toPy, h1], by simp only [ofPy, h2]⟩
    · cases e
  | .ct _, _, e => by simp only [dat] at e; cases e
  | .dk _ _, _, e => by simp only [dat] at e; cases e
  | .dt _ _, _, e => by simp only [dat] at e; cases e
  | .cd _ _, _, e => by simp only [dat] at e; cases e
  | .ref _, _, e => by simp only [dat] at e; cases e
  | .fn _, _, e => by simp only [dat] at e; cases e
  | .ty _, _, e => by simp only [dat] at e; cases e
theorem dat_pyL : ∀ (ds : List D) {qs : List PyData}, datL ds = some qs → toPyL ds = some qs ∧ ofPyL qs = ds
  | [], _, e => by simp only [datL] at e; cases e; exact ⟨by simp only [toPyL], rfl⟩
  | d :: ds, _, e => by
    simp only [datL] at e
    split at e
    · rename_i p ps h1 h2
      cases e
      obtain ⟨a1, a2⟩ := dat_py d h1
      obtain ⟨b1, b2⟩ := dat_pyL ds h2
      exact ⟨by simp only [toPyL, a1, b1], by simp only [ofPyL, a2, b2]⟩
    · cases e
end
theorem datL_get : ∀ {ds : List D} {qs : List PyData} {i : Nat} {d : D}, datL ds = some qs → ds[i]? = some d → ∃ q, qs[i]? = some q ∧ dat d = some q
  | [], _, _, _, _, h => by simp at h
  | d0 :: ds, _, i, d, e, h => by
    simp only [datL] at e
    split at e
    · rename_i p ps h1 h2
      cases e
      cases i with
      | zero => cases h; exact ⟨p, rfl, h1⟩
      | succ i => exact datL_get (i := i) h2 (by simpa using h)
    · cases e
theorem datL_map {α : Type} {e : α → D} {p : α → PyData} (h : ∀ x, dat (e x) = some (p x)) : ∀ xs : List α, datL (xs.map e) = some (xs.map p)
  | [] => rfl
  | x :: xs => by simp only [List.map_cons, datL, h, datL_map h xs]
theorem dp_len {K : PySem.W.Frag} {H : Hp} : ∀ {xs : List V} {qs : List PyData}, DpAll K H xs qs → xs.length = qs.length
  | _, _, .nil => rfl
  | _, _, .cons _ r => by rw [List.length_cons, List.length_cons, dp_len r]
section
variable {X : Cx}
def rBest (K : PySem.W.Frag) (g : PyData → List PyData → PyData) : List V → Hp → VK → Prop := fun vs H Q => ∃ (a : Addr) (xs : List V) (q : PyData) (qs : List PyData), vs = [.ref a] ∧ (SqL K H a xs ∨ SqT K H a xs) ∧ DpAll K H xs (q :: qs) ∧ PySem.W.AlikeAll (q :: qs) ∧ PyData.depthAll (q :: qs) ≤ 40 ∧ ∀ (i : Nat) (x : V), xs[i]? = some x → (q :: qs)[i]? = some (g q qs) → Q x H
theorem best_fin {pnz : List (Addr × Obj)} {σ : L2.St} {H : Hp} {s : Shared} {xs : List V} {its : List Value} {qs : List PyData} {as : List Addr} {Q : VK} {m : PyData} (I : Inv X pnz σ H s) (rv : Vals xs its) (hr : ReadsAll s.heap its qs as) (k : ∀ (i : Nat) (x : V), xs[i]? = some x → qs[i]? = some m → Q x H)
    {i : Nat} {v : Value} {h' : Heap} {tk : Nat} {bs : List Addr} (hv : its.toArray[i]? = some v) (r : Reads h' v m bs) (hk : ∀ b o, s.heap.get? b = some o → h'.get? b = some o) : EP X pnz σ Q v { s with heap := h', toks := tk } := by
  have hv' : its[i]? = some v := by simpa using hv
  obtain ⟨bs', r1, r2, r3, r4⟩ := PySem.W.readsAll_at hr i v hv'
  obtain ⟨e1, e2⟩ := Reads.unique (Reads.keeps hk r1) _ _ r
  have l : i < xs.length := by
    have h1 := (List.getElem?_eq_some_iff.mp hv').1
    rw [rv.length]
    exact h1
  obtain ⟨u, h1, h2⟩ := rv.get (List.getElem?_eq_getElem l)
  rw [hv'] at h1
  cases h1
  refine ⟨xs[i], H, I.kept hk, h2, k i _ (List.getElem?_eq_getElem l) ?_⟩
  rw [List.getElem?_eq_getElem r2]
  rw [← e1, List.getD_eq_getElem?_getD, List.getElem?_eq_getElem r2]
  rfl
theorem cr_minP (hu : X.A.units + 64 < cLine) (hc : X.calm = true) : CallR X (.builtin "min") (rBest X.K PySem.W.minD) := by
  intro pnz s σ H vs us Q I r h
  obtain ⟨a, xs, q, qs, rfl, hs, hd, ha, dp, k⟩ := h
  rw [Vals.ref1 r]
  rcases hs with hs | hs
  · obtain ⟨its, rv, ⟨o, n, ho, hcl, hn, hdt⟩, hz⟩ := I.list hs
    obtain ⟨as, hr⟩ := Dp.readsAll I _ xs its hd rv
    exact PySem.W.min_list_data (vs := its.toArray) (I.ok.hd hc) ⟨o, ho, hcl, n, hdt⟩ (by simpa using hr) ha (by omega) fun i v h' tk bs hv rd hk => best_fin I rv hr k hv rd hk
  · obtain ⟨its, rv, ht, hz⟩ := I.tuple hs
    obtain ⟨as, hr⟩ := Dp.readsAll I _ xs its hd rv
    exact PySem.W.min_tuple_data (vs := its.toArray) (I.ok.hd hc) ht (by simpa using hr) ha (by omega) fun i v h' tk bs hv rd hk => best_fin I rv hr k hv rd hk
theorem cr_maxP (hu : X.A.units + 64 < cLine) (hc : X.calm = true) : CallR X (.builtin "max") (rBest X.K PySem.W.maxD) := by
  intro pnz s σ H vs us Q I r h
  obtain ⟨a, xs, q, qs, rfl, hs, hd, ha, dp, k⟩ := h
  rw [Vals.ref1 r]
  rcases hs with hs | hs
  · obtain ⟨its, rv, ⟨o, n, ho, hcl, hn, hdt⟩, hz⟩ := I.list hs
    obtain ⟨as, hr⟩ := Dp.readsAll I _ xs its hd rv
    exact PySem.W.max_list_data (vs := its.toArray) (I.ok.hd hc) ⟨o, ho, hcl, n, hdt⟩ (by simpa using hr) ha (by omega) fun i v h' tk bs hv rd hk => best_fin I rv hr k hv rd hk
  · obtain ⟨its, rv, ht, hz⟩ := I.tuple hs
    obtain ⟨as, hr⟩ := Dp.readsAll I _ xs its hd rv
    exact PySem.W.max_tuple_data (vs := its.toArray) (I.ok.hd hc) ht (by simpa using hr) ha (by omega) fun i v h' tk bs hv rd hk => best_fin I rv hr k hv rd hk
def rBestD (K : PySem.W.Frag) (g : PyData → List PyData → PyData) (dv : V) : List V → List V → Hp → VK → Prop := fun vs zs H Q => ∃ (a : Addr) (xs : List V) (ps : List PyData), vs = [.ref a] ∧ zs = [dv] ∧ (SqL K H a xs ∨ SqT K H a xs) ∧ DpAll K H xs ps ∧ PySem.W.AlikeAll ps ∧ PyData.depthAll ps ≤ 40 ∧ (ps = [] → Q dv H) ∧ ∀ q qs, ps = q :: qs → ∀ (i : Nat) (x : V), xs[i]? = some x → ps[i]? = some (g q qs) → Q x H
theorem cr_maxPD (hu : X.A.units + 64 < cLine) (hc : X.calm = true) {dv : V} : CallRK X (.builtin "max") [Str.ofString "default"] (rBestD X.K PySem.W.maxD dv) := by
  intro pnz s σ H vs zs us ws Q I r rz h
  obtain ⟨a, xs, ps, rfl, rfl, hs, hd, ha, dp, k0, k⟩ := h
  rw [Vals.ref1 r]
  obtain ⟨w1, rfl, e1⟩ := vals1 rz
  rcases hs with hs | hs
  · obtain ⟨its, rv, ⟨o, n, ho, hcl, hn, hdt⟩, hz⟩ := I.list hs
    obtain ⟨as, hr⟩ := Dp.readsAll I _ xs its hd rv
    exact PySem.W.max_list_default (vs := its.toArray) (I.ok.hd hc) ⟨o, ho, hcl, n, hdt⟩ (by simpa using hr) ha (by omega) (fun z h' tk hk => ⟨dv, H, I.kept hk, e1, k0 z⟩) fun y ys i v h' tk bs ez hv rd hk => best_fin I rv hr (k y ys ez) hv rd hk
  · obtain ⟨its, rv, ht, hz⟩ := I.tuple hs
    obtain ⟨as, hr⟩ := Dp.readsAll I _ xs its hd rv
    exact PySem.W.max_tuple_default (vs := its.toArray) (I.ok.hd hc) ht (by simpa using hr) ha (by omega) (fun z h' tk hk => ⟨dv, H, I.kept hk, e1, k0 z⟩) fun y ys i v h' tk bs ez hv rd hk => best_fin I rv hr (k y ys ez) hv rd hk
theorem cr_minPD (hu : X.A.units + 64 < cLine) (hc : X.calm = true) {dv : V} : CallRK X (.builtin "min") [Str.ofString "default"] (rBestD X.K PySem.W.minD dv) := by
  intro pnz s σ H vs zs us ws Q I r rz h
  obtain ⟨a, xs, ps, rfl, rfl, hs, hd, ha, dp, k0, k⟩ := h
  rw [Vals.ref1 r]
  obtain ⟨w1, rfl, e1⟩ := vals1 rz
  rcases hs with hs | hs
  · obtain ⟨its, rv, ⟨o, n, ho, hcl, hn, hdt⟩, hz⟩ := I.list hs
    obtain ⟨as, hr⟩ := Dp.readsAll I _ xs its hd rv
    exact PySem.W.min_list_default (vs := its.toArray) (I.ok.hd hc) ⟨o, ho, hcl, n, hdt⟩ (by simpa using hr) ha (by omega) (fun z h' tk hk => ⟨dv, H, I.kept hk, e1, k0 z⟩) fun y ys i v h' tk bs ez hv rd hk => best_fin I rv hr (k y ys ez) hv rd hk
  · obtain ⟨its, rv, ht, hz⟩ := I.tuple hs
    obtain ⟨as, hr⟩ := Dp.readsAll I _ xs its hd rv
    exact PySem.W.min_tuple_default (vs := its.toArray) (I.ok.hd hc) ht (by simpa using hr) ha (by omega) (fun z h' tk hk => ⟨dv, H, I.kept hk, e1, k0 z⟩) fun y ys i v h' tk bs ez hv rd hk => best_fin I rv hr (k y ys ez) hv rd hk
def rSortP (K : PySem.W.Frag) : List V → Hp → VK → Prop := fun vs H Q => ∃ (a : Addr) (xs : List V) (qs : List PyData), vs = [.ref a] ∧ SqL K H a xs ∧ DpAll K H xs qs ∧ PySem.W.AllAlike qs ∧ PySem.W.Sortable qs ∧ (∀ q ∈ qs, q.depth ≤ 40) ∧ ∀ p, H p = none → Q (.ref p) (upd H p (.lst (((xs.zip qs).mergeSort (PySem.W.dataLe false fun b : V × PyData => b.2)).map (·.1))))
theorem each_of {h : Heap} : ∀ {xs : List V} {its : List Value} {qs : List PyData} {as : List Addr}, Vals xs its → ReadsAll h its qs as →
    PySem.W.EachIs (fun v (b : V × PyData) => RelV b.1 v) its (xs.zip qs) ∧ PySem.W.EachIs (fun v (b : V × PyData) => ∃ as, Reads h v b.2 as) its (xs.zip qs)
  | _, _, _, _, .nil, .nil => ⟨.nil, .nil⟩
  | _, _, _, _, .cons h1 r1, .cons h2 r2 => by
    obtain ⟨a, b⟩ := each_of r1 r2
    exact ⟨.cons h1 a, .cons ⟨_, h2⟩ b⟩
theorem vals_each : ∀ {out : List Value} {bs : List (V × PyData)}, PySem.W.EachIs (fun v (b : V × PyData) => RelV b.1 v) out bs → Vals (bs.map (·.1)) out
  | _, _, .nil => .nil
  | _, _, .cons h r => .cons h (vals_each r)
theorem cr_sortP (hu : X.A.units + 64 < cLine) : CallR X (.builtin "sorted") (rSortP X.K) := by
  intro pnz s σ H vs us Q I r h
  obtain ⟨a, xs, qs, rfl, hs, hd, hal, hk, dp, q⟩ := h
  rw [Vals.ref1 r]
  obtain ⟨its, rv, ⟨o, n, ho, hcl, hn, hdt⟩, hz⟩ := I.list hs
  obtain ⟨as, hr⟩ := Dp.readsAll I _ xs its hd rv
  obtain ⟨e1, e2⟩ := each_of rv hr
  have lq : xs.length = qs.length := dp_len hd
  have sn : (xs.zip qs).map (fun b : V × PyData => b.2) = qs := List.map_snd_zip (by omega)
  have zl : (xs.zip qs).length = xs.length := by rw [List.length_zip]; omega
  refine PySem.W.sorted_data (enc := fun b : V × PyData => b.2) ⟨o, ho, hcl, n, hdt⟩ e1 e2 (by rw [sn]; exact hal) (by rw [sn]; exact hk) (by rw [zl]; exact hz) (fun b hb => ?_) fun out lo eo => ?_
  · have hb' : b.2 ∈ qs := by rw [← sn]; exact List.mem_map_of_mem hb
    have := dp _ hb'
    omega
  · obtain ⟨ep, at2⟩ := PyProof.Rows.sortedAll_at s.heap its out.toArray
    have lm : (((xs.zip qs).mergeSort (PySem.W.dataLe false fun b : V × PyData => b.2)).map (·.1)).length ≤ sizeLine := by
      rw [List.length_map, List.length_mergeSort, zl]
      exact hz
    exact ⟨.ref _, upd H (s.heap.objs.size + 1) (.lst (((xs.zip qs).mergeSort (PySem.W.dataLe false fun b : V × PyData => b.2)).map (·.1))), I.laid (t' := s.toks) (fun _ _ => PyProof.Rows.sortedAll_old) (Nat.le_succ _) ⟨lm, _, ep, vals_each eo, at2⟩, rfl, q _ (I.hok.fresh (Nat.le_succ _))⟩
end
section
variable {G : KW} {W : XW}
theorem dat_rel {η : List Addr} {H : Hp} {xs : List D} {vs : List V} {qs : List PyData} (r : RelAll G η H xs vs) (e : datL xs = some qs) {i : Nat} {x : V} {m : PyData} (hx : vs[i]? = some x) (hm : qs[i]? = some m) : Rel G η H (ofPy m) x := by
  have l : i < xs.length := by
    rw [r.length]
    exact (List.getElem?_eq_some_iff.mp hx).1
  obtain ⟨q, h1, h2⟩ := datL_get e (List.getElem?_eq_getElem l)
  obtain ⟨v, h3, h4⟩ := r.get (List.getElem?_eq_getElem l)
  rw [hx] at h3
  cases h3
  rw [hm] at h1
  cases h1
  rw [(dat_py _ h2).2]
  exact h4
open Classical in
noncomputable def oBest (g : PyData → List PyData → PyData) (ds : List D) (ah : AH) : Res D := match ds with
  | [x] => match seqD ah x with
    | some (_, xs) => match datL xs with
      | some (q :: qs) => if PySem.W.AlikeAll (q :: qs) ∧ PyData.depthAll (q :: qs) ≤ 40 then .ok (ofPy (g q qs)) ah else .bad
      | _ => .bad
    | none => .bad
  | _ => .bad
noncomputable def oMinP : List D → AH → Res D := oBest PySem.W.minD
noncomputable def oMaxP : List D → AH → Res D := oBest PySem.W.maxD
theorem ok_best (g : PyData → List PyData → PyData) : CaOk G W (rBest G.K g) (oBest g) := by
  intro η H ah ds vs Q p r h
  unfold oBest at h
  split at h
  · split at h
    · rename_i b xs e1
      split at h
      · rename_i q qs e2
        split at h
        · rename_i c
          obtain ⟨v, rfl, rx⟩ := relL1 r
          obtain ⟨a, us, rfl, r1, q1, q2⟩ := seq_rel p rx e1
          refine ⟨a, us, q, qs, rfl, ?_, rel_dpL xs r1 (dat_pyL xs e2).1, c.1, c.2, fun i x hx hm => post_val p (dat_rel r1 e2 hx hm) h⟩
          cases b
          · exact .inl (.inl (q2 rfl))
          · exact .inr (q1 rfl)
        · exact h.elim
      · exact h.elim
    · exact h.elim
  · exact h.elim
open Classical in
noncomputable def oBestD (g : PyData → List PyData → PyData) (c : Int) (ds : List D) (ah : AH) : Res D := match ds with
  | [x] => match seqD ah x with
    | some (_, xs) => match datL xs with
      | some [] => .ok (.int c) ah
      | some (q :: qs) => if PySem.W.AlikeAll (q :: qs) ∧ PyData.depthAll (q :: qs) ≤ 40 then .ok (ofPy (g q qs)) ah else .bad
      | _ => .bad
    | none => .bad
  | _ => .bad
noncomputable def oMinPD : Int → List D → AH → Res D := oBestD PySem.W.minD
noncomputable def oMaxPD : Int → List D → AH → Res D := oBestD PySem.W.maxD
theorem ok_bestD (g : PyData → List PyData → PyData) (c : Int) : CaOk G W (fun vs H Q => rBestD G.K g (.int c) vs [.int c] H Q) (oBestD g c) := by
  intro η H ah ds vs Q p r h
  unfold oBestD at h
  split at h
  · split at h
    · rename_i b xs e1
      obtain ⟨v, rfl, rx⟩ := relL1 r
      obtain ⟨a, us, rfl, r1, q1, q2⟩ := seq_rel p rx e1
      have sq : SqL G.K H a us ∨ SqT G.K H a us := by
        cases b
        · exact .inl (.inl (q2 rfl))
        · exact .inr (q1 rfl)
      split at h
      · rename_i e2
        exact ⟨a, us, [], rfl, rfl, sq, rel_dpL xs r1 (dat_pyL xs e2).1, ⟨fun _ z => absurd z List.not_mem_nil, fun _ z => absurd z List.not_mem_nil⟩, Nat.zero_le _, fun _ => post_val p (.int _) h, fun q qs z => absurd z (by simp)⟩
      · rename_i q qs e2
        split at h
        · rename_i c
          exact ⟨a, us, q :: qs, rfl, rfl, sq, rel_dpL xs r1 (dat_pyL xs e2).1, c.1, c.2, fun z => absurd z (by simp), fun q' qs' z i x hx hm => by
            cases z
            exact post_val p (dat_rel r1 e2 hx hm) h⟩
        · exact h.elim
      · exact h.elim
    · exact h.elim
  · exact h.elim
open Classical in
noncomputable def oSortP (ds : List D) (ah : AH) : Res D := match ds with
  | [x] => match seqD ah x with
    | some (false, xs) => match datL xs with
      | some qs => if PySem.W.AllAlike qs ∧ PySem.W.Sortable qs ∧ ∀ q ∈ qs, q.depth ≤ 40 then .ok (.lst ((qs.mergeSort (PySem.W.dataLe false id)).map ofPy)) ah else .bad
      | none => .bad
    | _ => .bad
  | _ => .bad
theorem all_pairs {η : List Addr} {H : Hp} : ∀ {bs : List (V × PyData)}, (∀ b ∈ bs, Rel G η H (ofPy b.2) b.1) → RelAll G η H (bs.map fun b => ofPy b.2) (bs.map (·.1))
  | [], _ => .nil
  | b :: bs, h => .cons (h b List.mem_cons_self) (all_pairs fun x hx => h x (List.mem_cons_of_mem _ hx))
theorem ok_sortP : CaOk G W (rSortP G.K) oSortP := by
  intro η H ah ds vs Q p r h
  unfold oSortP at h
  split at h
  · split at h
    · rename_i xs e1
      split at h
      · rename_i qs e2
        split at h
        · rename_i c
          obtain ⟨v, rfl, rx⟩ := relL1 r
          obtain ⟨a, us, rfl, r1, q1, q2⟩ := seq_rel p rx e1
          have dq := rel_dpL xs r1 (dat_pyL xs e2).1
          have lq := dp_len dq
          refine ⟨a, us, qs, rfl, .inl (q2 rfl), dq, c.1, c.2.1, c.2.2, fun l hl => post_fz p ?_ h hl⟩
          have sn : (us.zip qs).map (fun b : V × PyData => b.2) = qs := List.map_snd_zip (by omega)
          have e3 : (qs.mergeSort (PySem.W.dataLe false id)).map ofPy = ((us.zip qs).mergeSort (PySem.W.dataLe false fun b : V × PyData => b.2)).map fun b => ofPy b.2 := by
            have := List.map_mergeSort (r := PySem.W.dataLe false fun b : V × PyData => b.2) (s := PySem.W.dataLe false (id : PyData → PyData)) (f := fun b : V × PyData => b.2) (l := us.zip qs) fun a _ b _ => rfl
            rw [sn] at this
            rw [← this, List.map_map]
            rfl
          rw [e3]
          refine all_pairs fun b hb => ?_
          have hb' := List.mem_mergeSort.mp hb
          obtain ⟨i, hi, rfl⟩ := List.mem_iff_getElem.mp hb'
          rw [List.length_zip] at hi
          refine dat_rel r1 e2 (i := i) ?_ ?_
          · rw [List.getElem?_eq_getElem (by omega)]; simp
          · rw [List.getElem?_eq_getElem (by omega)]; simp
        · exact h.elim
      · exact h.elim
    · exact h.elim
  · exact h.elim
end
section
variable {X : Cx} {W : XW} {e : Expr} {f : FE} {p pos : Pos}
theorem cr_minP' (hu : X.A.units + 65 < cLine) (hc : X.calm = true) : CallR X (.builtin "min") (rBest X.K PySem.W.minD) := cr_minP (by omega) hc
theorem cr_maxP' (hu : X.A.units + 65 < cLine) (hc : X.calm = true) : CallR X (.builtin "max") (rBest X.K PySem.W.maxD) := cr_maxP (by omega) hc
theorem cr_sortP' (hu : X.A.units + 65 < cLine) : CallR X (.builtin "sorted") (rSortP X.K) := cr_sortP (by omega)
theorem ok_minP : CaOk (gX X) W (rBest (gX X).K PySem.W.minD) oMinP := ok_best _
theorem ok_maxP : CaOk (gX X) W (rBest (gX X).K PySem.W.maxD) oMaxP := ok_best _
theorem j_maxPD {c : Int} {k1 : Nat} {p1 p2 : Pos} (hu : X.A.units + 65 < cLine) (hc : X.calm = true) (hg : Gl X "max") (hm : X.mg "max" = none) (he : PE X e (SX X W f))
    (h1 : backTo pos (starEach [e] X.env) = (false, eval e X.env) :: backTo pos (starEach [] X.env) := by rfl) (h2 : (backTo pos (starEach [e] X.env)).any (·.1) = false := by rfl) (h3 : starEach [e] X.env = (false, eval e X.env) :: starEach [] X.env := by rfl) :
    PE X (.Call (.Name "max" p) [e] [⟨some "default", .Constant (.int c) k1 p1, p2⟩] pos) (SX X W (iCall (oMaxPD c) [f])) := by
  refine PE.imp (pe_fz (pe_callBK (ks := [Str.ofString "default"]) (cr_maxPD (dv := .int c) (by omega) hc) hg hm boot_max (a_cons he a_nil h3) (pk_cons pe_int pk_nil) (by decide) (by decide) h1 h2)) fun S H Q ⟨env, ah, η, en, pk, h⟩ => ?_
  exact ⟨env, ah, η, en, pk, h.bind.imp0 fun ds η1 H1 ah1 m1 p1 q1 => fun vs rs => ok_bestD _ c η1 H1 ah1 ds vs Q p1 rs q1⟩
theorem j_minPD {c : Int} {k1 : Nat} {p1 p2 : Pos} (hu : X.A.units + 65 < cLine) (hc : X.calm = true) (hg : Gl X "min") (hm : X.mg "min" = none) (he : PE X e (SX X W f))
    (h1 : backTo pos (starEach [e] X.env) = (false, eval e X.env) :: backTo pos (starEach [] X.env) := by rfl) (h2 : (backTo pos (starEach [e] X.env)).any (·.1) = false := by rfl) (h3 : starEach [e] X.env = (false, eval e X.env) :: starEach [] X.env := by rfl) :
    PE X (.Call (.Name "min" p) [e] [⟨some "default", .Constant (.int c) k1 p1, p2⟩] pos) (SX X W (iCall (oMinPD c) [f])) := by
  refine PE.imp (pe_fz (pe_callBK (ks := [Str.ofString "default"]) (cr_minPD (dv := .int c) (by omega) hc) hg hm boot_min (a_cons he a_nil h3) (pk_cons pe_int pk_nil) (by decide) (by decide) h1 h2)) fun S H Q ⟨env, ah, η, en, pk, h⟩ => ?_
  exact ⟨env, ah, η, en, pk, h.bind.imp0 fun ds η1 H1 ah1 m1 p1 q1 => fun vs rs => ok_bestD _ c η1 H1 ah1 ds vs Q p1 rs q1⟩
end
section
variable {ah : AH}
theorem best_eq {g : PyData → List PyData → PyData} {x : D} {b : Bool} {xs : List D} {q : PyData} {qs : List PyData} (h1 : seqD ah x = some (b, xs)) (h2 : datL xs = some (q :: qs)) (h3 : PySem.W.AlikeAll (q :: qs)) (h4 : PyData.depthAll (q :: qs) ≤ 40) : oBest g [x] ah = .ok (ofPy (g q qs)) ah := by
  unfold oBest
  simp only [h1, h2]
  rw [if_pos ⟨h3, h4⟩]
theorem bestD_nil {g : PyData → List PyData → PyData} {c : Int} {x : D} {b : Bool} (h1 : seqD ah x = some (b, [])) : oBestD g c [x] ah = .ok (.int c) ah := by
  unfold oBestD
  simp only [h1, datL]
theorem bestD_eq {g : PyData → List PyData → PyData} {c : Int} {x : D} {b : Bool} {xs : List D} {q : PyData} {qs : List PyData} (h1 : seqD ah x = some (b, xs)) (h2 : datL xs = some (q :: qs)) (h3 : PySem.W.AlikeAll (q :: qs)) (h4 : PyData.depthAll (q :: qs) ≤ 40) : oBestD g c [x] ah = .ok (ofPy (g q qs)) ah := by
  unfold oBestD
  simp only [h1, h2]
  rw [if_pos ⟨h3, h4⟩]
theorem sortP_eq {x : D} {xs : List D} {qs : List PyData} (h1 : seqD ah x = some (false, xs)) (h2 : datL xs = some qs) (h3 : PySem.W.AllAlike qs) (h4 : PySem.W.Sortable qs) (h5 : ∀ q ∈ qs, q.depth ≤ 40) : oSortP [x] ah = .ok (.lst ((qs.mergeSort (PySem.W.dataLe false id)).map ofPy)) ah := by
  unfold oSortP
  simp only [h1, h2]
  rw [if_pos ⟨h3, h4, h5⟩]
theorem depthAll_map {α : Type} {p : α → PyData} {k : Nat} (h : ∀ x, (p x).depth ≤ k) : ∀ xs : List α, PyData.depthAll (xs.map p) ≤ k
  | [] => Nat.zero_le _
  | x :: xs => by
    have := h x
    have := depthAll_map h xs
    simp only [List.map_cons, PyData.depthAll]
    omega
/-- max of natural numbers, or a number -/
theorem maxPD_nat {xs : List Nat} : oMaxPD 0 [.lst (xs.map dI)] ah = .ok (dI (maxL xs)) ah := by
  cases xs with
  | nil => exact bestD_nil (x := .lst []) rfl
  | cons x xs =>
    have d : datL ((x :: xs).map dI) = some ((x :: xs).map fun n : Nat => PyData.int (n : Int)) := datL_map (fun n => by simp only [dI, dat]) _
    refine (bestD_eq (x := .lst ((x :: xs).map dI)) (xs := (x :: xs).map dI) rfl d ⟨fun a ha b hb => ?_, fun a ha => ?_⟩ ?_).trans ?_
    · obtain ⟨n, _, rfl⟩ := List.mem_map.mp (show a ∈ (x :: xs).map fun n : Nat => PyData.int (n : Int) from ha)
      obtain ⟨m, _, rfl⟩ := List.mem_map.mp (show b ∈ (x :: xs).map fun n : Nat => PyData.int (n : Int) from hb)
      rfl
    · obtain ⟨n, _, rfl⟩ := List.mem_map.mp (show a ∈ (x :: xs).map fun n : Nat => PyData.int (n : Int) from ha)
      exact fun z => by cases z
    · exact Nat.le_trans (depthAll_map (p := fun n : Nat => PyData.int (n : Int)) (k := 0) (fun n => Nat.le_refl _) (x :: xs)) (by omega)
    · have e : (xs.map fun n : Nat => PyData.int (n : Int)) = (xs.map fun n : Nat => (n : Int)).map PyData.int := by rw [List.map_map]; rfl
      rw [e, PySem.W.maxD_ints]
      have f : ∀ (ys : List Nat) (y : Nat), (ys.map fun n : Nat => (n : Int)).foldl max (y : Int) = ((ys.foldl max y : Nat) : Int) := fun ys => by
        induction ys with
        | nil => intro y; rfl
        | cons z zs ih =>
          intro y
          rw [List.map_cons, List.foldl_cons, List.foldl_cons, ← ih]
          congr 1
          omega
      rw [f]
      rfl
end
end DL
namespace DL
open PySem PySem.Spec PyProof.Rows L2
section
variable {X : Cx}
def rInP (K : PySem.W.Frag) : R2 := fun x y H Q => ∃ (a : Addr) (xs : List V) (d : PyData) (ds : List PyData), y = .ref a ∧ (SqL K H a xs ∨ SqT K H a xs) ∧ DpAll K H xs ds ∧ Dp K H x d ∧ SeqAt.shaped d = true ∧ SeqAt.shaped (.list ds) = true ∧ Q (.bl (ds.any fun z => PyData.eqv z d)) H
theorem op_inP (hu : X.A.units + 65 < cLine) : OpR X (compareOp .In) (rInP X.K) := by
  intro pins s σ H x y v u Q I rx ry h
  obtain ⟨a, xs, d, ds, rfl, hs, hd, hx, sd, se, q⟩ := h
  obtain ⟨as, r1⟩ := Dp.reads I d x v hx rx
  rcases hs with hs | hs
  · obtain ⟨bs, r2⟩ := Dp.reads I (.list ds) (.ref a) u (.lst hs hd) ry
    exact SeqAt.in_list_reads r2 r1 (SeqAt.canLay_of_shaped se) (SeqAt.canLay_of_shaped sd) (room_in_shaped sd hu) ⟨.bl _, H, I, rfl, q⟩
  · obtain ⟨bs, r2⟩ := Dp.reads I (.tuple ds) (.ref a) u (.tup hs hd) ry
    exact SeqAt.in_tuple_reads r2 r1 (SeqAt.canLay_of_shaped se) (SeqAt.canLay_of_shaped sd) (room_in_shaped sd hu) ⟨.bl _, H, I, rfl, q⟩
end
/-- x in y, y a list or a tuple of data -/
def oInP (x y : D) (ah : AH) : Res D := match seqD ah y with
  | some (_, ys) => match toPy x, toPyL ys with
    | some d, some ds => if SeqAt.shaped d = true ∧ SeqAt.shaped (.list ds) = true then .ok (.bl (ds.any fun z => PyData.eqv z d)) ah else .bad
    | _, _ => .bad
  | none => .bad
section
variable {G : KW} {W : XW}
theorem ok_inP : OpOk G W (rInP G.K) oInP := by
  intro η H ah x y v u Q p rx ry h
  unfold oInP at h
  split at h
  · rename_i b ys e1
    split at h
    · rename_i d ds e2 e3
      split at h
      · rename_i c
        obtain ⟨a, us, rfl, r1, q1, q2⟩ := seq_rel p ry e1
        have sq : SqL G.K H a us ∨ SqT G.K H a us := by
          cases b
          · exact .inl (.inl (q2 rfl))
          · exact .inr (q1 rfl)
        exact ⟨a, us, d, ds, rfl, sq, rel_dpL ys r1 e3, rel_dp x rx e2, c.1, c.2, post_val p (.bl _) h⟩
      · exact h.elim
    · exact h.elim
  · exact h.elim
end
end DL
namespace DL
open PySem PySem.Spec PyProof.Rows L2
section
variable {G : KW} {W : XW}
/-- the sum will change -/
def oAddM (x y : D) (ah : AH) : Res D := match seqD ah x, seqD ah y with
  | some (false, xs), some (false, ys) => if xs.length + ys.length ≤ sizeLine then .ok (.ref ah.length) (ah ++ [.lst (xs ++ ys)]) else .bad
  | _, _ => .bad
theorem ok_addM : OpOk G W (rAddA G.K) oAddM := by
  intro η H ah x y v u Q p rx ry h
  unfold oAddM at h
  split at h
  · rename_i xs ys e1 e2
    split at h
    · rename_i hzz
      obtain ⟨a, vs, rfl, r1, _, q1⟩ := seq_rel p rx e1
      obtain ⟨b, us, rfl, r2, _, q2⟩ := seq_rel p ry e2
      exact .inr (.inr (.inr (.inr ⟨a, b, vs, us, rfl, rfl, q1 rfl, q2 rfl, by rw [← r1.length, ← r2.length]; exact hzz, fun q hq => post_mut p (r1.append r2) h hq⟩)))
    · exact h.elim
  · exact h.elim
def mSplit : Str → D → AH → Res D := fun a y ah => match y with
  | .str b => if (b.length == 0) = false ∧ a.length + 2 ≤ sizeLine then .ok (.lst ((Txt.split a b).map D.str)) ah else .bad
  | _ => .bad
theorem ok_mSplit : MtOk G W (fun x xs H Q => ∃ a b, x = .str a ∧ xs = [.str b] ∧ (b.length == 0) = false ∧ a.length + 2 ≤ sizeLine ∧ rNewStrs (Txt.split a b) H Q) mSplit := by
  intro η H ah a d v Q p r q
  unfold mSplit at q
  split at q
  · cases r
    split at q
    · rename_i c
      exact ⟨a, _, rfl, rfl, c.1, c.2, fun l hl => post_fz p (RelAll.strs _) q hl⟩
    · exact q.elim
  · exact q.elim
def mSIx : Str → D → AH → Res D := fun a y ah => match y with
  | .str b => match Builtin.Str.occurrences a b 0 a.length 1 with
    | i :: _ => .ok (.int (i : Nat)) ah
    | [] => .bad
  | _ => .bad
theorem ok_mSIx : MtOk G W (fun x xs H Q => ∃ a b i rest, x = .str a ∧ xs = [.str b] ∧ Builtin.Str.occurrences a b 0 a.length 1 = i :: rest ∧ Q (.int (i : Nat)) H) mSIx := by
  intro η H ah a d v Q p r q
  unfold mSIx at q
  split at q
  · cases r
    split at q
    · rename_i i rest e
      exact ⟨a, _, i, rest, rfl, rfl, e, post_val p (.int _) q⟩
    · exact q.elim
  · exact q.elim
end
section
variable {X : Cx} {W : XW} {o e : Expr} {fo f : FE} {apos pos : Pos}
def iSplit := iM1 mSplit
theorem j_split (ho : PE X o (SX X W fo)) (he : PE X e (SX X W f)) (hs : starEach [e] X.env = [(false, eval e X.env)] := by rfl) (hbase : attributeBase o "split" X.env (eval o X.env) = eval o X.env := by rfl) (hline : (apos.endLine == pos.line) = true := by rfl) :
    PE X (.Call (.Attribute o "split" apos) [e] [] pos) (SX X W (iSplit fo f)) := j_m1 PySem.F.slot_str_split PySem.F.type_str_split mt_split ok_mSplit ho he hs hbase hline
def iSIx := iM1 mSIx
theorem j_sindex (ho : PE X o (SX X W fo)) (he : PE X e (SX X W f)) (hs : starEach [e] X.env = [(false, eval e X.env)] := by rfl) (hbase : attributeBase o "index" X.env (eval o X.env) = eval o X.env := by rfl) (hline : (apos.endLine == pos.line) = true := by rfl) :
    PE X (.Call (.Attribute o "index" apos) [e] [] pos) (SX X W (iSIx fo f)) := j_m1 PySem.F.slot_str_index PySem.F.type_str_index mt_sindex ok_mSIx ho he hs hbase hline
/-- o[i], p[j] = e -/
def sPut2 (fo fi fp fj f : FE) : FS := fun env ah => (f env ah).bind fun e ah1 => match e with
  | .tup [x, y] => (fo env ah1).bind fun o ah2 => (fi env ah2).bind fun i ah3 => match putD o i x ah3 with
    | some ah4 => (fp env ah4).bind fun p ah5 => (fj env ah5).bind fun j ah6 => match putD p j y ah6 with
      | some ah7 => .ok (.nx, env) ah7
      | none => .bad
    | none => .bad
  | _ => .bad
theorem s_put2 {o i p j e : Expr} {fo fi fp fj f : FE} {kk : Nat} {pos pos1 pos2 pos3 : Pos} (hu : X.A.units + 1 < cLine) (hc : X.calm = true) (ho : PE X o (SX X W fo)) (hi : PE X i (SX X W fi)) (hp : PE X p (SX X W fp)) (hj : PE X j (SX X W fj)) (he : PE X e (SX X W f))
    (ha1 : ∀ v, assign (.Subscript o i pos1) X.env v = (do
      let ov ← holding [v] (eval o X.env)
      let iv ← holding [v, ov] (eval i X.env)
      standAt pos1
      holding [v, ov, iv] (setItem ov iv v)
      release [v, ov, iv] []) := by intro _; rfl)
    (ha2 : ∀ v, assign (.Subscript p j pos2) X.env v = (do
      let ov ← holding [v] (eval p X.env)
      let iv ← holding [v, ov] (eval j X.env)
      standAt pos2
      holding [v, ov, iv] (setItem ov iv v)
      release [v, ov, iv] []) := by intro _; rfl)
    (g1 : (assignEach [.Subscript o i pos1, .Subscript p j pos2] X.env).map (·.2) = assign (.Subscript o i pos1) X.env :: (assignEach [.Subscript p j pos2] X.env).map (·.2) := by rfl)
    (g2 : (assignEach [.Subscript p j pos2] X.env).map (·.2) = assign (.Subscript p j pos2) X.env :: (assignEach [] X.env).map (·.2) := by rfl)
    (hn : (assignEach [.Subscript o i pos1, .Subscript p j pos2] X.env).length = 2 := by rfl) (hst : (assignEach [.Subscript o i pos1, .Subscript p j pos2] X.env).findIdx? (·.1) = none := by rfl)
    (hs : swapsWithSole [.Tuple [.Subscript o i pos1, .Subscript p j pos2] kk pos3] e pos.line X.env = pure false := by rfl) (hw : swappedStores [.Tuple [.Subscript o i pos1, .Subscript p j pos2] kk pos3] e X.env = pure none := by rfl)
    (h1 : (assignEach [.Tuple [.Subscript o i pos1, .Subscript p j pos2] kk pos3] X.env).map (·.2) = [assign (.Tuple [.Subscript o i pos1, .Subscript p j pos2] kk pos3) X.env] := by rfl) :
    PS X (.Assign [.Tuple [.Subscript o i pos1, .Subscript p j pos2] kk pos3] e pos) (SSX X W (sPut2 fo fi fp fj f)) :=
  PS.imp (ps_asg he (pg_tup hc (pgs_cons (pg_sub ho hi (set_all hu) ha1) (pgs_cons (pg_sub hp hj (set_all hu) ha2) pgs_nil g2) g1) hn hst) hs hw h1) fun Dn S H ⟨env, ah, η, en, pk, h⟩ => by
    refine ⟨env, ah, η, en, pk, h.bind.imp0 fun d η1 H1 ah1 m1 p1 q1 => fun v rvv => ?_⟩
    split at q1
    · cases rvv with
      | tup ht r =>
        cases r with
        | cons rx r =>
          cases r with
          | cons ry r =>
            cases r
            refine ⟨_, _, rfl, .inl (.inl ht), rfl, _, _, rfl, env, ah1, η1, en.mv m1, p1, q1.bind.imp0 fun x η2 H2 ah2 m2 p2 q2 => fun w rw' => ?_⟩
            refine ⟨env, ah2, η2, (en.mv m1).mv m2, p2, q2.bind.imp0 fun y η3 H3 ah3 m3 p3 q3 => fun u ru => ?_⟩
            split at q3
            · rename_i ah4 e4
              refine put_ok p3 (rw'.mv m3) ru ((rx.mv m2).mv m3) e4 fun H' m4 p4 => ?_
              have q4 : Post (gX X) W η3 H' ((fp env ah4).bind fun p ah5 => (fj env ah5).bind fun j ah6 => match putD p j _ ah6 with
                | some ah7 => .ok (.nx, env) ah7
                | none => .bad) (QS (gX X) Dn) := Post.mono q3 m4
              have en4 := (((en.mv m1).mv m2).mv m3).mv m4
              refine ⟨_, _, rfl, env, ah4, η3, en4, p4, q4.bind.imp0 fun p' η5 H5 ah5 m5 p5 q5 => fun w2 rw2 => ?_⟩
              refine ⟨env, ah5, η5, en4.mv m5, p5, q5.bind.imp0 fun j' η6 H6 ah6 m6 p6 q6 => fun u2 ru2 => ?_⟩
              split at q6
              · rename_i ah7 e7
                exact put_ok p6 (rw2.mv m6) ru2 (((((ry.mv m2).mv m3).mv m4).mv m5).mv m6) e7 fun H7 m7 p7 => ⟨rfl, q6 η6 H7 m7 p7 S (((en4.mv m5).mv m6).mv m7)⟩
              · exact q6.elim
            · exact q3.elim
    · exact q1.elim
end
end DL
namespace DL
open PySem PySem.Spec PyProof.Rows L2 PySem.W
section
variable {prog : Program} {w : World} {A : Around} {E : Value → Shared → Prop} {s : Shared}
theorem min_two_data {a b : Value} {x y : PyData} {as bs : List Addr} {Q : Value → Shared → Prop} (hh : A.handled = none) (ra : Reads s.heap a x as) (rb : Reads s.heap b y bs) (ha : AlikeAll [x, y]) (hu : A.units + 1 + PyData.depthAll [x, y] < cLine)
    (h : ∀ (i : Nat) v h' tk bs, #[a, b][i]? = some v → Reads h' v (minD x [y]) bs → (∀ b o, s.heap.get? b = some o → h'.get? b = some o) → Q v { s with heap := h', toks := tk }) :
    wpAny (model prog w) A (call (.builtin "min") [a, b]) Q E s := by
  have hname : (toString "min" ++ toString ".loop" : String) = "min.loop" := by decide
  refine call_function_tree F.kind_min F.plain_min F.entry_min (F.args_min2 _ _) ?_
  show wpAny _ A.in1 (Builtin.Builtins.bindParams "min" ["key", "default"] 0 ⟨[], []⟩ >>= _) _ _ s
  refine wpAny_bind (wpAny_of_eq (show Builtin.Builtins.bindParams "min" ["key", "default"] 0 ⟨[], []⟩ = pure [none, none] from rfl) ?_)
  show wpAny _ A.in1 (newTuple [a, b] >>= _) _ _ s
  refine wpAny_bind (wpAny_newObj_type ?_)
  have old' : ∀ (c : Addr) o, s.heap.get? c = some o → (s.heap.push { cls := .type "tuple", data := .seq #[a, b] }).get? c = some o := fun c o e => Heap.get?_push_of_some _ e
  have tup : (s.heap.push { cls := .type "tuple", data := .seq #[a, b] }).IsTuple s.heap.objs.size #[a, b] := ⟨_, Heap.get?_push_size _ rfl, rfl, _, rfl⟩
  have hr : ReadsAll (s.heap.push { cls := .type "tuple", data := .seq #[a, b] }) (#[a, b] : Array Value).toList [x, y] (as ++ (bs ++ [])) := .cons (Reads.keeps old' ra) (.cons (Reads.keeps old' rb) .nil)
  refine wpAny_bind (iter_tupleW (A := A.in1) (s := { s with heap := s.heap.push { cls := .type "tuple", data := .seq #[a, b] } }) hh tup fun s₂ e W st hfp hw hk => ?_)
  refine wpAny_bind (wpAny_newObj_type ?_)
  have hSf : s₂.heap.objs.size ∉ _ := fun hm => Nat.lt_irrefl _ (hfp _ hm)
  rw [hname]
  have cmp := cmpIn_lt (prog := prog) (w := w) (A := A.in1) (s := { s with heap := s.heap.push { cls := .type "tuple", data := .seq #[a, b] } }) hr ha (by show A.units + 1 + _ < _; exact hu)
  refine wpAny_pure ⟨plainId_quiet F.plain_min_loop _, codeAny_min_loop_firstH W _ hw _ cmp s₂.heap.objs.size hSf (fresh_in hk) _ (by show 0 < 2; omega) (fun b o e => Heap.get?_push_of_some _ (hk b o e)) (W.frame 0 s₂ _ s₂.toks st (Nat.le_refl _) fun b _ o e => Heap.get?_push_of_some _ e) (Heap.get?_push_size _ rfl) fun v s' hP hm => ?_⟩
  have m := Moved.drop_new (tk := s₂.toks) hm (Nat.le_refl _)
  obtain ⟨h', tk, rfl, hk'⟩ := moved_old e rfl m
  obtain ⟨cs, r, _, _, _⟩ := readsAll_atA hr _ v hP
  have e2 := (argBest_fold dataLt PyData.none x [y] 1 (Nat.le_refl _)).2
  exact h _ v h' tk cs hP (reads_keeps hk' (by unfold minD; rw [show List.foldl (fun a y => if dataLt y a then y else a) x [y] = List.foldl (fun a y => if dataLt y a then y else a) x ([y].take 1) from rfl, ← e2]; exact r)) fun c o e => hk' c o (old' c o e)
end
section
variable {X : Cx}
def rMin2P (K : PySem.W.Frag) : List V → Hp → VK → Prop := fun vs H Q => ∃ (x y : V) (p q : PyData), vs = [x, y] ∧ Dp K H x p ∧ Dp K H y q ∧ AlikeAll [p, q] ∧ PyData.depthAll [p, q] ≤ 40 ∧ ∀ (i : Nat) (z : V), [x, y][i]? = some z → [p, q][i]? = some (minD p [q]) → Q z H
theorem cr_min2P (hu : X.A.units + 65 < cLine) (hc : X.calm = true) : CallR X (.builtin "min") (rMin2P X.K) := by
  intro pnz s σ H vs us Q I r h
  obtain ⟨x, y, p, q, rfl, dx, dy, ha, dp, k⟩ := h
  obtain ⟨u, w', rfl, rx, ry⟩ := vals2 r
  obtain ⟨as, r1⟩ := Dp.reads I p x u dx rx
  obtain ⟨bs, r2⟩ := Dp.reads I q y w' dy ry
  exact min_two_data (I.ok.hd hc) r1 r2 ha (by omega) fun i v h' tk cs hv rd hk => best_fin I (.cons rx (.cons ry .nil)) (.cons r1 (.cons r2 .nil)) k hv rd hk
end
open Classical in
noncomputable def oMin2P (ds : List D) (ah : AH) : Res D := match ds with
  | [x, y] => match dat x, dat y with
    | some p, some q => if AlikeAll [p, q] ∧ PyData.depthAll [p, q] ≤ 40 then .ok (ofPy (minD p [q])) ah else .bad
    | _, _ => .bad
  | _ => .bad
section
variable {X : Cx} {W : XW}
theorem ok_min2P : CaOk (gX X) W (rMin2P (gX X).K) oMin2P := by
  intro η H ah ds vs Q pk r h
  unfold oMin2P at h
  split at h
  · split at h
    · rename_i x y _ _ p q e1 e2
      split at h
      · rename_i c
        cases r with
        | cons rx r =>
          cases r with
          | cons ry r =>
            cases r
            obtain ⟨t1, o1⟩ := dat_py _ e1
            obtain ⟨t2, o2⟩ := dat_py _ e2
            refine ⟨_, _, p, q, rfl, rel_dp _ rx t1, rel_dp _ ry t2, c.1, c.2, fun i z hz hm => post_val pk ?_ h⟩
            match i, hz, hm with
            | 0, hz, hm =>
              cases hz
              rw [← Option.some.inj hm, o1]
              exact rx
            | 1, hz, hm =>
              cases hz
              rw [← Option.some.inj hm, o2]
              exact ry
            | i + 2, hz, _ => simp at hz
      · exact h.elim
    · exact h.elim
  · exact h.elim
end
theorem min2P_eq {x y : D} {p q : PyData} {ah : AH} (h1 : dat x = some p) (h2 : dat y = some q) (h3 : AlikeAll [p, q]) (h4 : PyData.depthAll [p, q] ≤ 40) : oMin2P [x, y] ah = .ok (ofPy (minD p [q])) ah := by
  unfold oMin2P
  simp only [h1, h2]
  rw [if_pos ⟨h3, h4⟩]
end DL
namespace DL
open PySem PySem.Spec PyProof.Rows L2
def keyOf : Key → D
  | .inl i => .int i
  | .inr x => .str x
def iItemsI (f : FE) : FI := fun env ah => (f env ah).bind fun d ah1 => match d with
  | .dk ks xs => .ok (zipD (ks.map keyOf) xs) ah1
  | _ => .bad
def iValuesI (f : FE) : FI := fun env ah => (f env ah).bind fun d ah1 => match d with
  | .dk _ xs => .ok xs ah1
  | _ => .bad
def iKeysI (f : FE) : FI := fun env ah => (f env ah).bind fun d ah1 => match d with
  | .dk ks _ => .ok (ks.map keyOf) ah1
  | _ => .bad
section
variable {G : KW} {η : List Addr} {H : Hp}
theorem rel_key (k : Key) : Rel G η H (keyOf k) (kV k) := by
  cases k with
  | inl i => exact .int i
  | inr x => exact .str x
theorem it_items {a : Addr} {o : Obj} {kvs : List (Key × V)} {ks : List Key} {ds : List D} (h : H a = some (.frz o (.dK kvs))) (hk : kvs.map (·.1) = ks) (r : RelAll G η H ds (kvs.map (·.2))) : ItOk G η H (Iti a o kvs) (zipD (ks.map keyOf) ds) where
  go := fun i d hd H' e => by
    obtain ⟨x, y, hx, hy, rfl⟩ := zipD_get hd
    obtain ⟨v, hv, rv⟩ := r.get hy
    rw [List.getElem?_map] at hx hv
    obtain ⟨k, hk1, rfl⟩ := Option.map_eq_some_iff.mp hx
    obtain ⟨kv, hkv, rfl⟩ := Option.map_eq_some_iff.mp hv
    rw [← hk, List.getElem?_map, hkv] at hk1
    cases hk1
    have pf := List.prefix_refl η
    refine ⟨⟨e.2 _ _ _ h, (List.getElem?_eq_some_iff.mp hkv).1⟩, fun z H'' w => ?_⟩
    obtain ⟨T, k', v', e1, rfl, hT, rfl⟩ := w
    rw [hkv] at e1
    cases e1
    exact pair_new hT (rel_key _) (rv.ext pf e)
  stop := fun i hi H' e => ⟨e.2 _ _ _ h, by
    have := r.length
    rw [zipD_len, List.length_map, ← hk, List.length_map] at hi
    rw [List.length_map] at this
    omega⟩
theorem it_values {a : Addr} {o : Obj} {kvs : List (Key × V)} {ds : List D} (h : H a = some (.frz o (.dK kvs))) (r : RelAll G η H ds (kvs.map (·.2))) : ItOk G η H (Itd a o kvs) ds where
  go := fun i d hd H' e => by
    obtain ⟨v, hv, rv⟩ := r.get hd
    rw [List.getElem?_map] at hv
    obtain ⟨kv, hkv, rfl⟩ := Option.map_eq_some_iff.mp hv
    have pf := List.prefix_refl η
    refine ⟨⟨e.2 _ _ _ h, (List.getElem?_eq_some_iff.mp hkv).1⟩, fun z H'' w => ?_⟩
    obtain ⟨rfl, k, e1⟩ := w
    rw [hkv] at e1
    cases e1
    exact ⟨Same.refl _, rv.ext pf e⟩
  stop := fun i hi H' e => ⟨e.2 _ _ _ h, by
    have := r.length
    rw [List.length_map] at this
    omega⟩
theorem it_keys {a : Addr} {o : Obj} {kvs : List (Key × V)} {ks : List Key} (h : H a = some (.frz o (.dK kvs))) (hk : kvs.map (·.1) = ks) : ItOk G η H (Itk a o kvs) (ks.map keyOf) where
  go := fun i d hd H' e => by
    rw [List.getElem?_map] at hd
    obtain ⟨k, hk1, rfl⟩ := Option.map_eq_some_iff.mp hd
    rw [← hk, List.getElem?_map] at hk1
    obtain ⟨kv, hkv, rfl⟩ := Option.map_eq_some_iff.mp hk1
    refine ⟨⟨e.2 _ _ _ h, (List.getElem?_eq_some_iff.mp hkv).1⟩, fun z H'' w => ?_⟩
    obtain ⟨rfl, k', v', e1, rfl⟩ := w
    rw [hkv] at e1
    cases e1
    exact ⟨Same.refl _, rel_key _⟩
  stop := fun i hi H' e => ⟨e.2 _ _ _ h, by
    rw [List.length_map, ← hk, List.length_map] at hi
    exact hi⟩
end
section
variable {X : Cx} {W : XW} {e tg : Expr} {f : FE} {apos cpos tpos : Pos} {elts : List Expr} {kk : Nat}
theorem i_items (he : PE X e (SX X W f)) (hbase : attributeBase e "items" X.env (eval e X.env) = eval e X.env := by rfl) (hline : (apos.endLine == cpos.line) = true := by rfl) :
    PI X (.Tuple elts kk tpos) (.Call (.Attribute e "items" apos) [] [] cpos) (IX X W (iItemsI f)) :=
  PI.imp (pi_items (pe_fz he) hbase hline) fun S H R ⟨env, ah, η, en, pk, h⟩ =>
  ⟨env, ah, η, en, pk, h.bind.imp0 fun d η1 H1 ah1 m1 p1 q1 => fun v rv => by
    split at q1
    · cases rv with
      | dk h1 hk r => exact .inl ⟨_, _, _, rfl, h1, q1.at p1 _ (it_items h1 hk r)⟩
    · exact q1.elim⟩
theorem i_values (he : PE X e (SX X W f)) (hbase : attributeBase e "values" X.env (eval e X.env) = eval e X.env := by rfl) (hline : (apos.endLine == cpos.line) = true := by rfl) :
    PI X tg (.Call (.Attribute e "values" apos) [] [] cpos) (IX X W (iValuesI f)) :=
  PI.imp (pi_values (pe_fz he) hbase hline) fun S H R ⟨env, ah, η, en, pk, h⟩ =>
  ⟨env, ah, η, en, pk, h.bind.imp0 fun d η1 H1 ah1 m1 p1 q1 => fun v rv => by
    split at q1
    · cases rv with
      | dk h1 hk r => exact .inl ⟨_, _, _, rfl, h1, q1.at p1 _ (it_values h1 r)⟩
    · exact q1.elim⟩
def rAugS : TIp := fun x y H Q => ∃ i j, x = .int i ∧ y = .int j ∧ Q (.int (i - j)) H
def oAugS (x y : D) (ah : AH) : Res D := match x, y with
  | .int i, .int j => .ok (.int (i - j)) ah
  | _, _ => .bad
theorem ip_subA : PIp X .Sub rAugS := fun pnz s σ H x y v u Q Iv r1 r2 q => ip_sub pnz s σ H x y v u Q Iv r1 r2 q
theorem ok_augS {G : KW} : AuOk G W rAugS oAugS := by
  intro η H ah x y v u Q p rx ry h
  unfold oAugS at h
  split at h
  · cases rx; cases ry; exact ⟨_, _, rfl, rfl, h.at p _ (.int _)⟩
  · exact h.elim
end
end DL
namespace DL
open PySem PySem.Spec PyProof.Rows L2
def compD (g : D → AE → Option AE) (t : FT) (fk fv : FE) (env : AE) : List D → List Key × List D → AH → Res (List Key × List D)
  | [], acc, ah => .ok acc ah
  | d :: ds, acc, ah => match g d env with
    | none => .bad
    | some env1 => (t env1 ah).nox.bind fun b ah1 => if b = true then (fk env1 ah1).nox.bind fun k ah2 => (fv env1 ah2).nox.bind fun x ah3 => (match keyD k with
      | some q => if acc.1.length < sizeLine then compD g t fk fv env ds (ptD acc.1 acc.2 q x) ah3 else .bad
      | none => .bad) else compD g t fk fv env ds acc ah1
def iDc (fi : FI) (g : D → AE → Option AE) (t : FT) (fk fv : FE) (vs : List Nat) : FE := fun env ah => (fi env ah).bind fun ds ah1 => (compD g t fk fv (wipeA env vs) ds ([], []) ah1).bind fun a ah2 => .ok (.dk a.1 a.2) ah2
section
variable {X : Cx} {W : XW} {kx vx tg iter : Expr} {ifs : List Expr} {scope : Scope} {own : List (Str × Nat)} {pos : Pos} {fi : FI} {q : Pt} {ft : FT} {fk fv : FE}
theorem dc_loop {β : Type} {G : KW} {vs : List Nat} {S : L2.St} {H : Hp} {R : VK} {k : List Key × List D → AH → Res β} {Q : β → List Addr → Hp → AH → Prop} {env : AE} {ah : AH} {η : List Addr}
    (en : EnvOk G η H env S) (pk : HpOk G η H ah) (hq : ∀ i ∈ q.ix, i ∈ vs) (h : Post G W η H ((fi env ah).bind fun ds ah1 => (compD (ptB q) ft fk fv (wipeA env vs) ds ([], []) ah1).bind k) Q)
    (fin : ∀ (Dd : Addr) (η1 η' : List Addr) (H1 H' : Hp) (acc : List (Key × V)) (a : List Key × List D) (ah' : AH), Mv η H η1 H1 → H1 Dd = none → H' Dd = some (.dK acc) → Dd ∉ η' → acc.map (·.1) = a.1 → RelAll G η' H' a.2 (acc.map (·.2)) → Mv η1 H1 η' H' → HpOk G η' H' ah' → Post G W η1 H1 (k a ah') Q → R (.ref Dd) H') :
    tDc (IJ G W fi) (GJ G q.ix (ptB q)) (TJ G noW ft) (SJ G noW fk) (SJ G noW fv) vs S H R := by
  refine ⟨env, ah, η, en, pk, h.bind.imp0 fun ds η1 H1 ah1 m1 p1 q1 => fun J hJ => ?_⟩
  intro Dd hD
  have hD0 := same_new (o := .dK []) hD
  have en0 := (en.mv m1).wipe vs
  refine ⟨fun i m H' => m = ds.length - i ∧ i ≤ ds.length ∧ ∃ acc a ah η', H' Dd = some (.dK acc) ∧ Dd ∉ η' ∧ acc.map (·.1) = a.1 ∧ RelAll G η' H' a.2 (acc.map (·.2)) ∧ HpOk G η' H' ah ∧ Mv η1 H1 η' H' ∧ Post G W η1 H1 ((compD (ptB q) ft fk fv (wipeA env vs) (ds.drop i) a ah).bind k) Q,
    ⟨ds.length, by simp, Nat.zero_le _, [], ([], []), ah1, η1, upd_same, p1.fresh hD, rfl, .nil, p1.same hD0, .same hD0, q1⟩, ?_⟩
  rintro i m H2 ⟨rfl, hi, acc, a, ah2, η2, hD2, nD, ka, r2, p2, m2, q2⟩
  by_cases hlt : i < ds.length
  · have hd : ds[i]? = some ds[i] := by simp [hlt]
    obtain ⟨hgo, hy⟩ := hJ.go i _ hd H2 m2.ext
    refine .inr ⟨hgo, fun H' => i + 1 ≤ ds.length ∧ ∃ acc a ah η', H' Dd = some (.dK acc) ∧ Dd ∉ η' ∧ acc.map (·.1) = a.1 ∧ RelAll G η' H' a.2 (acc.map (·.2)) ∧ HpOk G η' H' ah ∧ Mv η1 H1 η' H' ∧ Post G W η1 H1 ((compD (ptB q) ft fk fv (wipeA env vs) (ds.drop (i + 1)) a ah).bind k) Q,
      fun H' k => ⟨ds.length - (i + 1), by omega, rfl, k⟩, fun x H3 y => ?_⟩
    obtain ⟨sm, rx⟩ := hy x H3 y
    rw [List.drop_eq_getElem_cons hlt] at q2
    simp only [compD] at q2
    split at q2
    · exact q2.elim
    · rename_i env3 e3
      have m3 : Mv η2 H2 η2 H3 := .same sm
      have m13 := m2.trans m3
      refine ⟨wipeA env vs, η2, ds[i], env3, en0.mv m13, rx.ext m2.pre (Ext.refl _), e3, fun S3 en3 kz => ⟨?_, ?_⟩⟩
      · exact wipe_kz (kz.mono hq)
      · have assoc : ∀ {α β γ : Type} (r : Res α) (g1 : α → AH → Res β) (g2 : β → AH → Res γ), (r.bind g1).bind g2 = r.bind fun a h => (g1 a h).bind g2 := fun r _ _ => by cases r <;> rfl
        rw [assoc] at q2
        have q3 := Post.bindB q2 m13
        refine ⟨env3, ah2, η2, en3, p2.same sm, (Post.nox q3).imp0 fun b η4 H4 ah4 m4 p4 q4 => ?_⟩
        have m14 := m13.trans m4
        have hD4 : H4 Dd = some (.dK acc) := m4.frm _ _ (m3.frm _ _ hD2 nD) nD
        have nD4 : Dd ∉ η4 := fun z => (m4.new _ z).elim nD fun w => by rw [m3.frm _ _ hD2 nD] at w; cases w
        cases b with
        | true =>
          simp only [if_true] at q4 ⊢
          rw [assoc] at q4
          have q5 := Post.bindB q4 m14
          refine ⟨env3, ah4, η4, en3.mv m4, p4, (Post.nox q5).imp0 fun z η5 H5 ah5 m5 p5 q6 => fun w rw' => ?_⟩
          have hD5 : H5 Dd = some (.dK acc) := m5.frm _ _ hD4 nD4
          have nD5 : Dd ∉ η5 := fun z => (m5.new _ z).elim nD4 fun w => by rw [hD4] at w; cases w
          have m15 := m14.trans m5
          rw [assoc] at q6
          have q7 := Post.bindB q6 m15
          refine ⟨env3, ah5, η5, (en3.mv m4).mv m5, p5, (Post.nox q7).imp0 fun z2 η6 H6 ah6 m6 p6 q8 => fun w2 rw2 => ?_⟩
          have hD6 : H6 Dd = some (.dK acc) := m6.frm _ _ hD5 nD5
          have nD6 : Dd ∉ η6 := fun z => (m6.new _ z).elim nD5 fun w => by rw [hD5] at w; cases w
          have r6 : RelAll G η6 H6 a.2 (acc.map (·.2)) := (r2.mv m3).mv (m4.trans (m5.trans m6))
          have lz : acc.length = a.1.length := by rw [← ka, List.length_map]
          split at q8
          · rename_i qk ek
            split at q8
            · rename_i hz
              have E : Ext H6 (upd H6 Dd (.dK (putK acc qk w2))) := Ext.upd hD6 (fun _ z => nomatch z) (fun _ _ z => nomatch z)
              obtain ⟨z3, z4⟩ := pt_rel (q := qk) rw2 ka r6
              exact ⟨acc, qk, keyD_rel rw' ek, hD6, by omega, by omega, putK acc qk w2, ptD a.1 a.2 qk z2, ah6, η6, upd_same, nD6, z3, z4.ext (List.prefix_refl _) E, p6.side nD6 hD6 (fun _ z => nomatch z) (fun _ _ z => nomatch z), (m15.trans m6).side hD hD6, q8⟩
            · exact q8.elim
          · exact q8.elim
        | false =>
          rw [if_neg Bool.false_ne_true] at q4
          dsimp only
          rw [if_neg Bool.false_ne_true]
          exact ⟨by omega, acc, a, ah4, η4, hD4, nD4, ka, r2.mv (m3.trans m4), p4, m14, q4⟩
  · have hi2 : ds.length ≤ i := by omega
    rw [List.drop_of_length_le hi2] at q2
    exact .inl ⟨hJ.stop i hi2 H2 m2.ext, fin Dd η1 η2 H1 H2 acc a ah2 m1 hD hD2 nD ka r2 m2 p2 q2⟩
theorem dc_fz {G : KW} {vs : List Nat} {S : L2.St} {H : Hp} {Q : VK} (hq : ∀ i ∈ q.ix, i ∈ vs) (h : SJ G W (iDc fi (ptB q) ft fk fv vs) S H Q) : tDc (IJ G W fi) (GJ G q.ix (ptB q)) (TJ G noW ft) (SJ G noW fk) (SJ G noW fv) vs S H (QF Q) := by
  obtain ⟨env, ah, η, en, pk, h⟩ := h
  refine dc_loop en pk hq h fun Dd η1 η' H1 H' acc a ah' m hD hD' nD ka r mv p k => ?_
  refine .inr ⟨Dd, .dK acc, rfl, hD', trivial, fun od => ?_⟩
  have E : Ext H' (upd H' Dd (.frz od (.dK acc))) := Ext.upd hD' (fun _ z => nomatch z) (fun _ _ z => nomatch z)
  exact k η' _ (mv.side hD hD') (p.side nD hD' (fun _ z => nomatch z) (fun _ _ z => nomatch z)) _ (.dk (o := od) upd_same ka (r.ext (List.prefix_refl _) E))
theorem j_dc (hc : X.calm = true) (hN : X.N.Nodup) (hi : PI X tg iter (IX X W fi)) (ok : BlkOk X.N X.env.scope scope own) (hq : ∀ i ∈ q.ix, i ∈ own.map (·.2))
    (hg : ∀ (s : Shared) (H : Hp) (C : Addr) (cl : List (Str × Addr)) (fp : List Addr), PG (X.blk s H scope (compEnvC scope cl C X.env) fp) tg (GP X q)) (ht : ∀ (s : Shared) (H : Hp) (C : Addr) (cl : List (Str × Addr)) (fp : List Addr), PTs (X.blk s H scope (compEnvC scope cl C X.env) fp) ifs (TX X noW ft))
    (hk : ∀ (s : Shared) (H : Hp) (C : Addr) (cl : List (Str × Addr)) (fp : List Addr), PE (X.blk s H scope (compEnvC scope cl C X.env) fp) kx (SX X noW fk))
    (he : ∀ (s : Shared) (H : Hp) (C : Addr) (cl : List (Str × Addr)) (fp : List Addr), PE (X.blk s H scope (compEnvC scope cl C X.env) fp) vx (SX X noW fv)) (hs : ∀ x, foldedSetIterable iter X.env x = pure x := by intro _; rfl) :
    PE X (.DictComp kx vx [⟨tg, iter, ifs, 0⟩] scope pos) (SX X W (iDc fi (ptB q) ft fk fv (own.map (·.2)))) := PE.imp (pe_fz (pe_dc hc hN hi ok hg ht hk he hs)) fun S H Q h => dc_fz hq h
end
end DL
namespace DL
open PySem PySem.Spec PyProof.Rows L2
def sPar (i j : Nat) (fs : List FE) : FS := fun env ah => (iArgs fs env ah).bind fun ds ah1 => match ds with
  | [x, y] => .ok (.nx, (env.set i (some x)).set j (some y)) ah1
  | _ => .bad
section
variable {X : Cx} {W : XW} {a b : Expr} {fs : List FE} {px py pt pos : Pos} {kt : Nat} {pt2 : Pos} {k2 : Nat}
theorem s_par (i j : Nat) {x y : Str} (hc : X.calm = true) (hN : X.N.Nodup) (ha : PA X [a, b] (AX' X W fs)) (hi : X.N[i]? = some x := by rfl) (hj : X.N[j]? = some y := by rfl) (hij : i ≠ j := by decide)
    (hx : X.env.scope.names.lookup x = some .local := by rfl) (hy : X.env.scope.names.lookup y = some .local := by rfl)
    (hw : swappedStores [.Tuple [.Name x px, .Name y py] kt pt] (.Tuple [a, b] k2 pt2) X.env = pure (some [x, y]) := by rfl)
    (hs : swapsWithSole [.Tuple [.Name x px, .Name y py] kt pt] (.Tuple [a, b] k2 pt2) pos.line X.env = pure false := by rfl) :
    PS X (.Assign [.Tuple [.Name x px, .Name y py] kt pt] (.Tuple [a, b] k2 pt2) pos) (SSX X W (sPar i j fs)) := PS.imp (ps_par hc hN hi hj hij hx hy ha hw hs) fun Dn S H ⟨env, ah, η, en, pk, h⟩ =>
  ⟨env, ah, η, en, pk, h.bind.imp0 fun ds η1 H1 ah1 m1 p1 q1 => fun vs rs => by
    split at q1
    · cases rs with
      | cons r1 rr =>
        cases rr with
        | cons r2 rr =>
          cases rr
          exact ⟨_, _, rfl, q1.at p1 _ (((en.mv m1).set i r1).set j r2)⟩
    · exact q1.elim⟩
end
theorem ePar {i j : Nat} {fs : List FE} {env : AE} {ah a1 : AH} {x y : D} (h : iArgs fs env ah = .ok [x, y] a1) : sPar i j fs env ah = .ok (.nx, (env.set i (some x)).set j (some y)) a1 := by
  unfold sPar
  rw [h, Res.bind_ok]
end DL
namespace DL
open PySem PySem.Spec PyProof.Rows L2
def keyTup (k : List Key) : D := .tup (k.map keyOf)
def oListT (ds : List D) (ah : AH) : Res D := match ds with
  | [d] => match dtD ah d with
    | some (ks, _) => .ok (.lst (ks.map keyTup)) ah
    | none => .bad
  | _ => .bad
section
variable {G : KW} {W : XW}
theorem rel_keys {η : List Addr} {H : Hp} : ∀ k : List Key, RelAll G η H (k.map keyOf) (k.map kV)
  | [] => .nil
  | k :: ks => .cons (rel_key k) (rel_keys ks)
theorem rel_isKeys {η : List Addr} {H : Hp} : ∀ {kvs : List (List Key × V)} {bs : List Addr}, IsKeys H kvs bs → RelAll G η H ((kvs.map (·.1)).map keyTup) (bs.map V.ref)
  | [], _, h => by
    cases h
    exact .nil
  | kv :: kvs, _, h => by
    cases h with
    | cons h1 h2 => exact .cons (.tup h1 (rel_keys kv.1)) (rel_isKeys h2)
theorem ok_listT : CaOk G W (fun xs H Q => ∃ d kvs, xs = [V.ref d] ∧ Rd H d (.dT kvs) ∧ ∀ p bs, H p = none → IsKeys H kvs bs → Q (.ref p) (upd H p (.lst (bs.map V.ref)))) oListT := by
  intro η H ah ds vs Q p r h
  unfold oListT at h
  split at h
  · rename_i d
    split at h
    · rename_i ks xs e
      cases r with
      | cons r0 r =>
        cases r
        obtain ⟨a, kvs, rfl, h1, hk, _⟩ := dt_rel p r0 e
        refine ⟨a, kvs, rfl, h1, fun q bs hq ik => ?_⟩
        have rl := rel_isKeys (G := G) (η := η) ik
        rw [hk] at rl
        exact post_fz p rl h hq
    · exact h.elim
  · exact h.elim
end
end DL
namespace DL
open PySem PySem.Spec PyProof.Rows L2
def iAllS (dn : Str) (pb : Nat → Bool) (f : FE) : FE := fun env ah => (f env ah).bind fun d ah1 => match d, (ah1[0]? : Option AO) with
  | .str a, some (AO.tab y) => if y = dn then .ok (.bl (a.cps.toList.all pb)) ah1 else .bad
  | _, _ => .bad
section
variable {X : Cx} {W : XW}
theorem j_allS {dn : Str} {elt iter : Expr} {x : Str} {px p pos gpos : Pos} {scope : Scope} {pb : Nat → Bool} {f : FE} {k : Nat}
    (hr : Room k X.A) (hg : Gl X "all") (hm : X.mg "all" = none) (hb : bootBuiltins "all" = some (.builtin "all")) (TB : GxR.TabB X.base X.mg (He.cT X.K (dn, none)).1 (He.cT X.K (dn, none)).2) (hcode : X.env.code = .ref (He.cT X.K (dn, none)).1) (S : GxR.GenS X.env scope x) (hi : PE X iter (SX X W f)) (hel : GxR.EltP X.prog X.w scope x elt pb)
    (hs : ∀ v, genFold iter X.env v = pure v)
    (he : starEach [.GeneratorExp elt [⟨.Name x px, iter, [], 0⟩] scope gpos] X.env = (false, eval (.GeneratorExp elt [⟨.Name x px, iter, [], 0⟩] scope gpos) X.env) :: starEach [] X.env := by rfl) :
    PE X (.Call (.Name "all" p) [.GeneratorExp elt [⟨.Name x px, iter, [], 0⟩] scope gpos] [] pos) (SX X W (iAllS dn pb f)) :=
  PE.imp (GxR.pe_allS hr hg hm hb TB hcode S hi hel hs he) fun S H Q ⟨env, ah, η, en, pk, h⟩ =>
  ⟨env, ah, η, en, pk, h.bind.imp0 fun d η1 H1 ah1 m1 p1 q1 => fun v rv => by
    split at q1
    · rename_i a p' e0
      split at q1
      · rename_i hp
        subst hp
        cases rv
        have l0 : 0 < ah1.length := (List.getElem?_eq_some_iff.mp e0).1
        have hn : η1[0]? = some (η1[0]'(by rw [p1.len]; exact l0)) := List.getElem?_eq_getElem _
        obtain ⟨ea, ps, h1, t1⟩ := p1.ok 0 _ _ hn e0
        rw [ea] at hn h1
        refine ⟨a, rfl, ⟨ps, h1, t1⟩, fun H2 hT => ?_⟩
        obtain ⟨⟨ps2, h2, t2⟩, ho⟩ := hT
        have e2 : H2 = upd H1 (He.cT X.K (p', none)).2 (.tbl ps2) := by
          funext b
          by_cases c : b = (He.cT X.K (p', none)).2
          · subst c; rw [h2, upd_same]
          · rw [ho b c, upd_ne c]
        subst e2
        have m : Mv η1 H1 η1 (upd H1 (He.cT X.K (p', none)).2 (.tbl ps2)) := .upd (List.mem_of_getElem? hn) h1 (fun _ z => nomatch z) (fun _ _ z => nomatch z)
        have pp := p1.put (o := .tab p') hn h1 (fun _ z => nomatch z) (fun _ _ z => nomatch z) ⟨rfl, ps2, upd_same, t2⟩
        have se : ah1.set 0 (.tab p') = ah1 := by
          refine List.ext_getElem? fun j => ?_
          by_cases c : j = 0
          · subst c; rw [List.getElem?_set_self l0, e0]
          · rw [List.getElem?_set_ne (Ne.symm c)]
        rw [se] at pp
        exact q1 η1 _ m pp _ (.bl _)
      · exact q1.elim
    · exact q1.elim⟩
end
end DL
namespace DL
open PySem PySem.Spec PyProof.Rows L2
/-- none of the objects that are looked at is a list -/
def noLst (K : PySem.W.Frag) : Bool := K.all fun q => match q.2.cls with
  | .type n => !(n == "list")
  | _ => true
theorem noLst_at {K : PySem.W.Frag} (h : noLst K = true) {a : Addr} {o : Obj} (e : K.lookup a = some o) : o.cls ≠ .type "list" := by
  intro z
  have m := List.all_eq_true.mp h _ (He.lookup_mem e)
  simp only [z] at m
  exact absurd m (by decide)
/-- a def of the top, as it is written -/
def mkD (x : Str) (st : Stmt) : He.DefD := ⟨(x, none), x, x, defArgs st, defBody st, defScope st, [], []⟩
section
variable {fa : List He.Fa} {fn : List He.DefD} {ts : List He.Tab} {tf : List He.Defn} {ex : PySem.W.Frag → Bool} {w : World} {K : PySem.W.Frag} {h : Heap} {mg : Str → Option Value}
theorem def_at (c : He.SaysX fa fn ts tf ex w h K) (X : K.In h) (G : h.Ns mainGlobals mg) {x : Str} {st : Stmt} (i j : Nat) (e1 : fn[i]? = some (mkD x st)) (e2 : fa[j]? = some (.glo x)) : ∃ f fd, Fun K x x st f fd ∧ mg x = some (.ref f) := by
  obtain ⟨fd, ⟨oc, od, dV, kV, doc, pm, an, cd, ct, sl, e, lk, co, hd, -⟩, kp⟩ := c.t.d.def_ i e1
  have z : dV = .none := by
    rcases hd with ⟨-, q⟩ | ⟨q, -⟩
    · exact q
    · exact absurd rfl q
  subst z
  exact ⟨_, fd, ⟨⟨oc, od, kV, doc, pm, an, cd, ct, sl, e, lk, co⟩, kp⟩, He.glo_ok X G (c.t.d.fact j e2)⟩
theorem free_at (c : He.SaysX fa fn ts tf ex w h K) (X : K.In h) (G : h.Ns mainGlobals mg) {x : Str} (j : Nat) (e : fa[j]? = some (.free x)) : mg x = none := He.free_ok X G (c.t.d.fact j e)
theorem kon_int (c : He.SaysX fa fn ts tf ex w h K) (X : K.In h) (G : h.Ns mainGlobals mg) {x : Str} {i : Int} (j : Nat) (e : fa[j]? = some (.int x i)) : KonOk w K mg x (.int i) := by
  obtain ⟨t, q⟩ := He.int_ok X G (c.t.d.fact j e)
  exact ⟨_, .int i, q, ⟨t, rfl⟩, fun _ _ => .int i⟩
theorem kon_str (c : He.SaysX fa fn ts tf ex w h K) (X : K.In h) (G : h.Ns mainGlobals mg) {x z : Str} (j : Nat) (e : fa[j]? = some (.str x z)) : KonOk w K mg x (.str z) := by
  obtain ⟨t, q⟩ := He.str_ok X G (c.t.d.fact j e)
  exact ⟨_, .str z, q, ⟨t, rfl⟩, fun _ _ => .str z⟩
/-- values that a table may hold -/
inductive Lit where
  | int (i : Int) | str (x : Str)
def Lit.d : Lit → D
  | .int i => .int i
  | .str x => .str x
def Lit.dv : Lit → He.Dv
  | .int i => .int i
  | .str x => .str x
theorem Lit.rel {G : KW} {η : List Addr} {H : Hp} (l : Lit) : Rel G η H l.d (l.dv.v G.K) := by
  cases l with
  | int i => exact .int i
  | str x => exact .str x
theorem lits_rel {G : KW} {η : List Addr} {H : Hp} : ∀ ls : List Lit, RelAll G η H (ls.map Lit.d) (ls.map fun l => l.dv.v G.K)
  | [] => .nil
  | l :: ls => .cons l.rel (lits_rel ls)
/-- the module's name x is a table of these -/
def tabB (K : PySem.W.Frag) (x : Str) (kvs : List (Str × Lit)) : Bool := He.valsB K (He.ga K x) (kvs.map fun q => (q.1, q.2.dv))
theorem kon_tab (c : He.SaysX fa fn ts tf ex w h K) (X : K.In h) (G : h.Ns mainGlobals mg) {x : Str} {kvs : List (Str × Lit)} (j i : Nat) (e : fa[j]? = some (.glo x)) (e2 : ts[i]? = some (fun K => He.ga K x, kvs.map (·.1))) (e3 : tabB K x kvs = true) :
    KonOk w K mg x (.cd (kvs.map (·.1)) (kvs.map fun q => q.2.d)) := by
  obtain ⟨es, n, q1, q2, q3⟩ := c.t.tab i e2
  refine ⟨_, .ref (He.ga K x), He.glo_ok X G (c.t.d.fact j e), rfl, fun η H => .cd (vs := kvs.map fun q => q.2.dv.v K) (fun i z v h1 h2 => ?_) (by simp) ?_⟩
  · rw [List.getElem?_map] at h1 h2
    obtain ⟨p, hp, rfl⟩ := Option.map_eq_some_iff.mp h1
    rw [hp] at h2
    cases h2
    obtain ⟨u, u1, u2⟩ := He.valsB_ok e3 (List.mem_map.mpr ⟨p, List.mem_of_getElem? hp, rfl⟩)
    exact ⟨es, n, u, q1, q2, u1, u2⟩
  · have := lits_rel (G := ⟨K, w⟩) (η := η) (H := H) (kvs.map (·.2))
    rw [List.map_map, List.map_map] at this
    exact this
/-- a tuple of the module, without attributes -/
def tupN (K : PySem.W.Frag) (x : Str) (vs : List He.Dv) : Bool := He.tupB K x vs && (match K.lookup (He.ga K x) with
  | some o => o.dict.isNone
  | none => false)
theorem tupN_ok {K : PySem.W.Frag} {x : Str} {vs : List He.Dv} (h : tupN K x vs = true) : He.tupB K x vs = true ∧ ∀ o, K.lookup (He.ga K x) = some o → o.dict = none := by
  obtain ⟨h1, h2⟩ := He.ba h
  refine ⟨h1, fun o e => ?_⟩
  rw [e] at h2
  exact Option.isNone_iff_eq_none.mp h2
theorem kon_tup (c : He.SaysX fa fn ts tf ex w h K) (X : K.In h) (G : h.Ns mainGlobals mg) {x : Str} {ls : List Lit} (j : Nat) (e : fa[j]? = some (.glo x)) (e3 : tupN K x (ls.map Lit.dv) = true) : KonOk w K mg x (.ct (ls.map Lit.d)) := by
  refine ⟨_, .ref (He.ga K x), He.glo_ok X G (c.t.d.fact j e), rfl, fun η H => .ct (vs := ls.map fun l => l.dv.v K) ?_ (lits_rel ls)⟩
  have dn := (tupN_ok e3).2
  rcases He.tupB_ok (tupN_ok e3).1 (fun _ => none) with (q | ⟨o, q⟩) | ⟨o, its, n, q1, q2, q3, q4, q5⟩
  · cases q
  · cases q
  · rw [List.map_map] at q5
    exact .inl ⟨o, its, n, q1, q2, q3, q4, q5, dn o q1⟩
end
/-- the law is called with the script -/
theorem call_script {P : Program} {w : World} {K : PySem.W.Frag} {mg mb : Str → Option Value} {k : Nat} {x : Str} {ps : List Str} {F : List D → AH → Res D} {fa a : Addr} {s1 : Shared} {vs : List Value} {ns : List Int}
    (nk : noLst K = true) (kx : K.In s1.heap) (n1 : s1.heap.Ns mainGlobals mg) (n2 : s1.heap.Ns builtinsNs mb) (n3 : ∀ y : Str, y ≠ "__name__" → mb y = bootBuiltins y) (nl : s1.heap.NoLimit) (g0 : s1.gens = #[])
    (oa : s1.heap.get? a = some ⟨.type "list", none, .seq vs.toArray 0, #[]⟩) (is : IntsAre vs ns) (sz : ns.length ≤ sizeLine) (room : Room k callerA) (hf : mg x = some (.ref fa)) (h1 : ps.length = 1)
    (law : ∀ b : Heap, K.In b → b.Ns mainGlobals mg → Ok1 P w K mg b x k ps F) (true_ : ∃ a', F [.lst (ns.map D.int)] [] = .ok (.bl true) a') :
    codeAny (model P w) callerA (.call (.ref fa) ⟨[.ref a], []⟩) (fun r s2 => r = .ok (.ret (.bool true)) ∧ OldK s1.heap s2.heap ∧ s2.os = s1.os ∧ AllBare s2.gens) s1 := by
  have ka : K.lookup a = none := by
    cases e : K.lookup a with
    | none => rfl
    | some o =>
      have q := kx a o e
      rw [oa] at q
      cases q
      exact absurd rfl (noLst_at nk e)
  let ob : Obj := ⟨.type "list", none, .seq vs.toArray 0, #[]⟩
  let H : Hp := fun b => if b = a then some (.frz ob (.lst (ns.map V.int))) else none
  have hAt : H a = some (.frz ob (.lst (ns.map V.int))) := if_pos rfl
  have off : ∀ b, b ≠ a → H b = none := fun b n => if_neg n
  have offO : ∀ (b : Addr) (o : Obj), s1.heap.get? b = some o → o ≠ ob → H b = none := fun b o e n => off b fun z => by
    subst z
    rw [oa] at e
    exact n (Option.some.inj e).symm
  have nsK : ∀ (b : Addr) (m : Str → Option Value), s1.heap.Ns b m → (hidT s1.heap H).Ns b m := by
    rintro b m ⟨o, es, ep, e, d, r⟩
    refine ⟨o, es, ep, hidT_get e (offO b o e fun z => ?_), d, r⟩
    subst z
    cases d
  have inK : K.In (hidT s1.heap H) := fun b o e => hidT_get (kx b o e) (off b fun z => by rw [z, ka] at e; cases e)
  have md : Mod K mg (hidT s1.heap H) := ⟨inK, nsK _ _ n1, ⟨mb, nsK _ _ n2, n3⟩, nl.elim fun mc z => ⟨mc, nsK _ _ z.1, z.2⟩⟩
  have hok : HOk P w H s1.heap := fun b u e => by
    by_cases hb : b = a
    · subst hb
      rw [hAt] at e
      cases e
      exact ⟨oa, by rw [List.length_map]; exact sz, vs, _, vals_ints is, oa⟩
    · rw [off b hb] at e; cases e
  have e0 : Env0 P w K mg (hidT s1.heap H) callerA [] s1 H := ⟨rfl, md, fun _ _ e => of_hidT e, Nat.le_of_eq (hidT_size _ _), trivial, (fun b m => nomatch m), hok, .of_eq g0⟩
  obtain ⟨f, fd, hm, _, bd, fg⟩ := law _ inK (nsK _ _ n1)
  rw [hf] at hm
  cases hm
  obtain ⟨a', ft⟩ := true_
  have sp : spN ⟨K, w⟩ ps.length F [.ref a] H (fun v _ => v = .bl true) fun _ _ _ => False := by
    refine ⟨[.lst (ns.map D.int)], [], [], h1.symm, .cons (.lst ⟨ob, hAt⟩ ?_) .nil, ⟨rfl, .nil, fun n b o z => by simp at z⟩, ?_⟩
    · clear ft sz is oa
      induction ns with
      | nil => exact .nil
      | cons i ns ih =>
        rw [List.map_cons, List.map_cons]
        exact .cons (.int i) (by
          have : ∀ ms : List Int, RelAll ⟨K, w⟩ [] H (ms.map D.int) (ms.map V.int) := fun ms => by
            induction ms with
            | nil => exact .nil
            | cons m ms ih => exact .cons (.int m) ih
          exact this ns)
    · rw [ft]
      intro η' H' _ _ v r
      cases r
      rfl
  refine codeAny_mono (fg.go callerA [] s1 H ⟨[.ref a], []⟩ [.ref a] [.ref a] _ _ room rfl e0 (bd s1 [.ref a] kx (by simpa using h1.symm)) (.cons rfl .nil) sp) fun r s2 q => ?_
  match r, q with
  | .error e, q => exact (show False from q).elim
  | .ok .next, q => exact False.elim q
  | .ok .brk, q => exact False.elim q
  | .ok .cont, q => exact False.elim q
  | .ok (.ret u), q =>
    obtain ⟨v, H2, os, bare, un, hok2, rvv, z⟩ := q
    cases (show v = .bl true from z)
    cases (show u = Value.bool true from rvv)
    refine ⟨rfl, OldK.of_keep fun b o e => ?_, os, bare⟩
    by_cases hb : b = a
    · subst hb
      rw [oa] at e
      cases e
      exact (hok2 b _ (un.frzs b _ _ hAt)).1
    · exact un.keep b o e (off b hb) (fun m => nomatch m) List.not_mem_nil
theorem walk_law {l : PySem.W.OpenLaw} {n k : Nat} {q : Program} {loose : List Str} {XP : (Str → Option Value) → Heap → Prop} {YP : World → Heap → Prop} {d : DefRec} {ps : List Str} {F : List D → AH → Res D}
    (hn : l.most = some n) (hzz : n ≤ sizeLine) (hdf : d.params.defaults = []) (room : Room k callerA) (h1 : ps.length = 1)
    (law : ∀ (w : World) (mg : Str → Option Value) (h : Heap), YP w h → h.Ns mainGlobals mg → ∃ K : PySem.W.Frag, K.In h ∧ noLst K = true ∧ ∀ b : Heap, K.In b → b.Ns mainGlobals mg → Ok1 l.prog w K mg b d.name k ps F)
    (true_ : ∀ ns : List Int, ∃ a', F [.lst (ns.map D.int)] [] = .ok (.bl true) a') :
    PySem.W.WalkO q loose XP YP l.row.toRowW d [] (fun f vs => PySem.call f vs) := by
  refine Att.attach_call hn hdf fun w s0 s1 mg mb fa o pm cd doc a vs ns G Y ho hd hcd hmg hobj hints hln hg => ?_
  obtain ⟨K, kx, nk, lw⟩ := law w mg _ Y G.T.g
  exact call_script nk kx G.T.g G.T.b G.T.builtins G.T.nolimit hg hobj hints (Nat.le_trans hln hzz) room hmg h1 lw (true_ ns)
end DL
namespace DL
open PySem PySem.Spec PyProof.Rows L2
section
variable {P : Program} {w : World} {K : PySem.W.Frag} {mg : Str → Option Value} {base : Heap}
/-- the element: the sign stands in a text -/
theorem elt_inS {prog : Program} {scope : Scope} {x k : Str} {j : Nat} {p1 p2 p3 : Pos} (hk : scope.kind = .function) (hl : scope.names.lookup x = some .local) (hd : (x == ("__debug__" : Str)) = false := by decide) :
    GxR.EltP prog w scope x (.Compare (.Name x p1) [.In] [.Constant (.str k) j p2] p3) (fun c => !(Builtin.Str.occurrences k ⟨#[c]⟩ 0 k.length 1).isEmpty) := by
  intro cenv A' E' c t s2 m2 hs hn hm
  refine wpAny_Compare1 ?_
  refine wpAny_Name (wpAny_loadName_local (by rw [hs]; exact hk) (show cenv.scope.names.lookup x = some .local by rw [hs]; exact hl) hn hm ?_) hd
  refine Calls.Constant_str ?_
  exact in_str ⟨rfl, GxR.keeps_tok _ _⟩
/-- a def whose code object is known -/
structure FunC (K : PySem.W.Frag) (x : Str) (st : Stmt) (f : Addr) (fd : FuncData) (c : Addr) : Prop where
  ex : ∃ (oc : Value) (od : Option Addr) (kV doc pm : Value) (an : Option Addr) (ct : Value) (osl : Array (Option Value)),
    fd = PySem.W.fnOf x x (defArgs st) (defBody st) (defScope st) .none kV doc pm an (.ref c) ct ∧ K.lookup f = some ⟨oc, od, .func fd, osl⟩ ∧ PySem.W.codeIn K (.ref c) x = true
  kp : PySem.W.keepIn K (.ref f) = true
theorem FunC.fn {x : Str} {st : Stmt} {f : Addr} {fd : FuncData} {c : Addr} (F : FunC K x st f fd c) : Fun K x x st f fd :=
  let ⟨oc, od, kV, doc, pm, an, ct, osl, e, l, h⟩ := F.ex
  ⟨⟨oc, od, kV, doc, pm, an, .ref c, ct, osl, e, l, h⟩, F.kp⟩
theorem fnG_ofC {k : Nat} {x : Str} {st : Stmt} {f : Addr} {fd : FuncData} {ps N : List Str} {sp : Sp} {c : Addr} (F : FunC K x st f fd c) (S : FnScope N ps (defScope st)) (len : ∀ xs H Q E, sp xs H Q E → xs.length = ps.length)
    (hb : ∀ (A : Around) (out : List Env) (s : Shared) (H : Hp) (xs : List V) (Q : VK) (E : XK), Room k (A.deeper (envOfC x (defScope st) s.heap.objs.size f (.ref c))) → NoRepr A → sp xs H Q E →
      ∃ t, PSs (cxOf CX0 P w K mg base N x (defScope st) f (.ref c) A out s H E) (defBody st) t ∧ t ⟨fun _ H' => Q .non H', Q, fun _ _ => False, fun _ _ => False⟩ (start N xs) H) :
    FnG P w K mg base CX0 (k + 1) f fd ps sp := by
  obtain ⟨oc, od, kV, doc, pm, an, ct, osl, rfl, lk, hcd⟩ := F.ex
  refine ⟨len, fun A out s H as us xs Q E hr hn e0 hbd r hsp => ?_⟩
  have hl := len _ _ _ _ hsp
  have KX : K.In s.heap := e0.mod.kin.keeps fun b o e => (e0.bs b o e).1
  have lim : s.heap.NoLimit := e0.mod.nolimit.keeps fun b o e => (e0.bs b o e).1
  have hkd : ∀ y ∈ ps.zip us, (defScope st).names.lookup y.1 = some .local ∨ ((defScope st).names.lookup y.1 = some .cell ∧ ((cellsFrom (s.heap.objs.size + 1) (defScope st).names []).lookup y.1).isSome = true) := by
    rintro ⟨n, v⟩ hy
    exact (S.par n (List.of_mem_zip hy).1).imp id fun q => ⟨q, PySem.W.cellsFrom_some _ _ _ (.inl q)⟩
  refine codeAny_call_function hr.depth (KX _ _ lk) rfl S.co S.gen rfl (PySem.W.codeRec_of KX hcd) (hbd _ _ _ _ ?_)
  refine wpAny_newFunctionEnv_cells S.kind hkd fun env he s1 x => ?_
  subst he
  refine ⟨lim.keeps x.toInCall.keep, codeAny_func ?_⟩
  obtain ⟨t, ht, hq⟩ := hb A out s H xs Q E (hr.deeper _) hn hsp
  have I : Inv (cxOf CX0 P w K mg base N _ (defScope st) f (.ref c) A out s H E) [] (start N xs) H s1 := inv_start S hr.hd e0 hl r x
  refine wpAny_mono (ht.run [] s1 (start N xs) H _ I hq) (fun fl s' hs => ?_) fun e s' hs => hs
  cases fl with
  | ret u => obtain ⟨v, σ', H', J, rvv, q⟩ := hs; exact ⟨v, H', J.os, J.bare, J.base, J.hok, rvv, q⟩
  | next => obtain ⟨σ', H', J, q⟩ := hs; exact ⟨.non, H', J.os, J.bare, J.base, J.hok, rfl, q⟩
  | brk => obtain ⟨_, _, _, q⟩ := hs; exact q.elim
  | cont => obtain ⟨_, _, _, q⟩ := hs; exact q.elim
theorem fn_okC {x : Str} {st : Stmt} {f : Addr} {fd : FuncData} {N ps : List Str} {k : Nat} {fb : FS} {c : Addr} (F : FunC K x st f fd c) (Sc : FnScope N ps (defScope st))
    (hb : ∀ (A : Around) (outer : List Env) (s : Shared) (H : Hp) (E : XK), Room k (A.deeper (envOfC x (defScope st) s.heap.objs.size f (.ref c))) → NoRepr (A.deeper (envOfC x (defScope st) s.heap.objs.size f (.ref c))) →
      PSs (cxOf CX0 P w K mg base N x (defScope st) f (.ref c) A outer s H E).nox (defBody st) (SS ⟨K, w⟩ noW fb)) : FnG P w K mg base CX0 (k + 1) f fd ps (spN ⟨K, w⟩ ps.length (iBody N.length fb)) := by
  refine fnG_ofC F Sc (fun vs H Q E h => spN_len vs H Q E h) fun A outer s H vs Q E hr hn h => ?_
  obtain ⟨args, ah, η, hl, r, p, q⟩ := h
  refine ⟨_, (hb A outer s H E hr (hn.deeper _)).nox, args.map some ++ List.replicate (N.length - args.length) none, ah, η, env_start r ?_, p, ?_⟩
  · have := congrArg List.length Sc.pre
    rw [List.length_take] at this
    omega
  · unfold iBody at q
    revert q
    generalize fb _ ah = res
    intro q
    cases res with
    | ok rr ah1 =>
      obtain ⟨fl, env1⟩ := rr
      cases fl with
      | nx => exact fun η' H' m p S' en => q η' H' m p _ .non
      | rt d => exact fun η' H' m p v rvv => q η' H' m p v rvv
      | bk => exact q.elim
      | ct => exact q.elim
    | exc x e ah1 => exact q
    | bad => exact q
section
variable {fa : List He.Fa} {fn : List He.DefD} {ts : List He.Tab} {tf : List He.Defn} {ex : PySem.W.Frag → Bool} {h : Heap}
/-- the def at the top of which the code object is looked at -/
theorem def_atC (c : He.SaysX fa fn ts tf ex w h K) (X : K.In h) (G : h.Ns mainGlobals mg) {x : Str} {st : Stmt} (i j : Nat) (e1 : fn[i]? = some (mkD x st)) (e2 : fa[j]? = some (.glo x)) : ∃ f fd, FunC K x st f fd (He.cT K (x, none)).1 ∧ mg x = some (.ref f) := by
  obtain ⟨fd, ⟨oc, od, dV, kV, doc, pm, an, cd, ct, sl, e, lk, co, hd, -⟩, kp⟩ := c.t.d.def_ i e1
  have z : dV = .none := by
    rcases hd with ⟨-, q⟩ | ⟨q, -⟩
    · exact q
    · exact absurd rfl q
  subst z
  obtain ⟨cc, ec⟩ := He.codeIn_ref co
  subst ec
  have e3 : (He.cT K (x, none)).1 = cc := He.codeOf_eq (p := (x, none)) lk (by rw [e])
  rw [e3]
  exact ⟨_, fd, ⟨⟨oc, od, kV, doc, pm, an, ct, sl, e, lk, co⟩, kp⟩, He.glo_ok X G (c.t.d.fact j e2)⟩
end
/-- the law is called with the script, tables are looked at -/
theorem call_scriptT {mb : Str → Option Value} {k : Nat} {x : Str} {ps : List Str} {F : List D → AH → Res D} {fa a : Addr} {dn : Str} {s1 : Shared} {vs : List Value} {ns : List Int}
    (nk : noLst K = true) (kx : K.In s1.heap) (n1 : s1.heap.Ns mainGlobals mg) (n2 : s1.heap.Ns builtinsNs mb) (n3 : ∀ y : Str, y ≠ "__name__" → mb y = bootBuiltins y) (nl : s1.heap.NoLimit) (g0 : s1.gens = #[])
    (hbm : ∃ (bm : Addr) (ob : Obj), mg "__builtins__" = some (.ref bm) ∧ bm ≠ builtinsNs ∧ s1.heap.get? bm = some ob ∧ ob.cls = .type "module" ∧ ob.dict = some builtinsNs ∧ ob.data = .plain)
    (tO : s1.heap.get? (He.cT K (dn, none)).2 = some { cls := .none, data := .fields #[] }) (tK : K.lookup (He.cT K (dn, none)).2 = none) (tC : PySem.W.codeHdIn K (He.cT K (dn, none)).1 (He.cT K (dn, none)).2 = true)
    (oa : s1.heap.get? a = some ⟨.type "list", none, .seq vs.toArray 0, #[]⟩) (is : IntsAre vs ns) (sz : ns.length ≤ sizeLine) (room : Room k callerA) (hf : mg x = some (.ref fa)) (h1 : ps.length = 1)
    (law : ∀ b : Heap, K.In b → b.Ns mainGlobals mg → GxR.TabB b mg (He.cT K (dn, none)).1 (He.cT K (dn, none)).2 → Ok1 P w K mg b x k ps F) (true_ : ∃ a', F [.lst (ns.map D.int)] [.tab dn] = .ok (.bl true) a') :
    codeAny (model P w) callerA (.call (.ref fa) ⟨[.ref a], []⟩) (fun r s2 => r = .ok (.ret (.bool true)) ∧ OldK s1.heap s2.heap ∧ s2.os = s1.os ∧ AllBare s2.gens) s1 := by
  generalize hTe : (He.cT K (dn, none)).2 = T at *
  generalize (He.cT K (dn, none)).1 = cc at *
  have ka : K.lookup a = none := by
    cases e : K.lookup a with
    | none => rfl
    | some o =>
      have q := kx a o e
      rw [oa] at q
      cases q
      exact absurd rfl (noLst_at nk e)
  have aT : a ≠ T := fun z => by
    rw [z, tO] at oa
    have z2 : Data.fields #[] = Data.seq vs.toArray 0 := congrArg Obj.data (Option.some.inj oa)
    cases z2
  let ob : Obj := ⟨.type "list", none, .seq vs.toArray 0, #[]⟩
  let H : Hp := fun b => if b = a then some (.frz ob (.lst (ns.map V.int))) else if b = T then some (.tbl #[]) else none
  have hAt : H a = some (.frz ob (.lst (ns.map V.int))) := if_pos rfl
  have hTt : H T = some (.tbl #[]) := (if_neg (Ne.symm aT)).trans (if_pos rfl)
  have off : ∀ b, b ≠ a → b ≠ T → H b = none := fun b n m => (if_neg n).trans (if_neg m)
  have offO : ∀ (b : Addr) (o : Obj), s1.heap.get? b = some o → (∀ vs n, o.data ≠ .seq vs n) → o.data ≠ .fields #[] → H b = none := fun b o e n m => off b (fun z => by
    subst z
    rw [oa] at e
    cases e
    exact n _ _ rfl) fun z => by
    subst z
    rw [tO] at e
    cases e
    exact m rfl
  have keepO : ∀ (b : Addr) (o : Obj), s1.heap.get? b = some o → (∀ vs n, o.data ≠ .seq vs n) → o.data ≠ .fields #[] → (hidT s1.heap H).get? b = some o := fun b o e n m => hidT_get e (offO b o e n m)
  have nsK : ∀ (b : Addr) (m : Str → Option Value), s1.heap.Ns b m → (hidT s1.heap H).Ns b m := by
    rintro b m ⟨o, es, ep, e, d, r⟩
    exact ⟨o, es, ep, keepO b o e (fun _ _ z => by rw [d] at z; cases z) (fun z => by rw [d] at z; cases z), d, r⟩
  have inK : K.In (hidT s1.heap H) := fun b o e => hidT_get (kx b o e) (off b (fun z => by rw [z, ka] at e; cases e) fun z => by rw [z, tK] at e; cases e)
  have md : Mod K mg (hidT s1.heap H) := ⟨inK, nsK _ _ n1, ⟨mb, nsK _ _ n2, n3⟩, nl.elim fun mc z => ⟨mc, nsK _ _ z.1, z.2⟩⟩
  have hok : HOk P w H s1.heap := fun b u e => by
    by_cases hb : b = a
    · subst hb
      rw [hAt] at e
      cases e
      exact ⟨oa, by rw [List.length_map]; exact sz, vs, _, vals_ints is, oa⟩
    · by_cases hc : b = T
      · subst hc
        rw [hTt] at e
        cases e
        exact tO
      · rw [off b hb hc] at e; cases e
  have gT : mainGlobals ≠ T := fun z => by
    obtain ⟨o, es, ep, e, d, _⟩ := n1
    rw [z, tO] at e
    cases e
    cases d
  have TB : GxR.TabB (hidT s1.heap H) mg cc T := by
    refine ⟨PySem.W.codeHd_of_K inK tC, ?_, gT⟩
    obtain ⟨bm, o, b1, b2, b3, b4, b5, b6⟩ := hbm
    refine ⟨bm, o, b1, b2, fun z => ?_, fun z => ?_, keepO bm o b3 (fun _ _ z => by rw [b6] at z; cases z) (fun z => by rw [b6] at z; cases z), b4, b5, b6⟩
    · obtain ⟨o2, es, ep, e, d, _⟩ := n1
      rw [z, e] at b3
      cases b3
      rw [d] at b6
      cases b6
    · rw [z, tO] at b3
      cases b3
      cases b6
  have e0 : Env0 P w K mg (hidT s1.heap H) callerA [] s1 H := ⟨rfl, md, fun _ _ e => of_hidT e, Nat.le_of_eq (hidT_size _ _), trivial, (fun b m => nomatch m), hok, .of_eq g0⟩
  obtain ⟨f, fd, hm, _, bd, fg⟩ := law _ inK (nsK _ _ n1) TB
  rw [hf] at hm
  cases hm
  obtain ⟨a', ft⟩ := true_
  have intsR : ∀ ms : List Int, RelAll ⟨K, w⟩ [T] H (ms.map D.int) (ms.map V.int) := fun ms => by
    induction ms with
    | nil => exact .nil
    | cons m ms ih => exact .cons (.int m) ih
  have sp : spN ⟨K, w⟩ ps.length F [.ref a] H (fun v _ => v = .bl true) fun _ _ _ => False := by
    refine ⟨[.lst (ns.map D.int)], [.tab dn], [T], h1.symm, .cons (.lst ⟨ob, hAt⟩ (intsR ns)) .nil, ⟨rfl, by simp, fun n b o z1 z2 => ?_⟩, ?_⟩
    · cases n with
      | zero =>
        simp at z1 z2
        subst z1; subst z2
        exact ⟨hTe.symm, #[], hTt, trivial⟩
      | succ n => simp at z1
    · rw [ft]
      intro η' H' _ _ v r
      cases r
      rfl
  refine codeAny_mono (fg.go callerA [] s1 H ⟨[.ref a], []⟩ [.ref a] [.ref a] _ _ room rfl e0 (bd s1 [.ref a] kx (by simpa using h1.symm)) (.cons rfl .nil) sp) fun r s2 q => ?_
  match r, q with
  | .error e, q => exact (show False from q).elim
  | .ok .next, q => exact False.elim q
  | .ok .brk, q => exact False.elim q
  | .ok .cont, q => exact False.elim q
  | .ok (.ret u), q =>
    obtain ⟨v, H2, os, bare, un, hok2, rvv, z⟩ := q
    cases (show v = .bl true from z)
    cases (show u = Value.bool true from rvv)
    have key : ∀ b o, b ≠ T → s1.heap.get? b = some o → s2.heap.get? b = some o := fun b o hb2 e => by
      by_cases hb : b = a
      · subst hb
        rw [oa] at e
        cases e
        exact (hok2 b _ (un.frzs b _ _ hAt)).1
      · exact un.keep b o e (off b hb hb2) (fun m => nomatch m) List.not_mem_nil
    obtain ⟨more, gm⟩ := un.tbls T #[] hTt
    have gm : s2.heap.get? T = some { cls := .none, data := .fields (#[] ++ more) } := hok2 T _ gm
    refine ⟨rfl, ⟨fun b o e => ?_, fun b o e => ?_⟩, os, bare⟩
    · by_cases hb : b = T
      · subst hb
        rw [tO] at e
        cases e
        exact .inr (.inl ⟨((PySem.W.codeHd_of_K kx tC).tab tO).isCodeTable, rfl, #[], more, rfl, gm⟩)
      · exact .inl (key b o hb e)
    · by_cases hb : b = T
      · subst hb
        exact ⟨_, gm⟩
      · exact ⟨o, key b o hb e⟩
theorem walk_lawT {l : PySem.W.OpenLaw} {n k : Nat} {q : Program} {loose : List Str} {XP : (Str → Option Value) → Heap → Prop} {YP : World → Heap → Prop} {d : DefRec} {ps : List Str} {F : List D → AH → Res D} (dn : Str)
    (hn : l.most = some n) (hzz : n ≤ sizeLine) (hdf : d.params.defaults = []) (room : Room k callerA) (h1 : ps.length = 1)
    (law : ∀ (w : World) (mg : Str → Option Value) (h : Heap), YP w h → h.Ns mainGlobals mg → ∃ K : PySem.W.Frag, K.In h ∧ noLst K = true ∧ h.get? (He.cT K (dn, none)).2 = some { cls := .none, data := .fields #[] } ∧ K.lookup (He.cT K (dn, none)).2 = none ∧
      PySem.W.codeHdIn K (He.cT K (dn, none)).1 (He.cT K (dn, none)).2 = true ∧ ∀ b : Heap, K.In b → b.Ns mainGlobals mg → GxR.TabB b mg (He.cT K (dn, none)).1 (He.cT K (dn, none)).2 → Ok1 l.prog w K mg b d.name k ps F)
    (true_ : ∀ ns : List Int, ∃ a', F [.lst (ns.map D.int)] [.tab dn] = .ok (.bl true) a') :
    PySem.W.WalkO q loose XP YP l.row.toRowW d [] (fun f vs => PySem.call f vs) := by
  refine Att.attach_call hn hdf fun w s0 s1 mg mb fa o pm cd doc a vs ns G Y ho hd hcd hmg hobj hints hln hg => ?_
  obtain ⟨K, kx, nk, t1, t2, t3, lw⟩ := law w mg _ Y G.T.g
  exact call_scriptT nk kx G.T.g G.T.b G.T.builtins G.T.nolimit hg G.T.bmain t1 t2 t3 hobj hints (Nat.le_trans hln hzz) room hmg h1 lw (true_ ns)
end
/-- the sign stands in the text k -/
def inSB (k : Str) (c : Nat) : Bool := !(Builtin.Str.occurrences k ⟨#[c]⟩ 0 k.length 1).isEmpty
def genSB (scope : Scope) (x : Str) : Bool := decide (scope.kind = .function) && (scope.isCoroutine == false) && (scope.names.all fun y => decide (y.2 ≠ .cell) && decide (y.2 ≠ .free)) && decide (scope.names.lookup (".0" : Str) = some NameKind.local) && decide (scope.names.lookup x = some .local)
theorem genS_of {env : Env} {scope : Scope} {x : Str} (h : genSB scope x = true) : GxR.GenS env scope x := by
  unfold genSB at h
  simp only [Bool.and_eq_true, List.all_eq_true, decide_eq_true_eq, beq_iff_eq] at h
  obtain ⟨⟨⟨⟨h1, h2⟩, h3⟩, h4⟩, h5⟩ := h
  exact ⟨h1, h2, fun y hy => (h3 y hy).1, h4, h5, fun y hy e => absurd e (h3 y hy).2⟩
end DL
namespace DL
open PySem PySem.Spec PyProof.Rows L2
def oexB (K : PySem.W.Frag) (C : Addr) : Bool := match K.lookup C with
  | some ⟨.type t, _, .cls cd, sl⟩ => (match cd.mro, sl.toList with
    | .ref C2 :: bm, [_, _, _, _, some (.builtin n), _] => decide (t = "type") && (decide (C2 = C) && (decide (n = "ValueError.__new__") && (!cd.hasDel && (cd.hasDict && PySem.HandSPX.refsVE bm))))
    | _, _ => false)
  | _ => false
def clsB (K : PySem.W.Frag) (C : Addr) (fs : List Str) : Bool := oexB K C && (decide (PySem.W.findIn K (.ref C) "__setattr__" = some (some (.builtin "object.__setattr__"))) && (decide (PySem.W.subIn K (.ref C) (.type "BaseException") = some true) &&
  (decide (PySem.W.typeIn K (.ref C) = some (.type "type")) && (PySem.W.keepIn K (.ref C) && (xfB K C && ((fs.all fun f => decide (PySem.W.findIn K (.ref C) f = some none)) &&
  ((PySem.W.clsIn K C).isSome && (decide (PySem.W.findIn K (.ref C) "__class__" = some (some (.builtin "object.__class__"))) && (decide (PySem.W.specialIn K (.builtin "object.__class__") "__get__" = some (some (.builtin "getset_descriptor.__get__"))) &&
  (decide (PySem.W.takesIn K (.builtin "object.__class__") = some true) && decide (PySem.W.mroIn K C (.type "object") = some true)))))))))))
/-- an error's class C, its fields -/
structure ClsE (K : PySem.W.Frag) (C : Addr) (fs : List Str) : Prop where
  ox : OexC K C
  xf : XfC K C
  no : ∀ f ∈ fs, PySem.W.findIn K (.ref C) f = some none
  cl : (PySem.W.clsIn K C).isSome = true
  ha : PySem.W.findIn K (.ref C) "__class__" = some (some (.builtin "object.__class__"))
  hn : PySem.W.specialIn K (.builtin "object.__class__") "__get__" = some (some (.builtin "getset_descriptor.__get__"))
  ht : PySem.W.takesIn K (.builtin "object.__class__") = some true
  hm : PySem.W.mroIn K C (.type "object") = some true
theorem clsB_ok {K : PySem.W.Frag} {C : Addr} {fs : List Str} (h : clsB K C fs = true) : ClsE K C fs := by
  unfold clsB at h
  simp only [Bool.and_eq_true, decide_eq_true_eq, List.all_eq_true] at h
  obtain ⟨h1, h2, h3, h4, h5, h6, h7, h8, h9, h10, h11, h12⟩ := h
  refine ⟨⟨?_, h2, h3, h4, h5⟩, xfB_ok h6, h7, h8, h9, h10, h11, h12⟩
  unfold oexB at h1
  split at h1
  · rename_i t dd cd sl hk
    split at h1
    · rename_i C2 bm k0 k1 k2 k3 n k5 hm hs
      simp only [Bool.and_eq_true, decide_eq_true_eq, Bool.not_eq_true'] at h1
      obtain ⟨z1, z2, z3, z4, z5, z6⟩ := h1
      subst z1 z2 z3
      obtain ⟨nm, bs, mro, N, q, hd, sn, sub, ab, col, del⟩ := cd
      simp only at hm z4 z5
      subst hm z4 z5
      have e : sl = #[k0, k1, k2, k3, some (.builtin "ValueError.__new__"), k5] := by
        rw [← Array.toArray_toList (xs := sl), hs]
      subst e
      exact ⟨nm, q, N, bs, bm, sn, sub, ab, col, dd, k0, k1, k2, k3, k5, hk, z6⟩
    · cases h1
  · cases h1
def spI1 (C : Addr) (f : Str) : Sp := fun vs H Q _ => ∃ a y, vs = [.ref a, y] ∧ H a = some (exo a C none) ∧ ∀ dx, H dx = none → dx ≠ a → Q .non (upd (upd H dx (exd dx [(f, y)])) a (exo a C (some dx)))
def spI2 (C : Addr) (f g : Str) : Sp := fun vs H Q _ => ∃ a y z, vs = [.ref a, y, z] ∧ H a = some (exo a C none) ∧ ∀ dx, H dx = none → dx ≠ a → Q .non (upd (upd (upd H dx (exd dx [(f, y)])) a (exo a C (some dx))) dx (exd dx [(g, z), (f, y)]))
/-- an error is made: its fields, the last one first -/
def sRaise (C : Str) (flds : List Str) (fs : List FE) : FS := fun env ah => (iArgs fs env ah).bind fun ds ah1 => if ds.length = flds.length then .exc ⟨C, (flds.zip ds).reverse⟩ env ah1 else .bad
section
variable {X : Cx} {W : XW}
theorem exc_made {G : KW} {η : List Addr} {H : Hp} {ah : AH} {env : AE} {S : L2.St} {C : Str} {fs : List (Str × D)} {vs : List (Str × V)} {dx : Addr} {Q : Fl × AE → List Addr → Hp → AH → Prop} (q : Post G W η H (.exc ⟨C, fs⟩ env ah) Q) (p : HpOk G η H ah) (en : EnvOk G η H env S) (n : H dx = none)
    (e : vs.map (·.1) = fs.map (·.1)) (r : RelAll G η H (fs.map (·.2)) (vs.map (·.2))) : W (.ref (He.ga G.K C)) (some dx) S (upd H dx (.xd vs)) := by
  have m : Mv η H η (upd H dx (.xd vs)) := .same (same_new n)
  exact q η _ (some dx) S m (p.same (same_new n)) ⟨dx, vs, rfl, p.fresh n, upd_same, e, r.mv m⟩ (fun dd z => by cases z; exact n) (en.mv m)
theorem del_upd {H : Hp} {a dx C : Addr} {u v w : HO} (ha : H a = none) : upd (del (upd (upd (upd H a u) dx v) a w) a) dx (.xd []) = upd H dx (.xd []) := by
  funext b
  by_cases h : b = dx
  · rw [h, upd_same, upd_same]
  · rw [upd_ne h, upd_ne h]
    by_cases k : b = a
    · rw [k, del_same, ha]
    · rw [del_ne k, upd_ne k, upd_ne h, upd_ne k]
theorem del_updX {H : Hp} {a dx : Addr} {u v w o : HO} (ha : H a = none) : upd (del (upd (upd (upd H a u) dx v) a w) a) dx o = upd H dx o := by
  funext b
  by_cases h : b = dx
  · rw [h, upd_same, upd_same]
  · rw [upd_ne h, upd_ne h]
    by_cases k : b = a
    · rw [k, del_same, ha]
    · rw [del_ne k, upd_ne k, upd_ne h, upd_ne k]
theorem del_updY {H : Hp} {a dx : Addr} {u v w x o : HO} (ha : H a = none) : upd (del (upd (upd (upd (upd H a u) dx v) a w) dx x) a) dx o = upd H dx o := by
  funext b
  by_cases h : b = dx
  · rw [h, upd_same, upd_same]
  · rw [upd_ne h, upd_ne h]
    by_cases k : b = a
    · rw [k, del_same, ha]
    · rw [del_ne k, upd_ne h, upd_ne k, upd_ne h, upd_ne k]
theorem s_raise1 {x f : Str} {e : Expr} {p pos pos2 : Pos} {fI : Addr} {k : Nat} {fd : FuncData} {ps : List Str} {fe : FE} (T : OexC X.K (He.ga X.K x)) (iC : PySem.W.findIn X.K (.ref (He.ga X.K x)) "__init__" = some (some (.ref fI))) (tI : PySem.W.typeIn X.K (.ref fI) = some (.type "function"))
    (F1 : FnOk X.prog X.w X.K X.mg X.base CX0 k fI fd ps (spI1 (He.ga X.K x) f)) (hr : Room (k + 1) X.A) (hb : Binds X.K fd ps []) (hg : Gl X x) (hm : X.mg x = some (.ref (He.ga X.K x))) (hc : X.calm = true) (tk : Takes X W) (he : PE X e (SX X W fe))
    (hdb : (x == ("__debug__" : Str)) = false := by decide) (hs : starEach [e] X.env = (false, eval e X.env) :: starEach [] X.env := by rfl) (hpl : (backTo pos (starEach [] X.env)).any (·.1) = false := by rfl) :
    PS X (.Raise (some (.Call (.Name x p) [e] [] pos)) none pos2) (SSX X W (sRaise x [f] [fe])) :=
  PS.imp (ps_raise hc tk (pmk_oex (ds := []) (dvs := []) T iC tI F1 hr hb .nil pass0 hg hm (a_cons he a_nil hs) hdb hs hpl)) fun Dn S H ⟨env, ah, η, en, pk, h⟩ => by
    refine ⟨env, ah, η, en, pk, h.bind.imp0 fun ds η1 H1 ah1 m1 p1 q1 => fun vs rs => ?_⟩
    split at q1
    · rename_i hl
      match ds, hl with
      | [d], _ =>
        cases rs with
        | cons r rr =>
          cases rr
          rename_i v
          refine ⟨by show 1 ≤ 1000; omega, fun a ha => ?_⟩
          refine ⟨a, v, rfl, upd_same, fun dx n ne => ?_⟩
          have n1 : H1 dx = none := by rw [upd_ne ne] at n; exact n
          refine ⟨rfl, dx, [(f, v)], upd_same, by rw [upd_ne ne, upd_same], n1, ?_⟩
          rw [del_updX ha]
          exact exc_made q1 p1 (en.mv m1) n1 rfl (.cons r .nil)
    · exact q1.elim
theorem s_raise2 {x f g : Str} {e e2 : Expr} {p pos pos2 : Pos} {fI : Addr} {k : Nat} {fd : FuncData} {ps : List Str} {fe fe2 : FE} (T : OexC X.K (He.ga X.K x)) (iC : PySem.W.findIn X.K (.ref (He.ga X.K x)) "__init__" = some (some (.ref fI))) (tI : PySem.W.typeIn X.K (.ref fI) = some (.type "function"))
    (F1 : FnOk X.prog X.w X.K X.mg X.base CX0 k fI fd ps (spI2 (He.ga X.K x) f g)) (hr : Room (k + 1) X.A) (hb : Binds X.K fd ps []) (hg : Gl X x) (hm : X.mg x = some (.ref (He.ga X.K x))) (hc : X.calm = true) (tk : Takes X W) (he : PE X e (SX X W fe)) (he2 : PE X e2 (SX X W fe2))
    (hdb : (x == ("__debug__" : Str)) = false := by decide) (hs : starEach [e, e2] X.env = (false, eval e X.env) :: starEach [e2] X.env := by rfl) (hs2 : starEach [e2] X.env = (false, eval e2 X.env) :: starEach [] X.env := by rfl) (hpl : (backTo pos (starEach [e2] X.env)).any (·.1) = false := by rfl) :
    PS X (.Raise (some (.Call (.Name x p) [e, e2] [] pos)) none pos2) (SSX X W (sRaise x [f, g] [fe, fe2])) :=
  PS.imp (ps_raise hc tk (pmk_oex (ds := []) (dvs := []) T iC tI F1 hr hb .nil pass0 hg hm (a_cons he (a_cons he2 a_nil hs2) hs) hdb hs hpl)) fun Dn S H ⟨env, ah, η, en, pk, h⟩ => by
    refine ⟨env, ah, η, en, pk, h.bind.imp0 fun ds η1 H1 ah1 m1 p1 q1 => fun vs rs => ?_⟩
    split at q1
    · rename_i hl
      match ds, hl with
      | [d, d2], _ =>
        cases rs with
        | cons r rr =>
          cases rr with
          | cons r2 rr =>
            cases rr
            rename_i v v2
            refine ⟨by show 2 ≤ 1000; omega, fun a ha => ?_⟩
            refine ⟨a, v, v2, rfl, upd_same, fun dx n ne => ?_⟩
            have n1 : H1 dx = none := by rw [upd_ne ne] at n; exact n
            refine ⟨rfl, dx, [(g, v2), (f, v)], by rw [upd_ne (Ne.symm ne), upd_same], upd_same, n1, ?_⟩
            rw [del_updY ha]
            exact exc_made q1 p1 (en.mv m1) n1 rfl (.cons r2 (.cons r .nil))
    · exact q1.elim
end
def spX (G : KW) (m : Nat) (F : List D → AH → Res D) : Sp := fun vs H Q E => ∃ (args : List D) (ah : AH) (η : List Addr), args.length = m ∧ RelAll G η H args vs ∧ HpOk G η H ah ∧ Post G (fun cls d _ H' => E cls d H') η H (F args ah) (QV G Q)
theorem spX_len {G : KW} {m : Nat} {F : List D → AH → Res D} : ∀ vs H Q E, spX G m F vs H Q E → vs.length = m := fun vs H Q E ⟨args, ah, η, hl, r, _⟩ => by rw [← r.length]; exact hl
section
variable {P : Program} {w : World} {K : PySem.W.Frag} {mg : Str → Option Value} {base : Heap}
theorem fn_okX {x qual : Str} {st : Stmt} {f : Addr} {fd : FuncData} {N ps : List Str} {k : Nat} {fb : FS} (F : Fun K x qual st f fd) (Sc : FnScope N ps (defScope st))
    (hb : ∀ (cdv : Value) (A : Around) (outer : List Env) (s : Shared) (H : Hp) (E : XK), Room k (A.deeper (envOfC qual (defScope st) s.heap.objs.size f cdv)) → NoRepr (A.deeper (envOfC qual (defScope st) s.heap.objs.size f cdv)) →
      Takes (cxOf (L2.CX P w) P w K mg base N qual (defScope st) f cdv A outer s H E) (fun cls d _ H' => E cls d H') → PSs (cxOf (L2.CX P w) P w K mg base N qual (defScope st) f cdv A outer s H E) (defBody st) (SS ⟨K, w⟩ (fun cls d _ H' => E cls d H') fb)) :
    FnG P w K mg base (L2.CX P w) (k + 1) f fd ps (spX ⟨K, w⟩ ps.length (iBody N.length fb)) := by
  refine fnG_of F Sc (fun vs H Q E h => spX_len vs H Q E h) fun cdv A outer s H vs Q E hr hn h => ?_
  obtain ⟨args, ah, η, hl, r, p, q⟩ := h
  refine ⟨_, hb cdv A outer s H E hr (hn.deeper _) (takes_of rfl rfl rfl rfl), args.map some ++ List.replicate (N.length - args.length) none, ah, η, env_start r ?_, p, ?_⟩
  · have := congrArg List.length Sc.pre
    rw [List.length_take] at this
    omega
  · unfold iBody at q
    revert q
    generalize fb _ ah = res
    intro q
    cases res with
    | ok rr ah1 =>
      obtain ⟨fl, env1⟩ := rr
      cases fl with
      | nx => exact fun η' H' m p S' en => q η' H' m p _ .non
      | rt d => exact fun η' H' m p v rvv => q η' H' m p v rvv
      | bk => exact q.elim
      | ct => exact q.elim
    | exc x e ah1 => exact q
    | bad => exact q
/-- a def of the module that may raise keeps its function -/
def Ok1X (P : Program) (w : World) (K : PySem.W.Frag) (mg : Str → Option Value) (base : Heap) (x : Str) (k : Nat) (ps : List Str) (F : List D → AH → Res D) : Prop :=
  ∃ f fd, mg x = some (.ref f) ∧ PySem.W.keepIn K (.ref f) = true ∧ Binds K fd ps [] ∧ FnG P w K mg base (L2.CX P w) k f fd ps (spX ⟨K, w⟩ ps.length F)
end
/-- where it raises nothing -/
theorem Ok1X.calm {P : Program} {w : World} {K : PySem.W.Frag} {mg : Str → Option Value} {base : Heap} {x : Str} {k : Nat} {ps : List Str} {F : List D → AH → Res D} (h : Ok1X P w K mg base x k ps F) : Ok1 P w K mg base x k ps F := by
  obtain ⟨f, fd, h1, h2, h3, h4⟩ := h
  refine ⟨f, fd, h1, h2, h3, ⟨fun xs H Q E h => spN_len xs H Q E h, fun A out s H as us xs Q E hr hn e0 b r ⟨args, ah, η, hl, r2, p, q⟩ => ?_⟩⟩
  refine codeAny_mono (h4.go A out s H as us xs Q (fun _ _ _ => False) hr hn e0 b r ⟨args, ah, η, hl, r2, p, q⟩) fun rs s' hq => ?_
  match rs, hq with
  | .error e, hq =>
    obtain ⟨_, _, _, _, _, _, _, _, _, _, _, _, z⟩ := hq
    exact z.elim
  | .ok (.ret u), hq => exact hq
  | .ok .next, hq => exact hq
  | .ok .brk, hq => exact hq
  | .ok .cont, hq => exact hq
/-- f(..) of a def that may raise -/
def iDefX (F : List D → AH → Res D) (fs : List FE) : FE := fun env ah => (iArgs fs env ah).bind fun ds ah1 => match F ds ah1 with
  | .ok d ah2 => .ok d ah2
  | .exc x _ ah2 => .exc x env ah2
  | .bad => .bad
section
variable {X : Cx} {W : XW}
theorem run_fnGX {CX : CXT} {k : Nat} {f : Addr} {fd : FuncData} {ps : List Str} {sp : Sp} {E : XK} {pnz : List (Addr × Obj)} {σ : L2.St} {H : Hp} {s : Shared} {Q : VK} {us : List Value} {xs : List V} (F : FnG X.prog X.w X.K X.mg X.base CX k f fd ps sp) (hr : Room k X.A) (hn : NoRepr X.A)
    (hb : Binds X.K fd ps []) (hx : PassesAt CX X σ E) (I : Inv X pnz σ H s) (r : Vals xs us) (h : sp xs H Q E) : wpAny (model X.prog X.w) X.A (call (.ref f) us) (EP X pnz σ Q) X.xe s := by
  have hl : (us ++ []).length = ps.length := by rw [List.append_nil, ← r.length]; exact F.len _ _ _ _ h
  have b := hb s us I.kIn hl
  rw [List.append_nil] at b
  refine wpAny_call (codeAny_mono (F.go X.A X.stack s H ⟨us, []⟩ us xs Q E hr hn I.env0 b r h) fun r s' hq => ?_)
  match r, hq with
  | .error e, hq => exact hx pnz H s e s' I hq
  | .ok (.ret u), hq => exact I.after hq
  | .ok .next, hq => exact False.elim hq
  | .ok .brk, hq => exact False.elim hq
  | .ok .cont, hq => exact False.elim hq
theorem pe_callGX {x : Str} {p pos : Pos} {t : TA} {k : Nat} {f : Addr} {fd : FuncData} {ps : List Str} {sp : Sp} {e : Expr} {es : List Expr} (F : FnG X.prog X.w X.K X.mg X.base (L2.CX X.prog X.w) k f fd ps sp) (hr : Room k X.A) (hn : NoRepr X.A) (hg : Gl X x) (hm : X.mg x = some (.ref f)) (hk : PySem.W.keepIn X.K (.ref f) = true)
    (hb : Binds X.K fd ps []) (tk : Takes X W) (ha : PA X (e :: es) t) (hdb : (x == ("__debug__" : Str)) = false := by decide)
    (he : starEach (e :: es) X.env = (false, eval e X.env) :: starEach es X.env := by rfl) (hpl : (backTo pos (starEach es X.env)).any (·.1) = false := by rfl) :
    PE X (.Call (.Name x p) (e :: es) [] pos) (fun σ H Q => t σ H fun vs H1 => sp vs H1 Q (WE W σ)) := ⟨fun pnz s σ H Q I h =>
  wpAny_Call_Name_kw (ld_glob I hg hm (PySem.W.callWith_K (h₀ := X.base) I.ok.mod.kin hk (thn (ha.run pos pnz s σ H _ I h) fun us s1 ⟨xs, H1, I1, r, q⟩ => ⟨I1.kIn, run_fnGX F hr hn hb (passAt tk σ) I1 r q⟩) he hpl) hdb)⟩
theorem args_len : ∀ (fs : List FE) (env : AE) (ah ah1 : AH) (ds : List D), iArgs fs env ah = .ok ds ah1 → ds.length = fs.length
  | [], env, ah, ah1, ds, h => by simp only [iArgs] at h; cases h; rfl
  | f :: fs, env, ah, ah1, ds, h => by
    simp only [iArgs] at h
    cases e1 : f env ah with
    | ok d ah2 =>
      rw [e1, Res.bind_ok] at h
      cases e2 : iArgs fs env ah2 with
      | ok ds2 ah3 => rw [e2, Res.bind_ok] at h; cases h; rw [List.length_cons, List.length_cons, args_len fs _ _ _ _ e2]
      | exc x e ah3 => rw [e2] at h; cases h
      | bad => rw [e2] at h; cases h
    | exc x e ah2 => rw [e1] at h; cases h
    | bad => rw [e1] at h; cases h
theorem Ok1X.jd {x : Str} {k : Nat} {ps : List Str} {F : List D → AH → Res D} {p pos : Pos} {e : Expr} {es : List Expr} {fs : List FE} (h : Ok1X X.prog X.w X.K X.mg X.base x k ps F) (hr : Room k X.A) (hn : NoRepr X.A) (tk : Takes X W) (hg : Gl X x) (hl : fs.length = ps.length) (ha : PA X (e :: es) (AX' X W fs))
    (hdb : (x == ("__debug__" : Str)) = false := by decide) (he : starEach (e :: es) X.env = (false, eval e X.env) :: starEach es X.env := by rfl) (hpl : (backTo pos (starEach es X.env)).any (·.1) = false := by rfl) : PE X (.Call (.Name x p) (e :: es) [] pos) (SX X W (iDefX F fs)) := by
  obtain ⟨f, fd, hm, hk, hb, hf⟩ := h
  refine PE.imp (pe_callGX hf hr hn hg hm hk hb tk ha hdb he hpl) fun S H Q ⟨env, ah, η, en, pk, h⟩ => ?_
  have h' : Post (gX X) W η H ((iArgs fs env ah).bind fun ds ah1 => match F ds ah1 with
    | .ok d ah2 => .ok d ah2
    | .exc x _ ah2 => .exc x env ah2
    | .bad => .bad) (QV (gX X) Q) := h
  refine ⟨env, ah, η, en, pk, ?_⟩
  revert h'
  cases e1 : iArgs fs env ah with
  | ok ds ah1 =>
    intro h'
    rw [Res.bind_ok] at h'
    intro η1 H1 m1 p1 vs rs
    refine ⟨ds, ah1, η1, by rw [args_len _ _ _ _ _ e1]; exact hl, rs, p1, ?_⟩
    revert h'
    cases F ds ah1 with
    | ok d ah2 => exact fun h' η' H' m' p' => h' η' H' (m1.trans m') p'
    | exc x e2 ah2 => exact fun h' η' H' d S' m' p' q n _ => h' η' H' d S (m1.trans m') p' q (m1.fresh n) (en.mv (m1.trans m'))
    | bad => exact id
  | exc x e ah1 => exact id
  | bad => exact id
end
theorem lookup_in {β : Type} {x : Str} {b : β} : ∀ {ms : List (Str × β)}, ms.lookup x = some b → (x, b) ∈ ms
  | [], h => by cases h
  | (q1, q2) :: qs, h => by
    rw [List.lookup_cons] at h
    split at h
    · rename_i e
      cases h
      rw [eq_of_beq e]
      exact List.mem_cons_self
    · exact List.mem_cons_of_mem _ (lookup_in h)
/-- behind the clause: its name is gone, the error too -/
def tidyR (i R : Nat) : Res (Fl × AE) → Res (Fl × AE)
  | .ok (fl, env) ah => .ok (fl, env.set i none) (ah.set R .gone)
  | _ => .bad
open Classical in
noncomputable def sTryAs (i : Nat) (ms : List (Str × Bool)) (fb : FS) (hd : Addr → Addr → Str → FS) : FS := fun env ah => match fb env ah with
  | .ok r ah1 => .ok r ah1
  | .exc x env1 ah1 => (match ms.lookup x.cls with
    | some true => if h : ∃ r, ∀ a dd, tidyR i ah1.length (hd a dd x.cls (env1.set i (some (.fn a))) (ah1 ++ [.xd a dd x])) = r then h.choose else .bad
    | some false => .exc x env1 ah1
    | none => .bad)
  | .bad => .bad
theorem eTry {i : Nat} {ms : List (Str × Bool)} {fb : FS} {hd : Addr → Addr → Str → FS} {env env1 : AE} {ah ah1 : AH} {x : AX} {r : Res (Fl × AE)} (h1 : fb env ah = .exc x env1 ah1) (h2 : ms.lookup x.cls = some true)
    (h3 : ∀ a dd, tidyR i ah1.length (hd a dd x.cls (env1.set i (some (.fn a))) (ah1 ++ [.xd a dd x])) = r) : sTryAs i ms fb hd env ah = r := by
  unfold sTryAs
  rw [h1]
  simp only [h2]
  have h : ∃ r, ∀ a dd, tidyR i ah1.length (hd a dd x.cls (env1.set i (some (.fn a))) (ah1 ++ [.xd a dd x])) = r := ⟨r, h3⟩
  rw [dif_pos h]
  exact (h.choose_spec 0 0).symm.trans (h3 0 0)
theorem eTryOk {i : Nat} {ms : List (Str × Bool)} {fb : FS} {hd : Addr → Addr → Str → FS} {env : AE} {ah ah1 : AH} {r : Fl × AE} (h1 : fb env ah = .ok r ah1) : sTryAs i ms fb hd env ah = .ok r ah1 := by
  unfold sTryAs
  rw [h1]
section
variable {X : Cx} {W : XW} {C n : Str} {c : Value} {i : Nat} {body suite : List Stmt} {b0 : Stmt} {np pos pos' : Pos} {fb : FS} {hd : Addr → Addr → Str → FS} {ms : List (Str × Bool)}
theorem s_tryAs (hN : X.N.Nodup) (hc : Names X C c) (tk : Takes X W) (hm : ∀ q ∈ ms, PySem.W.exmOne X.K (.ref (He.ga X.K q.1)) c = some q.2)
    (hb : ∀ (W' : WX) (pn : List (Addr × Obj)) (xe : Value → Shared → Prop), Takes (X.tr pn xe) W' → PassesOwn (model X.prog X.w) X.A X.env xe → PSs (X.tr pn xe) body (SS (gX X) W' fb))
    (hsu : ∀ (a dd : Addr) (oe : Obj) (nm : Str) (pn : List (Addr × Obj)), Zc (.ref (He.ga X.K nm)) (some dd) oe → (∃ vs, oe.data = .fields vs) → PSs (X.suite a ((a, oe) :: pn)) (b0 :: suite) (SS (gX X) noW (hd a dd nm)))
    (hs : X.stack = X.env :: X.outer := by rfl) (hf : X.env.frame = some X.env.locals := by rfl) (hi : X.N[i]? = some n := by rfl) (hln : X.env.kindOf n = some .local := by rfl) :
    PS X (.Try body [.ExceptHandler (some (.Name C np)) (some n) (b0 :: suite) pos'] [] [] pos) (SSX X W (sTryAs i ms fb hd)) :=
  PS.imp (ps_try_as (tb := fun W' => SS (gX X) W' fb) (ts := fun a cls d Dn S H => ∃ nm dd, cls = .ref (He.ga X.K nm) ∧ d = some dd ∧ SS (gX X) noW (hd a dd nm) Dn S H) hs hf hN hi hln hc tk hb
    (fun a oe cls d pn hz hf => ⟨fun pnz s S H Dn I ⟨nm, dd, e1, e2, q⟩ => by
      subst e1 e2
      exact (hsu a dd oe nm pn hz hf).run pnz s S H Dn I q⟩)) fun Dn S H ⟨env, ah, η, en, pk, h⟩ => by
    refine ⟨env, ah, η, en, pk, ?_⟩
    unfold sTryAs at h
    revert h
    cases fb env ah with
    | ok r ah1 => exact id
    | bad => exact id
    | exc x env1 ah1 =>
      intro h η' H' d S' m p xo fr en'
      simp only at h
      split at h
      · rename_i hl
        have hmm : (x.cls, true) ∈ ms := lookup_in hl
        split at h
        · rename_i hr
          refine ⟨true, hm _ hmm, fun _ a na => ?_, fun z => Bool.noConfusion z⟩
          obtain ⟨dd, vs, rfl, hη, hdd, e1, e2⟩ := xo
          have f0 : H dd = none := fr dd rfl
          have pf := List.prefix_append η' [dd]
          have M : Mv η H (η' ++ [dd]) H' := ⟨m.pre.trans pf, m.ext, fun b hb => by
            rcases List.mem_append.mp hb with z | z
            · exact m.new b z
            · rw [List.mem_singleton.mp z]; exact .inr f0, m.frm, m.live⟩
          refine ⟨x.cls, dd, rfl, rfl, env1.set i (some (.fn a)), ah1 ++ [.xd a dd x], η' ++ [dd], (en'.ext pf (Ext.refl _)).set i (.fn a), p.add (o := .xd a dd x) hη ⟨rfl, vs, hdd, e1, e2.ext pf (Ext.refl _)⟩, ?_⟩
          have sp := hr.choose_spec a dd
          rw [← sp] at h
          revert h
          cases hd a dd x.cls (env1.set i (some (.fn a))) (ah1 ++ [.xd a dd x]) with
          | bad => exact fun h => h.elim
          | exc x2 e2 a2 => exact fun h => h.elim
          | ok rr a2 =>
            obtain ⟨fl, env2⟩ := rr
            intro h η2 H2 m2 p2
            have hh := h η2 H2 (M.trans m2) (p2.lose _)
            cases fl with
            | nx => exact fun S2 en2 => hh _ (en2.wipe [i])
            | rt v => exact hh
            | bk => exact fun S2 en2 => hh _ (en2.wipe [i])
            | ct => exact fun S2 en2 => hh _ (en2.wipe [i])
        · exact h.elim
      · rename_i hl
        have hmm : (x.cls, false) ∈ ms := lookup_in hl
        exact ⟨false, hm _ hmm, (fun z => Bool.noConfusion z), fun _ => h η' H' d S' m p xo fr en'⟩
      · exact h.elim
end
def lastX : AH → Option (Addr × Addr × AX)
  | [] => none
  | o :: ah => match lastX ah with
    | some z => some z
    | none => match o with
      | .xd a dd x => some (a, dd, x)
      | _ => none
theorem lastX_snoc (ah : AH) (a dd : Addr) (x : AX) : lastX (ah ++ [.xd a dd x]) = some (a, dd, x) := by
  induction ah with
  | nil => rfl
  | cons o ah ih =>
    rw [List.cons_append]
    unfold lastX
    rw [ih]
theorem lastX_at : ∀ {ah : AH} {a dd : Addr} {x : AX}, lastX ah = some (a, dd, x) → ∃ n : Nat, ah[n]? = some (AO.xd a dd x)
  | o :: ah, a, dd, x, h => by
    unfold lastX at h
    split at h
    · rename_i z hz
      cases h
      obtain ⟨n, e⟩ := lastX_at hz
      exact ⟨n + 1, by simpa using e⟩
    · split at h
      · cases h; exact ⟨0, rfl⟩
      · cases h
open Classical in
noncomputable def iXf (a dd : Addr) (nm : Str) (i : Nat) (f C : Str) : FE := fun env ah => match env[i]?, lastX ah with
  | some (some (.fn b)), some (a2, d2, x) => if nm = C ∧ b = a ∧ d2 = dd then (match x.fs.lookup f with
    | some v => .ok v ah
    | none => .bad) else .bad
  | _, _ => .bad
open Classical in
noncomputable def iXi (a dd : Addr) (nm : Str) (i : Nat) (C : Str) (b : Bool) : FE := fun env ah => match env[i]?, lastX ah with
  | some (some (.fn c)), some (a2, d2, _) => if nm = C ∧ c = a ∧ d2 = dd then .ok (.bl b) ah else .bad
  | _, _ => .bad
theorem eXf {a dd : Addr} {C f : Str} {i : Nat} {env : AE} {ah : AH} {x : AX} {v : D} (h1 : env[i]? = some (some (.fn a))) (h2 : lastX ah = some (a, dd, x)) (h3 : x.fs.lookup f = some v) : iXf a dd C i f C env ah = .ok v ah := by
  unfold iXf
  rw [h1, h2]
  simp only [and_self, if_true, h3]
theorem eXi {a dd : Addr} {C : Str} {i : Nat} {b : Bool} {env : AE} {ah : AH} {x : AX} (h1 : env[i]? = some (some (.fn a))) (h2 : lastX ah = some (a, dd, x)) : iXi a dd C i C b env ah = .ok (.bl b) ah := by
  unfold iXi
  rw [h1, h2]
  simp only [and_self, if_true]
theorem lookup_rel {G : KW} {η : List Addr} {H : Hp} {f : Str} {v : D} : ∀ {fs : List (Str × D)} {vs : List (Str × V)}, vs.map (·.1) = fs.map (·.1) → RelAll G η H (fs.map (·.2)) (vs.map (·.2)) → fs.lookup f = some v → ∃ u, vs.lookup f = some u ∧ Rel G η H v u
  | [], _, _, _, h => by cases h
  | (g, d) :: fs, [], e, _, _ => by cases e
  | (g, d) :: fs, (g2, u) :: vs, e, r, h => by
    simp only [List.map_cons, List.cons.injEq] at e
    obtain ⟨e1, e2⟩ := e
    cases r with
    | cons r1 rr =>
      rw [List.lookup_cons] at h ⊢
      rw [e1]
      cases hq : (f == g) with
      | true => rw [hq] at h; cases h; exact ⟨u, rfl, r1⟩
      | false => rw [hq] at h; exact lookup_rel e2 rr h
section
variable {X : Cx} {W : XW} {a dd : Addr} {oe : Obj} {pn : List (Addr × Obj)} {nm C f n : Str} {i : Nat} {p pos : Pos} {fs : List Str}
theorem j_xf (hz : Zc (.ref (He.ga X.K nm)) (some dd) oe) (hf : ∃ vs, oe.data = .fields vs) (T : ClsE X.K (He.ga X.K C) fs) (hm : f ∈ fs) (hN : X.N[i]? = some n := by rfl) (hv : Vis X.env.scope n := by first | exact Or.inl rfl | exact Or.inr (Or.inl rfl) | exact Or.inr (Or.inr rfl))
    (hd : (n == ("__debug__" : Str)) = false := by decide) (hcd : (n == ("__classdict__" : Str)) = false := by decide) (hb : attributeBase (.Name n p) f X.env (eval (.Name n p) X.env) = eval (.Name n p) X.env := by rfl) :
    PE (X.suite a ((a, oe) :: pn)) (.Attribute (.Name n p) f pos) (SX X W (iXf a dd nm i f C)) := by
  by_cases hC : nm = C
  · subst hC
    refine PE.imp (pe_xf T.xf (T.no f hm) hz hf (pe_var (X := X.suite a ((a, oe) :: pn)) hN hv hd hcd) hb) fun S H Q ⟨env, ah, η, en, pk, h⟩ => ?_
    unfold iXf at h
    split at h
    · rename_i b a2 d2 x e1 e2
      split at h
      · rename_i hc
        obtain ⟨-, rfl, rfl⟩ := hc
        split at h
        · rename_i v hv
          obtain ⟨u, s1, s2⟩ := en.ok i _ e1
          cases s2
          obtain ⟨k, hk⟩ := lastX_at e2
          have hn : η[k]? = some (η[k]'(by rw [pk.len]; exact (List.getElem?_eq_some_iff.mp hk).1)) := List.getElem?_eq_getElem _
          obtain ⟨z1, vs, z2, z3, z4⟩ := pk.ok k _ _ hn hk
          rw [z1] at z2
          obtain ⟨u, l1, l2⟩ := lookup_rel z3 z4 hv
          exact ⟨_, s1, rfl, rfl, _, vs, u, rfl, z2, l1, h.at pk u l2⟩
        · exact h.elim
      · exact h.elim
    · exact h.elim
  · refine PE.imp (pe_xf T.xf (T.no f hm) hz hf (pe_var (X := X.suite a ((a, oe) :: pn)) hN hv hd hcd) hb) fun S H Q ⟨env, ah, η, en, pk, h⟩ => ?_
    unfold iXf at h
    split at h
    · rw [if_neg fun z => hC z.1] at h
      exact h.elim
    · exact h.elim
def rIsX (K : PySem.W.Frag) (D a dd : Addr) : List V → Hp → VK → Prop := fun xs H Q => ∃ (c : V) (cv : Value) (b : Bool), xs = [.ref a, c] ∧ (∀ u, RelV c u → u = cv) ∧ PySem.W.kitOne K (.ref D) cv = some b ∧ (∃ vs, H dd = some (.xd vs)) ∧ Q (.bl b) H
theorem call_isX {D : Addr} (T : ClsE X.K D fs) (hz : Zc (.ref D) (some dd) oe) (hf : ∃ vs, oe.data = .fields vs) : CallR (X.suite a ((a, oe) :: pn)) (.builtin "isinstance") (rIsX X.K D a dd) := by
  intro pins s σ H xs us Q I r h
  obtain ⟨c, cv, b, rfl, hcv, e, ⟨fv, hx⟩, q⟩ := h
  cases r with
  | cons rx rr =>
    cases rr with
    | cons rt rr =>
      cases rr
      cases rx
      have ec := hcv _ rt
      subst ec
      have hx : ObjOk X.prog X.w H s.heap dd (.xd fv) := I.hok dd _ hx
      obtain ⟨mA, hns, hr⟩ := hx
      obtain ⟨od, ho, hl⟩ := lookIn_ns hns
      obtain ⟨hget, _⟩ := I.pin (a, oe) (List.mem_append.mpr (.inl List.mem_cons_self))
      obtain ⟨vs, hv⟩ := hf
      have J : PySem.W.InstAt s.heap a oe D (some od) := ⟨hget, hz.1, by unfold PySem.W.notCls; rw [hv] <;> rfl, by rw [hz.2]; exact ho⟩
      exact PySem.W.kia_one (PySem.W.kitx_exc T.cl T.xf.ga T.xf.gg T.xf.exC T.ha T.hn T.ht T.hm) I.kIn J e (fun z => nomatch z) fun tk => ⟨.bl b, H, I.kept (t' := tk) fun _ _ z => z, rfl, q⟩
theorem j_xi {e2 : Expr} {c : V} {cv : Value} {b : Bool} {p0 : Pos} (hz : Zc (.ref (He.ga X.K nm)) (some dd) oe) (hf : ∃ vs, oe.data = .fields vs) (T : ClsE X.K (He.ga X.K C) fs) (hcv : ∀ u, RelV c u → u = cv) (hk : PySem.W.kitOne X.K (.ref (He.ga X.K C)) cv = some b)
    (he2 : PE (X.suite a ((a, oe) :: pn)) e2 (tC c)) (hg : Gl X "isinstance") (hm : X.mg "isinstance" = none) (hN : X.N[i]? = some n := by rfl) (hv : Vis X.env.scope n := by first | exact Or.inl rfl | exact Or.inr (Or.inl rfl) | exact Or.inr (Or.inr rfl))
    (hd : (n == ("__debug__" : Str)) = false := by decide) (hcd : (n == ("__classdict__" : Str)) = false := by decide) (hs : starEach [.Name n p, e2] X.env = (false, eval (.Name n p) X.env) :: starEach [e2] X.env := by rfl) (hs2 : starEach [e2] X.env = (false, eval e2 X.env) :: starEach [] X.env := by rfl)
    (hpl : (backTo pos (starEach [e2] X.env)).any (·.1) = false := by rfl) :
    PE (X.suite a ((a, oe) :: pn)) (.Call (.Name "isinstance" p0) [.Name n p, e2] [] pos) (SX X W (iXi a dd nm i C b)) := by
  by_cases hC : nm = C
  · subst hC
    refine PE.imp (pe_callB (X := X.suite a ((a, oe) :: pn)) (call_isX T hz hf) hg hm boot_isinstance (pa_cons (pe_var (X := X.suite a ((a, oe) :: pn)) hN hv hd hcd) (pa_cons he2 pa_nil hs2) hs) (by decide) (by decide) hs hpl) fun S H Q ⟨env, ah, η, en, pk, h⟩ => ?_
    unfold iXi at h
    split at h
    · rename_i b a2 d2 x e1 e2
      split at h
      · rename_i hc
        obtain ⟨-, rfl, rfl⟩ := hc
        obtain ⟨u, s1, s2⟩ := en.ok i _ e1
        cases s2
        obtain ⟨k, hk2⟩ := lastX_at e2
        have hn : η[k]? = some (η[k]'(by rw [pk.len]; exact (List.getElem?_eq_some_iff.mp hk2).1)) := List.getElem?_eq_getElem _
        obtain ⟨z1, vs, z2, z3, z4⟩ := pk.ok k _ _ hn hk2
        rw [z1] at z2
        exact ⟨_, s1, c, cv, _, rfl, hcv, hk, ⟨vs, z2⟩, h.at pk _ (.bl _)⟩
      · exact h.elim
    · exact h.elim
  · refine ⟨fun pins s σ H Q I ⟨env, ah, η, en, pk, h⟩ => ?_⟩
    unfold iXi at h
    split at h
    · rw [if_neg fun z => hC z.1] at h
      exact h.elim
    · exact h.elim
end
section
variable {env env1 : AE} {ah a1 a2 a3 : AH} {f : FE} {fs : List FE} {ds : List D} {d : D} {s s2 : FS} {x : AX} {F : List D → AH → Res D} {e2 : AE}
theorem eSeqX (h : s env ah = .exc x env1 a1) : sSeq s s2 env ah = .exc x env1 a1 := by unfold sSeq; rw [h]; rfl
theorem eRetX (h : f env ah = .exc x env1 a1) : sRet f env ah = .exc x env1 a1 := by unfold sRet; rw [h]; rfl
theorem eDropX (h : f env ah = .exc x env1 a1) : sDrop f env ah = .exc x env1 a1 := by unfold sDrop; rw [h]; rfl
theorem eAsgX {g : D → AE → Option AE} (h : f env ah = .exc x env1 a1) : sAsg g f env ah = .exc x env1 a1 := by unfold sAsg; rw [h]; rfl
theorem eRaise {C : Str} {fl : List Str} (h : iArgs fs env ah = .ok ds a1) (hl : ds.length = fl.length) : sRaise C fl fs env ah = .exc ⟨C, (fl.zip ds).reverse⟩ env a1 := by unfold sRaise; rw [h, Res.bind_ok, if_pos hl]
theorem eBodyX {n : Nat} {args : List D} (h : s (args.map some ++ List.replicate (n - args.length) none) ah = .exc x env1 a1) : iBody n s args ah = .exc x env1 a1 := by unfold iBody; rw [h]
theorem eDefXo (h1 : iArgs fs env ah = .ok ds a1) (h2 : F ds a1 = .ok d a2) : iDefX F fs env ah = .ok d a2 := by unfold iDefX; rw [h1, Res.bind_ok, h2]
theorem eDefXx (h1 : iArgs fs env ah = .ok ds a1) (h2 : F ds a1 = .exc x e2 a2) : iDefX F fs env ah = .exc x env a2 := by unfold iDefX; rw [h1, Res.bind_ok, h2]
end
section
variable {X : Cx} {W : XW} {a dd : Addr} {oe : Obj} {pn : List (Addr × Obj)} {nm C n c2 : Str} {i : Nat} {p pos p0 p2 : Pos} {fs : List Str} {D2 : Addr} {T2 : String} {b : Bool}
theorem j_xiC (hz : Zc (.ref (He.ga X.K nm)) (some dd) oe) (hf : ∃ vs, oe.data = .fields vs) (T : ClsE X.K (He.ga X.K C) fs) (hk : PySem.W.kitOne X.K (.ref (He.ga X.K C)) (.ref D2) = some b) (hg2 : Gl X c2) (hm2 : X.mg c2 = some (.ref D2))
    (hg : Gl X "isinstance") (hm : X.mg "isinstance" = none) (hN : X.N[i]? = some n := by rfl) (hv : Vis X.env.scope n := by first | exact Or.inl rfl | exact Or.inr (Or.inl rfl) | exact Or.inr (Or.inr rfl))
    (hd : (n == ("__debug__" : Str)) = false := by decide) (hcd : (n == ("__classdict__" : Str)) = false := by decide) (hs : starEach [.Name n p, .Name c2 p2] X.env = (false, eval (.Name n p) X.env) :: starEach [.Name c2 p2] X.env := by rfl) (hs2 : starEach [.Name c2 p2] X.env = (false, eval (.Name c2 p2) X.env) :: starEach [] X.env := by rfl)
    (hpl : (backTo pos (starEach [.Name c2 p2] X.env)).any (·.1) = false := by rfl) (hd2 : (c2 == ("__debug__" : Str)) = false := by decide) :
    PE (X.suite a ((a, oe) :: pn)) (.Call (.Name "isinstance" p0) [.Name n p, .Name c2 p2] [] pos) (SX X W (iXi a dd nm i C b)) :=
  j_xi (c := .ref D2) (cv := .ref D2) hz hf T (fun _ r => r) hk (pe_glob (X := X.suite a ((a, oe) :: pn)) hg2 hm2 rfl hd2) hg hm hN hv hd hcd hs hs2 hpl
theorem j_xiB (hz : Zc (.ref (He.ga X.K nm)) (some dd) oe) (hf : ∃ vs, oe.data = .fields vs) (T : ClsE X.K (He.ga X.K C) fs) (hk : PySem.W.kitOne X.K (.ref (He.ga X.K C)) (.type T2) = some b) (hg2 : Gl X c2) (hm2 : X.mg c2 = none) (hv2 : bootBuiltins c2 = some (.type T2))
    (hg : Gl X "isinstance") (hm : X.mg "isinstance" = none) (hN : X.N[i]? = some n := by rfl) (hv : Vis X.env.scope n := by first | exact Or.inl rfl | exact Or.inr (Or.inl rfl) | exact Or.inr (Or.inr rfl))
    (hd : (n == ("__debug__" : Str)) = false := by decide) (hcd : (n == ("__classdict__" : Str)) = false := by decide) (hs : starEach [.Name n p, .Name c2 p2] X.env = (false, eval (.Name n p) X.env) :: starEach [.Name c2 p2] X.env := by rfl) (hs2 : starEach [.Name c2 p2] X.env = (false, eval (.Name c2 p2) X.env) :: starEach [] X.env := by rfl)
    (hpl : (backTo pos (starEach [.Name c2 p2] X.env)).any (·.1) = false := by rfl) (hd2 : (c2 == ("__debug__" : Str)) = false := by decide) (hnn : c2 ≠ "__name__" := by decide) :
    PE (X.suite a ((a, oe) :: pn)) (.Call (.Name "isinstance" p0) [.Name n p, .Name c2 p2] [] pos) (SX X W (iXi a dd nm i C b)) :=
  j_xi (c := .ty T2) (cv := .type T2) hz hf T (fun _ r => r) hk (pe_bltn (X := X.suite a ((a, oe) :: pn)) hg2 hm2 hv2 rfl hnn hd2) hg hm hN hv hd hcd hs hs2 hpl
end
theorem ms_nil {K : PySem.W.Frag} {c : Value} : ∀ q ∈ ([] : List (Str × Bool)), PySem.W.exmOne K (.ref (He.ga K q.1)) c = some q.2 := fun q h => absurd h List.not_mem_nil
theorem ms_cons {K : PySem.W.Frag} {c : Value} {nm : Str} {b : Bool} {ms : List (Str × Bool)} (h : PySem.W.exmOne K (.ref (He.ga K nm)) c = some b) (k : ∀ q ∈ ms, PySem.W.exmOne K (.ref (He.ga K q.1)) c = some q.2) : ∀ q ∈ (nm, b) :: ms, PySem.W.exmOne K (.ref (He.ga K q.1)) c = some q.2 := fun q hq => by
  rcases List.mem_cons.mp hq with rfl | z
  · exact h
  · exact k q z
def bodyOf : Stmt → List Stmt
  | .ClassDef (body := b) .. => b
  | _ => []
def mkI (C : Str) (st : Stmt) : He.DefD := ⟨(C, some "__init__"), "__init__", C ++ ".__init__", defArgs st, defBody st, defScope st, [], []⟩
theorem init_at {fa : List He.Fa} {fn : List He.DefD} {ts : List He.Tab} {tf : List He.Defn} {ex : PySem.W.Frag → Bool} {w : World} {K : PySem.W.Frag} {h : Heap} (c : He.SaysX fa fn ts tf ex w h K) {C : Str} {st : Stmt} (i : Nat) (e1 : fn[i]? = some (mkI C st)) : ∃ fd, Fun K "__init__" (C ++ ".__init__") st (He.ma K (He.ga K C) "__init__") fd := by
  obtain ⟨fd, ⟨oc, od, dV, kV, doc, pm, an, cd, ct, sl, e, lk, co, hd, -⟩, kp⟩ := c.t.d.def_ i e1
  have z : dV = .none := by
    rcases hd with ⟨-, q⟩ | ⟨q, -⟩
    · exact q
    · exact absurd rfl q
  subst z
  exact ⟨fd, ⟨⟨oc, od, kV, doc, pm, an, cd, ct, sl, e, lk, co⟩, kp⟩⟩
end DL
namespace TRX
open PySem PySem.Spec PyProof.Rows L2 HotX L2H
/-- the names' object is changed while an exception is in the air -/
theorem held_but {B h h' : Heap} {l : List Env} {a L : Addr} {Z : Obj → Prop} (hh : HandSPX.HeldZ B l a Z L h) (nB : B.get? L = none) (nf : ∃ o, h.get? L = some o ∧ ∀ vs, o.data ≠ .fields vs) (nf' : ∃ o, h'.get? L = some o ∧ ∀ vs, o.data ≠ .fields vs) (sb : ∀ b, b ≠ L → h'.get? b = h.get? b) : HandSPX.HeldZ B l a Z L h' := by
  obtain ⟨k1, k2, k3, oe, vs, T, oT, ts, he, hz, hd, h1, hnT, hTe, hT, hdT, h3⟩ := hh
  obtain ⟨oL, eL, dL⟩ := nf
  have aL : a ≠ L := fun z => by rw [z, eL] at he; cases he; exact dL _ hd
  have tL : T ≠ L := fun z => by rw [z, eL] at hT; cases hT; exact dL _ hdT
  refine ⟨fun b o e => ?_, k2, ?_, oe, vs, T, oT, ts, (sb a aL).trans he, hz, hd, h1, hnT, hTe, (sb T tL).trans hT, hdT, h3⟩
  · have : b ≠ L := fun z => by rw [z, nB] at e; cases e
    exact (sb b this).trans (k1 b o e)
  · clear he hT h1 h3 hd hdT hz
    induction l with
    | nil => trivial
    | cons env rest ih =>
      obtain ⟨q1, ⟨M, o, q2, q3, q4, q5⟩, q6⟩ := k3
      refine ⟨q1, ?_, ih q6⟩
      by_cases c : M = L
      · subst c
        obtain ⟨o', e', d'⟩ := nf'
        exact ⟨M, o', q2, q3, e', d'⟩
      · exact ⟨M, o, q2, q3, (sb M c).trans q4, q5⟩
/-- the state behind the unbinding of a name -/
theorem gone_inv {X : Cx} {pins : List (Addr × Obj)} {σ : L2.St} {H : Hp} {s : Shared} {i : Nat} {n : Str} {m : Str → Option Value} {h' : Heap} {t' : Nat} {v : Option Value} (I : Inv X pins σ H s) (hN : X.N.Nodup) (hi : X.N[i]? = some n)
    (hn : s.heap.Ns X.env.locals m) (hlk : ∀ (i : Nat) (x : Str) (v : V), X.N[i]? = some x → σ[i]? = some (some v) → Vis X.env.scope x → ∃ u, RelV v u ∧ Look X.env s.heap m x u)
    (hn' : h'.Ns X.env.locals (fun x => if x = n then v else m x)) (hs : Heap.SameBut X.env.locals s.heap h') : Inv X pins (σ.set i none) H { s with heap := h', toks := t' } := by
  have neL : ∀ b o, X.s_0.heap.get? b = some o → b ≠ X.env.locals := fun b o e => Nat.ne_of_lt (Nat.lt_of_lt_of_le (Heap.lt_size e) I.ok.above)
  refine ⟨I.ok, I.os, I.bare, ⟨fun b o e n hb hx => ?_, fun b o e n hb hx => ?_, I.base.free, fun b o e hx => ?_, I.base.tups, I.base.frzs, I.base.tbls⟩, ⟨_, hn', fun j y v' e1 e2 e3 => ?_⟩, fun y c e => ?_, I.free, I.freeC, fun p hp => ?_, fun b ob e => ?_, by simpa using I.len⟩
  · exact (hs.2 b (neL b o e)).trans (I.base.keep b o e n hb hx)
  · obtain ⟨sl, e1⟩ := I.base.slot b o e n hb hx
    exact ⟨sl, (hs.2 b (neL b o e)).trans e1⟩
  · obtain ⟨o', e1⟩ := I.base.there b o e hx
    exact ⟨o', (hs.2 b (neL b o e)).trans e1⟩
  · by_cases hj : j = i
    · subst hj
      by_cases hlt : j < σ.length
      · rw [List.getElem?_set_self hlt] at e2; cases e2
      · rw [List.getElem?_eq_none (by simpa using hlt)] at e2; cases e2
    · rw [List.getElem?_set_ne (Ne.symm hj)] at e2
      obtain ⟨u', r', q⟩ := hlk j y v' e1 e2 e3
      refine ⟨u', r', ?_⟩
      rcases q with ⟨k, e⟩ | ⟨k, c, e, z⟩
      · have ny : y ≠ n := fun e => hj (nodup_ix hN e1 (e ▸ hi))
        exact .inl ⟨k, (if_neg ny).trans e⟩
      · exact .inr ⟨k, c, e, z.sameBut hs (I.cne y c e)⟩
  · obtain ⟨w', z⟩ := I.cell y c e
    exact ⟨w', z.sameBut hs (I.cne y c e)⟩
  · obtain ⟨e, n, ne, nf, d⟩ := I.pin p hp
    exact ⟨(hs.2 p.1 ne).trans e, n, ne, nf, d⟩
  · refine (I.hok b ob e).stay (fun c w' hc q => (hs.2 c ?_).trans q) (fun _ q => q) fun _ _ q => q
    intro z
    subst z
    rcases hc with hc | hc
    · rw [← hc, I.free] at e; cases e
    · rw [I.free] at hc; cases hc
theorem ns_nf {h : Heap} {L : Addr} {m : Str → Option Value} (x : h.Ns L m) : ∃ o, h.get? L = some o ∧ ∀ vs, o.data ≠ .fields vs := by
  obtain ⟨o, es, ep, e, d, _⟩ := x
  exact ⟨o, e, fun vs z => by rw [d] at z; cases z⟩
/-- the air behind the unbinding of a clause's name -/
theorem xe_gone {X : Cx} {W : WX} {i : Nat} {n : Str} {a : Addr} {B h2 h3 : Heap} {sI : Shared} {pins : List (Addr × Obj)} {σ : L2.St} {H : Hp} {cls : Value} {d : Option Addr} (hN : X.N.Nodup) (hi : X.N[i]? = some n) (hs : X.stack = X.env :: X.outer) (hf : X.env.frame = some X.env.locals)
    (I : Inv X pins σ H sI) (nb : ∀ b o, sI.heap.get? b = some o → b ∉ frs X.stack → B.get? b = some o) (up : sI.heap.UpToSlots h2) (na : H a = none)
    {m : Str → Option Value} {v : Option Value} (hn2 : h2.Ns X.env.locals m) (hn3 : h3.Ns X.env.locals (fun x => if x = n then v else m x)) (sb : Heap.SameBut X.env.locals h2 h3) (w : W cls d (σ.set i none) H)
    {s' : Shared} {h4 : Heap} (eo : s'.os = sI.os) (ag : AllBare s'.gens) (hh4 : HandSPX.HeldZ B (X.env :: X.outer) a (Zc cls d) X.env.locals h4) (up4 : h3.UpToSlots h4) (e4 : s'.heap = h4) : L2.XE X W (.ref a) s' := by
  obtain ⟨m1, hn1, hlk1⟩ := id I.loc
  obtain ⟨o3, es3, ep3, e3, d3, r3⟩ := id hn3
  obtain ⟨o1, es1, ep1, e1, d1, r1⟩ := id hn1
  have hfree : o3.isFreed = false := by
    obtain ⟨c, dd, dt, sl⟩ := o3
    have d3 : dt = .dict es3 ep3 := d3
    subst d3
    rfl
  have g1 : (sI.heap.update X.env.locals fun _ => o3).get? X.env.locals = some o3 := Heap.get?_update_self (fun _ => o3) e1 hfree
  have sb1 : Heap.SameBut X.env.locals sI.heap (sI.heap.update X.env.locals fun _ => o3) := Heap.SameBut.update ..
  have hm : m1 = m := funext fun x => Heap.Ns.agree (up.ns hn1) hn2 x
  subst hm
  have hL : X.env.locals ∈ frs X.stack := by rw [hs]; exact List.mem_filterMap.mpr ⟨X.env, List.mem_cons_self, by rw [hf]⟩
  have I' : Inv X pins (σ.set i none) H { sI with heap := sI.heap.update X.env.locals fun _ => o3, toks := sI.toks } := gone_inv I hN hi hn1 hlk1 ⟨o3, es3, ep3, g1, d3, r3⟩ sb1
  refine ⟨a, B, { sI with heap := sI.heap.update X.env.locals fun _ => o3, toks := sI.toks }, pins, σ.set i none, H, cls, d, rfl, I', fun b o e nf => ?_, fun b o e nf => ?_, .inr (.inr (by rw [hs, e4]; exact hh4)), na, eo, ag, w⟩
  · have nb1 : b ≠ X.env.locals := fun z => nf (z ▸ hL)
    exact nb b o ((sb1.2 b nb1).symm.trans e) nf
  · rw [e4]
    by_cases c : b = X.env.locals
    · subst c
      have e : (sI.heap.update X.env.locals fun _ => o3).get? X.env.locals = some o := e
      rw [g1] at e
      cases e
      exact up4 _ _ e3 nf
    · obtain ⟨sl, q⟩ := up b o ((sb1.2 b c).symm.trans e) nf
      obtain ⟨sl2, q2⟩ := up4 b { o with slots := sl } ((sb.2 b c).trans q) nf
      exact ⟨sl2, q2⟩
/-- the context of an except suite that may raise, with its own wish -/
abbrev suE (X : Cx) (a : Addr) (pn : List (Addr × Obj)) (xe : Value → Shared → Prop) : Cx := { X with A := X.A.mark (some (.ref a)), calm := false, pn := pn, xe := xe }
section
variable {X : Cx} {pins : List (Addr × Obj)} {σ : L2.St} {H : Hp} {s : Shared} {xe : Value → Shared → Prop}
theorem suE_of {a : Addr} {pn pn' : List (Addr × Obj)} (I : Inv (X.suite a pn) pn' σ H s) : Inv (suE X a pn xe) pn' σ H s := Inv.unwish (X := suE X a pn xe) (E := fun _ _ => False) I
theorem suE_to {a : Addr} {pn pn' : List (Addr × Obj)} (I : Inv (suE X a pn xe) pn' σ H s) : Inv (X.suite a pn) pn' σ H s := show Inv (X.suite a pn) pn' σ H s from I.wish fun _ _ => False
end
section
variable {X : Cx} {x n : Str} {c : Value} {i : Nat} {body suite : List Stmt} {b₀ : Stmt} {np pos pos' : Pos} {tb : WX → TS} {ts : Addr → Value → Option Addr → TS} {Wout : WX}
theorem ps_try_asX (hs : X.stack = X.env :: X.outer) (hf : X.env.frame = some X.env.locals) (hN : X.N.Nodup) (hi : X.N[i]? = some n) (hln : X.env.kindOf n = some .local) (hc : Names X x c) (hpa : ∀ hd : Option Value, PassesOwnAt (model X.prog X.w) (X.A.mark hd) X.A X.env X.xe) (tk : L2.Takes X Wout)
    (hb : ∀ (W : WX) (pn : List (Addr × Obj)) (xe : Value → Shared → Prop), L2N.Takes (X.tr pn xe) W → PassesOwn (model X.prog X.w) X.A X.env xe → PSs (X.tr pn xe) body (tb W))
    (hsu : ∀ (a : Addr) (oe : Obj) (cls : Value) (d : Option Addr) (pn : List (Addr × Obj)) (xe : Value → Shared → Prop), L2N.Zn cls d oe → (∃ vs, oe.data = .fields vs) → L2.Takes (suE X a ((a, oe) :: pn) xe) (fun cls d σ H => Wout cls d (σ.set i none) H) → HotC (suE X a ((a, oe) :: pn) xe) →
      PSs (suE X a ((a, oe) :: pn) xe) (b₀ :: suite) (ts a cls d)) :
    PS X (.Try body [.ExceptHandler (some (.Name x np)) (some n) (b₀ :: suite) pos'] [] [] pos) (fun D σ H => tb (wAs X.K c i ts Wout D) D σ H) := by
  refine ⟨fun pins s σ H D I h => ?_⟩
  have ok := I.ok
  have hfr : X.A.frames = some (X.env :: X.outer) := by rw [ok.frames, hs]
  have hloc : Loc X.env.scope n := .inl hln
  refine wpAny_Try_except ?_
  refine wpAny_mono ((hb (wAs X.K c i ts Wout D) (X.pn ++ pins) (fun e s₁ => wpAny (model X.prog X.w) X.A (noteFrame e X.env) (fun _ s₂ => wpAny (model X.prog X.w) X.A (setFlight e none) (fun _ s₃ =>
    wpAny (model X.prog X.w) X.A (handleBy e X.env [.ExceptHandler (some (.Name x np)) (some n) (b₀ :: suite) pos']) (SP X pins D) X.xe s₃) X.xe s₂) X.xe s₁) (fun u s' xx => ?_) PassesOwn.looking).run [] s σ H D (I.toTry _) h) (fun f s1 hsp => ?_) (fun e s1 he => he)
  · -- the catch
    obtain ⟨a, B, sI, pins', σ', H', cls, d, rfl, J', nb, up, sky, na, os, ag, b, hb1, hyes, hno⟩ := xx
    have J : Inv X pins σ' H' sI := J'.ofTry ok
    have sky' : Sky B (X.env :: X.outer) a (L2N.Zn cls d) X.env.locals s'.heap := by rw [← hs]; exact sky
    show wpAny (model X.prog X.w) X.A (noteFrame (.ref a) X.env) _ _ _
    refine L2N.Sky.land L2N.Zn.steady hfr hf sky' fun h3 fl3 up3 => ?_
    have J3 : Inv X pins σ' H' { s' with heap := h3 } := J.landed nb fl3.1 (up.trans up3) os ag
    obtain ⟨oe3, vs3, he3, hz3, hd3⟩ := fl3.there
    have notFr : ∀ {h : Heap} {o : Obj} {vs : Array Value}, h.FunFrames B (X.env :: X.outer) → h.get? a = some o → o.data = .fields vs → a ∉ frs (X.env :: X.outer) := fun {h o vs} ff e dd hm => by
      obtain ⟨_, o', e', hnf⟩ := ff.mem hm
      rw [e] at e'; cases e'
      exact hnf _ dd
    have nfr := notFr fl3.2.2.1 he3 hd3
    have nL : a ≠ X.env.locals := fun z => nfr (List.mem_filterMap.mpr ⟨X.env, List.mem_cons_self, by rw [hf, z]⟩)
    have nF : a ∉ X.fs := fun hm => by
      obtain ⟨e, he, q⟩ := List.mem_filterMap.mp hm
      exact nfr (List.mem_filterMap.mpr ⟨e, List.mem_cons_of_mem _ he, q⟩)
    have S3 := J3.suite he3 hd3 na nL nF
    refine wpAny_handleBy_cons (codeAny_handlers_test ?_) (by intro q; cases q)
    have LT : PySem.W.Looks (model X.prog X.w) h3 (typeOf (.ref a)) cls := fun A Q E s k q => wpAny_typeOf_ref (k _ _ he3) (by rw [hz3.1]; exact q)
    have LM := PySem.W.exm_one (M := model X.prog X.w) (J3.kIn) LT hb1
    have test : ∀ {Q : Value → Shared → Prop} {E : Value → Shared → Prop}, Q c { s' with heap := h3 } → wpAny (model X.prog X.w) (X.A.mark (some (.ref a))) (eval (.Name x np) X.env) Q E { s' with heap := h3 } := fun {Q E} q => by
      obtain ⟨hg, hdbg, hm | ⟨hm, hv, hnn⟩⟩ := hc
      · exact ld_glob (X := X.suite a ((a, oe3) :: (X.pn ++ pins))) S3 hg hm q hdbg
      · exact ld_blt (X := X.suite a ((a, oe3) :: (X.pn ++ pins))) S3 hg hm hv q hnn hdbg
    refine test (LM.here ?_)
    cases b with
    | true =>
      refine codeAny_handlers_suite_as ?_
      refine HandSPX.lands_againZ fl3 fun h4 fl4 up4 => ?_
      have J4 : Inv X pins σ' H' { s' with heap := h4 } := J.landed nb fl4.1 ((up.trans up3).trans up4) os ag
      obtain ⟨oe4, vs4, he4, hz4, hd4⟩ := fl4.there
      have S4 := J4.suite he4 hd4 na nL nF
      refine store_ok (X := X.suite a ((a, oe4) :: (X.pn ++ pins))) (v := .ref a) S4 hN hi hloc rfl (fun s5 S5 => ?_) (.inr hln)
      let xe : Value → Shared → Prop := L2.XE (X.suite a ((a, oe4) :: (X.pn ++ pins))) (fun cls d σ H => Wout cls d (σ.set i none) H)
      have tkS : L2.Takes (suE X a ((a, oe4) :: (X.pn ++ pins)) xe) (fun cls d σ H => Wout cls d (σ.set i none) H) := fun u2 s2 x2 => by
        obtain ⟨a2, B2, sI2, pn2, σ2, H2, cls2, d2, e2, I2, nb2, up2, sky2, na2, os2, ag2, w2⟩ := x2
        exact ⟨a2, B2, sI2, pn2, σ2, H2, cls2, d2, e2, suE_to I2, nb2, up2, sky2, na2, os2, ag2, w2⟩
      have hot : HotC (suE X a ((a, oe4) :: (X.pn ++ pins)) xe) := ⟨(a, oe4), ⟨rfl, vs4, hd4, hz4.2.2 vs4 hd4⟩, List.mem_cons_self⟩
      refine wpAny_mono ((hsu a oe4 cls d (X.pn ++ pins) xe hz4 ⟨_, hd4⟩ tkS hot).run [] s5 _ H' _ (suE_of S5) (hyes rfl a na)) (fun f s6 hsp => ?_) (fun u6 s6 z => ?_)
      · have end_ : ∀ {σ6 : L2.St} {H6 : Hp} {Q : Shared → Prop}, Inv (suE X a ((a, oe4) :: (X.pn ++ pins)) xe) [] σ6 H6 s6 → (∀ s7, Inv X pins (σ6.set i none) H6 s7 → Q s7) →
            wpAny (model X.prog X.w) X.A (do bindName X.env n .none; unbindBehindTheSuite X.env n pos') (fun _ s7 => Q s7) X.xe s6 := fun {σ6 H6 Q} S6 hq => gone_ok ((suE_to S6).unsuite ok) hN hi hln hq
        cases f with
        | next =>
          obtain ⟨σ6, H6, S6, q6⟩ := hsp
          exact end_ S6 fun s7 J7 => ⟨_, _, J7, q6⟩
        | brk =>
          obtain ⟨σ6, H6, S6, q6⟩ := hsp
          exact end_ S6 fun s7 J7 => ⟨_, _, J7, q6⟩
        | cont =>
          obtain ⟨σ6, H6, S6, q6⟩ := hsp
          exact end_ S6 fun s7 J7 => ⟨_, _, J7, q6⟩
        | ret u =>
          obtain ⟨v6, σ6, H6, S6, r6, q6⟩ := hsp
          exact end_ S6 fun s7 J7 => ⟨_, _, _, J7, r6, q6⟩
      · -- the suite raised
        obtain ⟨a2, B2, sI2, pn2, σ2, H2, cls2, d2, rfl, I2, nb2, up2, sky2, na2, os2, ag2, w2⟩ := z
        have J2 : Inv X pins σ2 H2 sI2 := Inv.unsuite (X := X) (a := a) (q := (a, oe4)) (pn' := pn2) I2 ok
        have sky3 : Sky B2 (X.env :: X.outer) a2 (Zc cls2 d2) X.env.locals s6.heap := by rw [← hs]; exact sky2
        have hfrM : (X.A.mark (some (.ref a))).frames = some (X.env :: X.outer) := hfr
        have step : ∀ h1, HandSPX.HeldZ B2 (X.env :: X.outer) a2 (Zc cls2 d2) X.env.locals h1 → s6.heap.UpToSlots h1 →
            wpAny (model X.prog X.w) (X.A.mark (some (.ref a))) (do bindName X.env n .none; unbindBehindTheSuite X.env n pos')
              (fun _ s₄ => wpAny (model X.prog X.w) (X.A.mark (some (.ref a))) (passOn "try.except-as" (.ref a2) X.env : Sem Flow) (fun _ _ => False) (notedBy (model X.prog X.w) (X.A.mark (some (.ref a))) X.env (cameBackBy (model X.prog X.w) X.A X.env X.xe)) s₄)
              (fun y s₄ => wpAny (model X.prog X.w) (X.A.mark (some (.ref a))) (setFlight (.ref a2) none) (fun _ s₅ => (notedBy (model X.prog X.w) (X.A.mark (some (.ref a))) X.env (cameBackBy (model X.prog X.w) X.A X.env X.xe)) y s₅) (notedBy (model X.prog X.w) (X.A.mark (some (.ref a))) X.env (cameBackBy (model X.prog X.w) X.A X.env X.xe)) s₄) { s6 with heap := h1 } := fun h1 hh1 up1 => by
          have K3 : Inv X pins σ2 H2 { s6 with heap := h1 } := J2.landed nb2 hh1.1 (up2.trans up1) os2 ag2
          obtain ⟨m, hn, hlk⟩ := id K3.loc
          have hcls : (X.env.scope.kind == .class || (X.env.scope.kind == .module && X.env.locals != X.env.globals)) = false := by rw [ok.kind]; rfl
          refine wpAny_nameGoes_keeps hln hn hcls fun h7 v hn7 hs7 => ?_
          have nB : B2.get? X.env.locals = none := by
            obtain ⟨_, ⟨L', o', q1, q2, _⟩, _⟩ := hh1.2.2.1
            rw [hf] at q1
            cases q1
            exact q2
          have hh7 := held_but hh1 nB (ns_nf hn) (ns_nf hn7) hs7.2
          obtain ⟨k1, k2, k3, oe, vs, T, oT, ts', he, hz, hd, hv1, hr⟩ := id hh7
          unfold PySem.passOn
          refine wpAny_bind (wpAny_field he hd hv1 ?_)
          rw [if_neg (show ¬ ((Value.ref T == Value.none) = true) from by simp)]
          have fin : wpAny (model X.prog X.w) (X.A.mark (some (.ref a))) (setFlight (.ref a2) X.env.frame) (fun _ s4 => wpAny (model X.prog X.w) (X.A.mark (some (.ref a))) (throw (.ref a2) : Sem Flow) (fun _ _ => False) (notedBy (model X.prog X.w) (X.A.mark (some (.ref a))) X.env (cameBackBy (model X.prog X.w) X.A X.env X.xe)) s4) (notedBy (model X.prog X.w) (X.A.mark (some (.ref a))) X.env (cameBackBy (model X.prog X.w) X.A X.env X.xe)) { s6 with heap := h7, toks := s6.toks + 1 } := by
            rw [hf]
            refine HandSPX.setFlight_anyZ hh7.1 hh7.2.2.1 hh7.2.2.2 fun h8 q1 q2 q3 q4 => wpAny_throw (hpa (some (.ref a)) _ _ (tk _ _ ?_))
            exact xe_gone hN hi hs hf J2 nb2 (up2.trans up1) na2 hn hn7 hs7 w2 (s' := { s6 with heap := h8, toks := s6.toks + 1 }) os2 ag2 (show HandSPX.HeldZ B2 (X.env :: X.outer) a2 (Zc cls2 d2) X.env.locals h8 from ⟨q1, hh7.2.1, q2, q3⟩) q4 rfl
          first
            | exact wpAny_bind (wpAny_pure (wpAny_bind fin))
            | exact wpAny_bind fin
        rcases sky3 with ⟨hB, hn, hl, oe, vs, he, hz, hd, h1⟩ | fl | hh
        · exact HandSPX.look_newZ Zc.steady hfrM hl hf he hB hn hd h1 hz fun h1 => step h1
        · exact HandSPX.looks_onZ Zc.steady hfrM hf fl fun h1 => step h1
        · exact HandSPX.againZ hf hh.2.2.2 (step s6.heap hh (Heap.UpToSlots.refl _))
    | false =>
      show wpAny _ X.A (handleBy (.ref a) X.env []) _ _ _
      have fl3 := flyingZ_imp (fun o (z : L2N.Zn cls d o) => z.zc) fl3
      refine wpAny_handleBy_nil ?_
      obtain ⟨k1, k2, k3, oe, vs, T, oT, ts', he, hz, hd, h1, hr⟩ := id fl3
      unfold PySem.passOn
      refine wpAny_bind (wpAny_field he hd h1 ?_)
      rw [if_neg (show ¬ ((Value.ref T == Value.none) = true) from by simp)]
      have fin : wpAny (model X.prog X.w) X.A (setFlight (.ref a) X.env.frame) (fun _ s4 => wpAny (model X.prog X.w) X.A (throw (.ref a) : Sem Flow) (SP X pins D) X.xe s4) X.xe { s' with heap := h3 } := by
        rw [hf]
        refine HandSPX.setFlight_upZ fl3 fun h4 hh4 up4 => wpAny_throw (tk _ _ ?_)
        exact ⟨a, B, sI, pins, σ', H', cls, d, rfl, J, nb, (up.trans up3).trans up4, .inr (.inr (by rw [hs]; exact hh4)), na, os, ag, hno rfl⟩
      first
        | exact wpAny_bind (wpAny_pure (wpAny_bind fin))
        | exact wpAny_bind fin
  · cases f with
    | next =>
      obtain ⟨σ', H', J', q⟩ := hsp
      exact wpAny_execs_nil ⟨σ', H', J'.ofTry ok, q⟩
    | brk =>
      obtain ⟨σ', H', J', q⟩ := hsp
      exact ⟨σ', H', J'.ofTry ok, q⟩
    | cont =>
      obtain ⟨σ', H', J', q⟩ := hsp
      exact ⟨σ', H', J'.ofTry ok, q⟩
    | ret u =>
      obtain ⟨v, σ', H', J', r, q⟩ := hsp
      exact ⟨v, σ', H', J'.ofTry ok, r, q⟩
end
/-- a def's FnH by its body -/
theorem okH {P : Program} {w : World} {K : PySem.W.Frag} {mg : Str → Option Value} {base : Heap} {x qual : Str} {st : Stmt} {f : Addr} {fd : FuncData} {N ps : List Str} {k : Nat} {sp : Sp} (F : Fun K x qual st f fd) (S : FnScope N ps (defScope st)) (len : ∀ vs H Q E, sp vs H Q E → vs.length = ps.length)
    (hbody : ∀ (cdv : Value) (A : Around) (outer : List Env) (s : Shared) (H : Hp) (vs : List V) (Q : VK) (E : XK) (p : Addr × Obj), sp vs H Q E →
      ∃ t, PSs (cxH CX0 P w K mg base N qual (defScope st) f cdv A outer s H E p) (defBody st) t ∧ t { nx := fun _ H' => Q .non H', rt := Q } (L2.start N vs) H) : FnH P w K mg base CX0 (k + 1) f fd ps sp := by
  obtain ⟨oc, od, kV, doc, pm, an, cdv, ct, osl, rfl, lk, hcd⟩ := F.ex
  exact fn_ofH lk hcd S len fun A outer s H vs Q E p _ _ hsp => hbody cdv A outer s H vs Q E p hsp
end TRX
namespace DL
open PySem PySem.Spec PyProof.Rows L2
section
variable {X : Cx} {a b : Expr} {pos : Pos}
/-- C(e, ..) where nothing is handled: no context -/
theorem pmkN_oex {CX : CXT} {x : Str} {e : Expr} {es : List Expr} {ta : TA} {p : Pos} {C fI : Addr} {k : Nat} {fd : FuncData} {ps : List Str} {sp : Sp} (T : OexC X.K C) (iC : PySem.W.findIn X.K (.ref C) "__init__" = some (some (.ref fI))) (tI : PySem.W.typeIn X.K (.ref fI) = some (.type "function"))
    (F1 : FnOk X.prog X.w X.K X.mg X.base CX k fI fd ps sp) (hr : Room (k + 1) X.A) (hb : Binds X.K fd ps []) (hx : Passes CX X (fun _ _ _ => False)) (hg : Gl X x) (hm : X.mg x = some (.ref C)) (ha : PA X (e :: es) ta)
    (hdb : (x == ("__debug__" : Str)) = false := by decide) (he : starEach (e :: es) X.env = (false, eval e X.env) :: starEach es X.env := by rfl) (hpl : (backTo pos (starEach es X.env)).any (·.1) = false := by rfl) :
    L2N.PMk X (.Call (.Name x p) (e :: es) [] pos) (tMkO C sp [] ta) := by
  intro pins s σ H Q I h
  obtain ⟨nm, q, N, bs, bm, sn, sub, ab, col, dd, k0, k1, k2, k3, k5, hC, hbm⟩ := T.cls
  refine wpAny_Call_Name_kw (ld_glob I hg hm ?_ hdb)
  refine PySem.W.callWith_K (h₀ := X.base) I.ok.mod.kin T.kC (thn (ha.run pos pins s σ H _ I h) fun us s1 ⟨vs, H1, I1, r1, hz, q1⟩ => ⟨I1.kIn, ?_⟩) he hpl
  show wpAny _ _ (call (.ref C) us) _ _ _
  obtain ⟨hp, g, dr, tk, os⟩ := s1
  have hsz : hp.objs.size ≤ hp.objs.size + 1 := Nat.le_succ _
  have hn : H1 (hp.objs.size + 1) = none := I1.hok.fresh hsz
  have hq := q1 (hp.objs.size + 1) hn
  rw [List.append_nil] at hq
  have kk : ∀ b o, hp.get? b = some o → ((hp.push (PySem.W.kdv_tup us)).push (PySem.HandSPX.excO C hp.objs.size)).get? b = some o := fun b o e => Heap.get?_push_of_some _ (Heap.get?_push_of_some _ e)
  have hget : ((hp.push (PySem.W.kdv_tup us)).push (PySem.HandSPX.excO C hp.objs.size)).get? (hp.objs.size + 1) = some (PySem.HandSPX.excO C hp.objs.size) := by heap_get
  have I2 : Inv X pins σ (upd H1 (hp.objs.size + 1) (exo (hp.objs.size + 1) C none)) ⟨(hp.push (PySem.W.kdv_tup us)).push (PySem.HandSPX.excO C hp.objs.size), g, dr, tk, os⟩ :=
    I1.laid (t' := tk) (a := hp.objs.size + 1) (o := exo (hp.objs.size + 1) C none) (h' := (hp.push (PySem.W.kdv_tup us)).push (PySem.HandSPX.excO C hp.objs.size)) kk hsz (exo_ok hget)
  have r2 : Vals (V.ref (hp.objs.size + 1) :: vs) (Value.ref (hp.objs.size + 1) :: us) := .cons rfl r1
  have hl : (Value.ref (hp.objs.size + 1) :: us ++ []).length = ps.length := by
    have e := r2.length
    rw [F1.len _ _ _ _ hq] at e
    rw [List.append_nil]
    exact e.symm
  have hus : us.length ≤ sizeLine := by
    rw [← Paired.length r1, sizeLine_eq]
    omega
  have b2 := hb _ (Value.ref (hp.objs.size + 1) :: us) I2.kIn hl
  rw [List.append_nil] at b2
  refine wpAny_call (PySem.HandSPX.call_own F.excBase_ValueError (fun Y => PySem.HandSPX.refsVE_contains Y bm hbm) (I1.kIn _ _ hC) (PySem.W.looks_findIn I1.kIn iC) (fun self => PySem.W.bind_fn I1.kIn self tI) hus
    (codeAny_mono (F1.run _ X.stack _ _ ⟨Value.ref (hp.objs.size + 1) :: us, []⟩ (Value.ref (hp.objs.size + 1) :: us) _ _ (fun _ _ _ => False) (hr.make C us []) (I2.env0.make C us []) b2 r2 hq) fun r s' hq' => ?_))
  cases r with
  | error er => exact hx pins σ _ _ er s' I2 hq'
  | ok fl =>
    cases fl with
    | ret u =>
      obtain ⟨v, H2, os2, bare2, un2, hok2, rv, ev, d, fs, ea, ed, hd1, q2⟩ := hq'
      subst ev
      obtain ⟨h2, g2, d2, t2, os'⟩ := s'
      obtain ⟨t0, G, J, kG, ge, hoe, na⟩ := mk_end0 (d2 := d2) (t2 := t2) I1 hsz kk un2 hok2 os2 bare2 ea ed hd1
      refine ⟨rv, hp.objs.size + 1, _, _, ⟨G, g2, d2, t2, os'⟩, _, .ref C, some d, rfl, J, kG, ge, hoe, ⟨rfl, rfl, fun vs hv => ?_⟩, rfl, rfl, na, rfl, bare2, raises_own T.exC T.tyC, q2⟩
      cases hv
      rfl
    | next => exact False.elim hq'
    | brk => exact False.elim hq'
    | cont => exact False.elim hq'
end
section
variable {X : Cx} {W : XW}
theorem s_raise1N {x f : Str} {e : Expr} {p pos pos2 : Pos} {fI : Addr} {k : Nat} {fd : FuncData} {ps : List Str} {fe : FE} (T : OexC X.K (He.ga X.K x)) (iC : PySem.W.findIn X.K (.ref (He.ga X.K x)) "__init__" = some (some (.ref fI))) (tI : PySem.W.typeIn X.K (.ref fI) = some (.type "function"))
    (F1 : FnOk X.prog X.w X.K X.mg X.base CX0 k fI fd ps (spI1 (He.ga X.K x) f)) (hr : Room (k + 1) X.A) (hb : Binds X.K fd ps []) (hg : Gl X x) (hm : X.mg x = some (.ref (He.ga X.K x))) (hc : X.calm = true) (tk : L2N.Takes X W) (he : PE X e (SX X W fe))
    (hdb : (x == ("__debug__" : Str)) = false := by decide) (hs : starEach [e] X.env = (false, eval e X.env) :: starEach [] X.env := by rfl) (hpl : (backTo pos (starEach [] X.env)).any (·.1) = false := by rfl) :
    PS X (.Raise (some (.Call (.Name x p) [e] [] pos)) none pos2) (SSX X W (sRaise x [f] [fe])) :=
  PS.imp (L2N.ps_raise hc tk (pmkN_oex T iC tI F1 hr hb pass0 hg hm (a_cons he a_nil hs) hdb hs hpl)) fun Dn S H ⟨env, ah, η, en, pk, h⟩ => by
    refine ⟨env, ah, η, en, pk, h.bind.imp0 fun ds η1 H1 ah1 m1 p1 q1 => fun vs rs => ?_⟩
    split at q1
    · rename_i hl
      match ds, hl with
      | [d], _ =>
        cases rs with
        | cons r rr =>
          cases rr
          rename_i v
          refine ⟨by show 1 ≤ 1000; omega, fun a ha => ?_⟩
          refine ⟨a, v, rfl, upd_same, fun dx n ne => ?_⟩
          have n1 : H1 dx = none := by rw [upd_ne ne] at n; exact n
          refine ⟨rfl, dx, [(f, v)], upd_same, by rw [upd_ne ne, upd_same], n1, ?_⟩
          rw [del_updX ha]
          exact exc_made q1 p1 (en.mv m1) n1 rfl (.cons r .nil)
    · exact q1.elim
theorem s_raise2N {x f g : Str} {e e2 : Expr} {p pos pos2 : Pos} {fI : Addr} {k : Nat} {fd : FuncData} {ps : List Str} {fe fe2 : FE} (T : OexC X.K (He.ga X.K x)) (iC : PySem.W.findIn X.K (.ref (He.ga X.K x)) "__init__" = some (some (.ref fI))) (tI : PySem.W.typeIn X.K (.ref fI) = some (.type "function"))
    (F1 : FnOk X.prog X.w X.K X.mg X.base CX0 k fI fd ps (spI2 (He.ga X.K x) f g)) (hr : Room (k + 1) X.A) (hb : Binds X.K fd ps []) (hg : Gl X x) (hm : X.mg x = some (.ref (He.ga X.K x))) (hc : X.calm = true) (tk : L2N.Takes X W) (he : PE X e (SX X W fe)) (he2 : PE X e2 (SX X W fe2))
    (hdb : (x == ("__debug__" : Str)) = false := by decide) (hs : starEach [e, e2] X.env = (false, eval e X.env) :: starEach [e2] X.env := by rfl) (hs2 : starEach [e2] X.env = (false, eval e2 X.env) :: starEach [] X.env := by rfl) (hpl : (backTo pos (starEach [e2] X.env)).any (·.1) = false := by rfl) :
    PS X (.Raise (some (.Call (.Name x p) [e, e2] [] pos)) none pos2) (SSX X W (sRaise x [f, g] [fe, fe2])) :=
  PS.imp (L2N.ps_raise hc tk (pmkN_oex T iC tI F1 hr hb pass0 hg hm (a_cons he (a_cons he2 a_nil hs2) hs) hdb hs hpl)) fun Dn S H ⟨env, ah, η, en, pk, h⟩ => by
    refine ⟨env, ah, η, en, pk, h.bind.imp0 fun ds η1 H1 ah1 m1 p1 q1 => fun vs rs => ?_⟩
    split at q1
    · rename_i hl
      match ds, hl with
      | [d, d2], _ =>
        cases rs with
        | cons r rr =>
          cases rr with
          | cons r2 rr =>
            cases rr
            rename_i v v2
            refine ⟨by show 2 ≤ 1000; omega, fun a ha => ?_⟩
            refine ⟨a, v, v2, rfl, upd_same, fun dx n ne => ?_⟩
            have n1 : H1 dx = none := by rw [upd_ne ne] at n; exact n
            refine ⟨rfl, dx, [(g, v2), (f, v)], by rw [upd_ne (Ne.symm ne), upd_same], upd_same, n1, ?_⟩
            rw [del_updY ha]
            exact exc_made q1 p1 (en.mv m1) n1 rfl (.cons r2 (.cons r .nil))
    · exact q1.elim
theorem s_raise1H {x f : Str} {e : Expr} {j : Nat} {p pos pos2 cpos : Pos} {fI : Addr} {k : Nat} {fd : FuncData} {ps : List Str} {fe : FE} (T : OexC X.K (He.ga X.K x)) (iC : PySem.W.findIn X.K (.ref (He.ga X.K x)) "__init__" = some (some (.ref fI))) (tI : PySem.W.typeIn X.K (.ref fI) = some (.type "function"))
    (F1 : L2H.FnH X.prog X.w X.K X.mg X.base CX0 k fI fd ps (spI1 (He.ga X.K x) f)) (hr : L2H.RoomH (k + 1) X.A) (hb : Binds X.K fd ps []) (hg : Gl X x) (hm : X.mg x = some (.ref (He.ga X.K x))) (hc : L2H.HotC X) (tk : Takes X W) (he : PE X e (SX X W fe))
    (hdb : (x == ("__debug__" : Str)) = false := by decide) (hs : starEach [e] X.env = (false, eval e X.env) :: starEach [] X.env := by rfl) (hpl : (backTo pos (starEach [] X.env)).any (·.1) = false := by rfl) :
    PS X (.Raise (some (.Call (.Name x p) [e] [] pos)) (some (.Constant .none j cpos)) pos2) (SSX X W (sRaise x [f] [fe])) :=
  PS.imp (L2H.ps_raiseHN (j := j) (cpos := cpos) hc tk (L2H.pmk5_oexH T iC tI F1 hr hc hb pass0 hg hm (a_cons he a_nil hs) hdb hs hpl)) fun Dn S H ⟨env, ah, η, en, pk, h⟩ => by
    refine ⟨env, ah, η, en, pk, h.bind.imp0 fun ds η1 H1 ah1 m1 p1 q1 => fun vs rs => ?_⟩
    split at q1
    · rename_i hl
      match ds, hl with
      | [d], _ =>
        cases rs with
        | cons r rr =>
          cases rr
          rename_i v
          refine ⟨by show 1 ≤ 1000; omega, fun a ha => ?_⟩
          refine ⟨a, v, rfl, upd_same, fun dx n ne => ?_⟩
          have n1 : H1 dx = none := by rw [upd_ne ne] at n; exact n
          refine ⟨rfl, dx, [(f, v)], upd_same, by rw [upd_ne ne, upd_same], n1, ?_⟩
          rw [del_updX ha]
          exact exc_made q1 p1 (en.mv m1) n1 rfl (.cons r .nil)
    · exact q1.elim
theorem s_raise2H {x f g : Str} {e e2 : Expr} {j : Nat} {p pos pos2 cpos : Pos} {fI : Addr} {k : Nat} {fd : FuncData} {ps : List Str} {fe fe2 : FE} (T : OexC X.K (He.ga X.K x)) (iC : PySem.W.findIn X.K (.ref (He.ga X.K x)) "__init__" = some (some (.ref fI))) (tI : PySem.W.typeIn X.K (.ref fI) = some (.type "function"))
    (F1 : L2H.FnH X.prog X.w X.K X.mg X.base CX0 k fI fd ps (spI2 (He.ga X.K x) f g)) (hr : L2H.RoomH (k + 1) X.A) (hb : Binds X.K fd ps []) (hg : Gl X x) (hm : X.mg x = some (.ref (He.ga X.K x))) (hc : L2H.HotC X) (tk : Takes X W) (he : PE X e (SX X W fe)) (he2 : PE X e2 (SX X W fe2))
    (hdb : (x == ("__debug__" : Str)) = false := by decide) (hs : starEach [e, e2] X.env = (false, eval e X.env) :: starEach [e2] X.env := by rfl) (hs2 : starEach [e2] X.env = (false, eval e2 X.env) :: starEach [] X.env := by rfl) (hpl : (backTo pos (starEach [e2] X.env)).any (·.1) = false := by rfl) :
    PS X (.Raise (some (.Call (.Name x p) [e, e2] [] pos)) (some (.Constant .none j cpos)) pos2) (SSX X W (sRaise x [f, g] [fe, fe2])) :=
  PS.imp (L2H.ps_raiseHN (j := j) (cpos := cpos) hc tk (L2H.pmk5_oexH T iC tI F1 hr hc hb pass0 hg hm (a_cons he (a_cons he2 a_nil hs2) hs) hdb hs hpl)) fun Dn S H ⟨env, ah, η, en, pk, h⟩ => by
    refine ⟨env, ah, η, en, pk, h.bind.imp0 fun ds η1 H1 ah1 m1 p1 q1 => fun vs rs => ?_⟩
    split at q1
    · rename_i hl
      match ds, hl with
      | [d, d2], _ =>
        cases rs with
        | cons r rr =>
          cases rr with
          | cons r2 rr =>
            cases rr
            rename_i v v2
            refine ⟨by show 2 ≤ 1000; omega, fun a ha => ?_⟩
            refine ⟨a, v, v2, rfl, upd_same, fun dx n ne => ?_⟩
            have n1 : H1 dx = none := by rw [upd_ne ne] at n; exact n
            refine ⟨rfl, dx, [(g, v2), (f, v)], by rw [upd_ne (Ne.symm ne), upd_same], upd_same, n1, ?_⟩
            rw [del_updY ha]
            exact exc_made q1 p1 (en.mv m1) n1 rfl (.cons r2 (.cons r .nil))
    · exact q1.elim
end
section
variable {P : Program} {w : World} {K : PySem.W.Frag} {mg : Str → Option Value} {base : Heap}
theorem fn_okN {x qual : Str} {st : Stmt} {f : Addr} {fd : FuncData} {N ps : List Str} {k : Nat} {fb : FS} (F : Fun K x qual st f fd) (Sc : FnScope N ps (defScope st))
    (hb : ∀ (cdv : Value) (A : Around) (outer : List Env) (s : Shared) (H : Hp) (E : XK), Room k (A.deeper (envOfC qual (defScope st) s.heap.objs.size f cdv)) → NoRepr (A.deeper (envOfC qual (defScope st) s.heap.objs.size f cdv)) →
      L2N.Takes (cxOf (L2N.CX P w) P w K mg base N qual (defScope st) f cdv A outer s H E) (fun cls d _ H' => E cls d H') → PSs (cxOf (L2N.CX P w) P w K mg base N qual (defScope st) f cdv A outer s H E) (defBody st) (SS ⟨K, w⟩ (fun cls d _ H' => E cls d H') fb)) :
    FnG P w K mg base (L2N.CX P w) (k + 1) f fd ps (spX ⟨K, w⟩ ps.length (iBody N.length fb)) := by
  refine fnG_of F Sc (fun vs H Q E h => spX_len vs H Q E h) fun cdv A outer s H vs Q E hr hn h => ?_
  obtain ⟨args, ah, η, hl, r, p, q⟩ := h
  refine ⟨_, hb cdv A outer s H E hr (hn.deeper _) (L2N.takes_of rfl rfl rfl rfl), args.map some ++ List.replicate (N.length - args.length) none, ah, η, env_start r ?_, p, ?_⟩
  · have := congrArg List.length Sc.pre
    rw [List.length_take] at this
    omega
  · unfold iBody at q
    revert q
    generalize fb _ ah = res
    intro q
    cases res with
    | ok rr ah1 =>
      obtain ⟨fl, env1⟩ := rr
      cases fl with
      | nx => exact fun η' H' m p S' en => q η' H' m p _ .non
      | rt d => exact fun η' H' m p v rvv => q η' H' m p v rvv
      | bk => exact q.elim
      | ct => exact q.elim
    | exc x e ah1 => exact q
    | bad => exact q
def Ok1N (P : Program) (w : World) (K : PySem.W.Frag) (mg : Str → Option Value) (base : Heap) (x : Str) (k : Nat) (ps : List Str) (F : List D → AH → Res D) : Prop :=
  ∃ f fd, mg x = some (.ref f) ∧ PySem.W.keepIn K (.ref f) = true ∧ Binds K fd ps [] ∧ FnG P w K mg base (L2N.CX P w) k f fd ps (spX ⟨K, w⟩ ps.length F)
theorem Ok1N.x {x : Str} {k : Nat} {ps : List Str} {F : List D → AH → Res D} (h : Ok1N P w K mg base x k ps F) : Ok1X P w K mg base x k ps F := by
  obtain ⟨f, fd, h1, h2, h3, h4⟩ := h
  refine ⟨f, fd, h1, h2, h3, ⟨h4.len, fun A out s H as us xs Q E hr hn e0 b r hsp => ?_⟩⟩
  refine codeAny_mono (h4.go A out s H as us xs Q E hr hn e0 b r hsp) fun rs s' hq => ?_
  match rs, hq with
  | .error e, hq =>
    obtain ⟨a, B, H', cls, d, ea, fl, z⟩ := hq
    exact ⟨a, B, H', cls, d, ea, L2H.flyingZ_imp (fun o (q : L2N.Zn cls d o) => q.zc) fl, z⟩
  | .ok (.ret u), hq => exact hq
  | .ok .next, hq => exact hq
  | .ok .brk, hq => exact hq
  | .ok .cont, hq => exact hq
end
section
variable {X : Cx} {W : XW}
theorem pe_callGN {x : Str} {p pos : Pos} {t : TA} {k : Nat} {f : Addr} {fd : FuncData} {ps : List Str} {sp : Sp} {e : Expr} {es : List Expr} (F : FnG X.prog X.w X.K X.mg X.base (L2N.CX X.prog X.w) k f fd ps sp) (hr : Room k X.A) (hn : NoRepr X.A) (hg : Gl X x) (hm : X.mg x = some (.ref f)) (hk : PySem.W.keepIn X.K (.ref f) = true)
    (hb : Binds X.K fd ps []) (tk : L2N.Takes X W) (ha : PA X (e :: es) t) (hdb : (x == ("__debug__" : Str)) = false := by decide)
    (he : starEach (e :: es) X.env = (false, eval e X.env) :: starEach es X.env := by rfl) (hpl : (backTo pos (starEach es X.env)).any (·.1) = false := by rfl) :
    PE X (.Call (.Name x p) (e :: es) [] pos) (fun σ H Q => t σ H fun vs H1 => sp vs H1 Q (WE W σ)) := ⟨fun pnz s σ H Q I h =>
  wpAny_Call_Name_kw (ld_glob I hg hm (PySem.W.callWith_K (h₀ := X.base) I.ok.mod.kin hk (thn (ha.run pos pnz s σ H _ I h) fun us s1 ⟨xs, H1, I1, r, q⟩ => ⟨I1.kIn, run_fnGX F hr hn hb (L2N.passAt tk σ) I1 r q⟩) he hpl) hdb)⟩
theorem Ok1N.jd {x : Str} {k : Nat} {ps : List Str} {F : List D → AH → Res D} {p pos : Pos} {e : Expr} {es : List Expr} {fs : List FE} (h : Ok1N X.prog X.w X.K X.mg X.base x k ps F) (hr : Room k X.A) (hn : NoRepr X.A) (tk : L2N.Takes X W) (hg : Gl X x) (hl : fs.length = ps.length) (ha : PA X (e :: es) (AX' X W fs))
    (hdb : (x == ("__debug__" : Str)) = false := by decide) (he : starEach (e :: es) X.env = (false, eval e X.env) :: starEach es X.env := by rfl) (hpl : (backTo pos (starEach es X.env)).any (·.1) = false := by rfl) : PE X (.Call (.Name x p) (e :: es) [] pos) (SX X W (iDefX F fs)) := by
  obtain ⟨f, fd, hm, hk, hb, hf⟩ := h
  refine PE.imp (pe_callGN hf hr hn hg hm hk hb tk ha hdb he hpl) fun S H Q ⟨env, ah, η, en, pk, h⟩ => ?_
  have h' : Post (gX X) W η H ((iArgs fs env ah).bind fun ds ah1 => match F ds ah1 with
    | .ok d ah2 => .ok d ah2
    | .exc x _ ah2 => .exc x env ah2
    | .bad => .bad) (QV (gX X) Q) := h
  refine ⟨env, ah, η, en, pk, ?_⟩
  revert h'
  cases e1 : iArgs fs env ah with
  | ok ds ah1 =>
    intro h'
    rw [Res.bind_ok] at h'
    intro η1 H1 m1 p1 vs rs
    refine ⟨ds, ah1, η1, by rw [args_len _ _ _ _ _ e1]; exact hl, rs, p1, ?_⟩
    revert h'
    cases F ds ah1 with
    | ok d ah2 => exact fun h' η' H' m' p' => h' η' H' (m1.trans m') p'
    | exc x e2 ah2 => exact fun h' η' H' d S' m' p' q n _ => h' η' H' d S (m1.trans m') p' q (m1.fresh n) (en.mv (m1.trans m'))
    | bad => exact id
  | exc x e ah1 => exact id
  | bad => exact id
end
def tidyX (i R : Nat) : Res (Fl × AE) → Res (Fl × AE)
  | .ok (fl, env) ah => .ok (fl, env.set i none) (ah.set R .gone)
  | .exc x env ah => .exc x (env.set i none) (ah.set R .gone)
  | .bad => .bad
open Classical in
noncomputable def sTryAsX (i : Nat) (ms : List (Str × Bool)) (fb : FS) (hd : Addr → Addr → Str → FS) : FS := fun env ah => match fb env ah with
  | .ok r ah1 => .ok r ah1
  | .exc x env1 ah1 => (match ms.lookup x.cls with
    | some true => if h : ∃ r, ∀ a dd, tidyX i ah1.length (hd a dd x.cls (env1.set i (some (.fn a))) (ah1 ++ [.xd a dd x])) = r then h.choose else .bad
    | some false => .exc x env1 ah1
    | none => .bad)
  | .bad => .bad
theorem eTryX {i : Nat} {ms : List (Str × Bool)} {fb : FS} {hd : Addr → Addr → Str → FS} {env env1 : AE} {ah ah1 : AH} {x : AX} {r : Res (Fl × AE)} (h1 : fb env ah = .exc x env1 ah1) (h2 : ms.lookup x.cls = some true)
    (h3 : ∀ a dd, tidyX i ah1.length (hd a dd x.cls (env1.set i (some (.fn a))) (ah1 ++ [.xd a dd x])) = r) : sTryAsX i ms fb hd env ah = r := by
  unfold sTryAsX
  rw [h1]
  simp only [h2]
  have h : ∃ r, ∀ a dd, tidyX i ah1.length (hd a dd x.cls (env1.set i (some (.fn a))) (ah1 ++ [.xd a dd x])) = r := ⟨r, h3⟩
  rw [dif_pos h]
  exact (h.choose_spec 0 0).symm.trans (h3 0 0)
theorem eTryOkX {i : Nat} {ms : List (Str × Bool)} {fb : FS} {hd : Addr → Addr → Str → FS} {env : AE} {ah ah1 : AH} {r : Fl × AE} (h1 : fb env ah = .ok r ah1) : sTryAsX i ms fb hd env ah = .ok r ah1 := by
  unfold sTryAsX
  rw [h1]
section
variable {X : Cx} {W : XW} {C n : Str} {c : Value} {i : Nat} {body suite : List Stmt} {b0 : Stmt} {np pos pos' : Pos} {fb : FS} {hd : Addr → Addr → Str → FS} {ms : List (Str × Bool)}
theorem s_tryAsX (hN : X.N.Nodup) (hc : Names X C c) (hpa : ∀ hd : Option Value, PassesOwnAt (model X.prog X.w) (X.A.mark hd) X.A X.env X.xe) (tk : Takes X W) (hm : ∀ q ∈ ms, PySem.W.exmOne X.K (.ref (He.ga X.K q.1)) c = some q.2)
    (hb : ∀ (W' : WX) (pn : List (Addr × Obj)) (xe : Value → Shared → Prop), L2N.Takes (X.tr pn xe) W' → PassesOwn (model X.prog X.w) X.A X.env xe → PSs (X.tr pn xe) body (SS (gX X) W' fb))
    (hsu : ∀ (a dd : Addr) (oe : Obj) (nm : Str) (pn : List (Addr × Obj)) (xe : Value → Shared → Prop), Zc (.ref (He.ga X.K nm)) (some dd) oe → (∃ vs, oe.data = .fields vs) → Takes (TRX.suE X a ((a, oe) :: pn) xe) (fun cls d σ H => W cls d (σ.set i none) H) → L2H.HotC (TRX.suE X a ((a, oe) :: pn) xe) → PSs (TRX.suE X a ((a, oe) :: pn) xe) (b0 :: suite) (SS (gX X) (fun cls d σ H => W cls d (σ.set i none) H) (hd a dd nm)))
    (hs : X.stack = X.env :: X.outer := by rfl) (hf : X.env.frame = some X.env.locals := by rfl) (hi : X.N[i]? = some n := by rfl) (hln : X.env.kindOf n = some .local := by rfl) :
    PS X (.Try body [.ExceptHandler (some (.Name C np)) (some n) (b0 :: suite) pos'] [] [] pos) (SSX X W (sTryAsX i ms fb hd)) :=
  PS.imp (TRX.ps_try_asX (tb := fun W' => SS (gX X) W' fb) (ts := fun a cls d Dn S H => ∃ nm dd, cls = .ref (He.ga X.K nm) ∧ d = some dd ∧ SS (gX X) (fun cls d σ H => W cls d (σ.set i none) H) (hd a dd nm) Dn S H) hs hf hN hi hln hc hpa tk hb
    (fun a oe cls d pn xe hz hf tkS hot => ⟨fun pnz s S H Dn I ⟨nm, dd, e1, e2, q⟩ => by
      subst e1 e2
      exact (hsu a dd oe nm pn xe hz.zc hf tkS hot).run pnz s S H Dn I q⟩)) fun Dn S H ⟨env, ah, η, en, pk, h⟩ => by
    refine ⟨env, ah, η, en, pk, ?_⟩
    unfold sTryAsX at h
    revert h
    cases fb env ah with
    | ok r ah1 => exact id
    | bad => exact id
    | exc x env1 ah1 =>
      intro h η' H' d S' m p xo fr en'
      simp only at h
      split at h
      · rename_i hl
        have hmm : (x.cls, true) ∈ ms := lookup_in hl
        split at h
        · rename_i hr
          refine ⟨true, hm _ hmm, fun _ a na => ?_, fun z => Bool.noConfusion z⟩
          obtain ⟨dd, vs, rfl, hη, hdd, e1, e2⟩ := xo
          have f0 : H dd = none := fr dd rfl
          have pf := List.prefix_append η' [dd]
          have M : Mv η H (η' ++ [dd]) H' := ⟨m.pre.trans pf, m.ext, fun b hb => by
            rcases List.mem_append.mp hb with z | z
            · exact m.new b z
            · rw [List.mem_singleton.mp z]; exact .inr f0, m.frm, m.live⟩
          refine ⟨x.cls, dd, rfl, rfl, env1.set i (some (.fn a)), ah1 ++ [.xd a dd x], η' ++ [dd], (en'.ext pf (Ext.refl _)).set i (.fn a), p.add (o := .xd a dd x) hη ⟨rfl, vs, hdd, e1, e2.ext pf (Ext.refl _)⟩, ?_⟩
          have sp := hr.choose_spec a dd
          rw [← sp] at h
          revert h
          cases hd a dd x.cls (env1.set i (some (.fn a))) (ah1 ++ [.xd a dd x]) with
          | bad => exact fun h => h.elim
          | exc x2 e2 a2 =>
            intro h η2 H2 d2 S2 m2 p2 xo2 fr2 en2
            exact h η2 H2 d2 (S2.set i none) (M.trans m2) (p2.lose _) xo2 (M.fresh fr2) (en2.wipe [i])
          | ok rr a2 =>
            obtain ⟨fl, env2⟩ := rr
            intro h η2 H2 m2 p2
            have hh := h η2 H2 (M.trans m2) (p2.lose _)
            cases fl with
            | nx => exact fun S2 en2 => hh _ (en2.wipe [i])
            | rt v => exact hh
            | bk => exact fun S2 en2 => hh _ (en2.wipe [i])
            | ct => exact fun S2 en2 => hh _ (en2.wipe [i])
        · exact h.elim
      · rename_i hl
        have hmm : (x.cls, false) ∈ ms := lookup_in hl
        exact ⟨false, hm _ hmm, (fun z => Bool.noConfusion z), fun _ => h η' H' d S' m p xo fr en'⟩
      · exact h.elim
end
end DL
namespace DL
open PySem PySem.Spec PyProof.Rows L2
section
variable {X : Cx} {W : XW} {o e : Expr} {fo f : FE} {apos pos : Pos} {G : KW}
def mRemP : Str → D → AH → Res D := fun a y ah => match y with
  | .str b => if a.length ≤ 1048576 then .ok (.str (Txt.removeprefix a b)) ah else .bad
  | _ => .bad
theorem ok_mRemP : MtOk G W (fun x xs H Q => ∃ a b, x = .str a ∧ xs = [.str b] ∧ a.length ≤ sizeLine ∧ Q (.str (Txt.removeprefix a b)) H) mRemP := by
  intro η H ah a d v Q p r q
  unfold mRemP at q
  split at q
  · split at q
    · cases r
      exact ⟨a, _, rfl, rfl, small (by assumption), post_val p (.str _) q⟩
    · exact q.elim
  · exact q.elim
def iRemP := iM1 mRemP
theorem j_remP (ho : PE X o (SX X W fo)) (he : PE X e (SX X W f)) (hs : starEach [e] X.env = [(false, eval e X.env)] := by rfl) (hbase : attributeBase o "removeprefix" X.env (eval o X.env) = eval o X.env := by rfl) (hline : (apos.endLine == pos.line) = true := by rfl) :
    PE X (.Call (.Attribute o "removeprefix" apos) [e] [] pos) (SX X W (iRemP fo f)) := j_m1 PySem.F.slot_str_removeprefix PySem.F.type_str_removeprefix mt_removeprefix ok_mRemP ho he hs hbase hline
end
end DL
namespace DL
open PySem PySem.Spec PyProof.Rows L2
structure Cod (α : Type) [DecidableEq α] where
  e : α → D
  p : α → PyData
  val : α → Prop
  k : Nat
  n : Nat
  py : ∀ x, toPy (e x) = some (p x)
  shw : ∀ x, val x → Shw k n (p x)
  eqv : ∀ x y, PyData.eqv (p x) (p y) = decide (x = y)
  eqd : k ≤ 40 → ∀ x y, val x → val y → eqD (e x) (e y) = some (decide (x = y))
namespace Cod
section
variable {α β γ : Type} [DecidableEq α] [DecidableEq β] [DecidableEq γ] {ah : AH}
theorem rpr (C : Cod α) {x : α} (h : C.val x) (hk : C.k ≤ 40 := by decide) (hn : C.n ≤ 1048576 := by decide) : rprOk (C.p x) = true := (C.shw x h).rpr hk hn
theorem eq (C : Cod α) {x y : α} (h : C.val x) (h2 : C.val y) (hk : C.k ≤ 40 := by decide) : oEq (C.e x) (C.e y) ah = .ok (.bl (decide (x = y))) ah := by
  unfold oEq
  rw [C.eqd hk x y h h2]
theorem ne (C : Cod α) {x y : α} (h : C.val x) (h2 : C.val y) (hk : C.k ≤ 40 := by decide) : oNe (C.e x) (C.e y) ah = .ok (.bl (!decide (x = y))) ah := by
  unfold oNe
  rw [C.eqd hk x y h h2]
theorem eqd_of {C : Cod α} {x y : α} (h : scalD (C.e x) (C.e y) = none) (hk : C.k ≤ 40) (h1 : C.val x) (h2 : C.val y) : eqD (C.e x) (C.e y) = some (decide (x = y)) := by
  unfold eqD
  have s1 := (C.shw x h1).shaped hk
  have s2 := (C.shw y h2).shaped hk
  simp only [h, C.py, s1, s2, and_self, if_true, C.eqv]
def nat : Cod Nat where
  e := dI
  p x := .int (x : Int)
  val x := x < 1000000000000
  k := 0
  n := 0
  py _ := rfl
  shw x h := shw_int (by omega)
  eqv x y := eqv_natI x y
  eqd _ x y _ _ := by
    show some (decide ((x : Int) = (y : Int))) = _
    congr 1
    rw [decide_eq_decide]
    omega
def int : Cod Int where
  e := D.int
  p x := .int x
  val x := x.natAbs < 1000000000000
  k := 0
  n := 0
  py _ := rfl
  shw x h := shw_int h
  eqv x y := eqv_intI x y
  eqd _ x y _ _ := rfl
theorem shwB (b : Bool) : Shw 0 0 (.bool b) := by cases b <;> exact ⟨rfl, by decide +kernel, by decide +kernel, rfl, by decide +kernel, by decide +kernel⟩
def bool : Cod Bool where
  e := D.bl
  p x := .bool x
  val _ := True
  k := 0
  n := 0
  py _ := rfl
  shw x _ := shwB x
  eqv x y := by cases x <;> cases y <;> decide +kernel
  eqd _ x y _ _ := rfl
theorem eqv_pair {a b c d : PyData} : PyData.eqv (.tuple [a, b]) (.tuple [c, d]) = (PyData.eqv a c && PyData.eqv b d) := by
  simp only [PyData.eqv, PyData.eqvAll, Bool.and_true]
/-- a tuple of alike things, at most m -/
def tup (m : Nat) (C : Cod α) : Cod (List α) where
  e xs := .tup (xs.map C.e)
  p xs := .tuple (xs.map C.p)
  val xs := xs.length ≤ m ∧ ∀ x ∈ xs, C.val x
  k := C.k + 1
  n := m * (C.n + 1)
  py xs := by
    unfold toPy
    simp only [py_map C.py xs]
  shw xs h := by
    have := shw_tup (k := C.k) (n := C.n) (xs := xs.map C.p) fun y hy => by
      obtain ⟨x, hx, rfl⟩ := List.mem_map.mp hy
      exact C.shw x (h.2 x hx)
    rw [List.length_map] at this
    exact this.mono (Nat.le_refl _) (Nat.mul_le_mul_right _ h.1)
  eqv xs ys := eqv_tupM C.eqv xs ys
  eqd hk xs ys h1 h2 := by
    have s : ∀ xs : List α, (xs.length ≤ m ∧ ∀ x ∈ xs, C.val x) → SeqAt.shaped (.tuple (xs.map C.p)) = true := fun xs h => (shw_tup (k := C.k) (n := C.n) fun y hy => by
      obtain ⟨x, hx, rfl⟩ := List.mem_map.mp hy
      exact C.shw x (h.2 x hx)).shaped hk
    unfold eqD
    have z : scalD (.tup (xs.map C.e)) (.tup (ys.map C.e)) = none := rfl
    have t : ∀ xs : List α, toPy (.tup (xs.map C.e)) = some (.tuple (xs.map C.p)) := fun xs => by
      unfold toPy
      simp only [py_map C.py xs]
    simp only [z, t, s xs h1, s ys h2, and_self, if_true, eqv_tupM C.eqv xs ys]
theorem eqv_lstM {p : α → PyData} (h : ∀ x y, PyData.eqv (p x) (p y) = decide (x = y)) (xs ys : List α) : PyData.eqv (.list (xs.map p)) (.list (ys.map p)) = decide (xs = ys) := by rw [PyData.eqv]; exact eqv_map h xs ys
def lst (m : Nat) (C : Cod α) : Cod (List α) where
  e xs := .lst (xs.map C.e)
  p xs := .list (xs.map C.p)
  val xs := xs.length ≤ m ∧ ∀ x ∈ xs, C.val x
  k := C.k + 1
  n := m * (C.n + 1)
  py xs := by
    unfold toPy
    simp only [py_map C.py xs]
  shw xs h := by
    have := shw_lst (k := C.k) (n := C.n) (xs := xs.map C.p) fun y hy => by
      obtain ⟨x, hx, rfl⟩ := List.mem_map.mp hy
      exact C.shw x (h.2 x hx)
    rw [List.length_map] at this
    exact this.mono (Nat.le_refl _) (Nat.mul_le_mul_right _ h.1)
  eqv xs ys := eqv_lstM C.eqv xs ys
  eqd hk xs ys h1 h2 := by
    have s : ∀ xs : List α, (xs.length ≤ m ∧ ∀ x ∈ xs, C.val x) → SeqAt.shaped (.list (xs.map C.p)) = true := fun xs h => (shw_lst (k := C.k) (n := C.n) fun y hy => by
      obtain ⟨x, hx, rfl⟩ := List.mem_map.mp hy
      exact C.shw x (h.2 x hx)).shaped hk
    unfold eqD
    have z : scalD (.lst (xs.map C.e)) (.lst (ys.map C.e)) = none := rfl
    have t : ∀ xs : List α, toPy (.lst (xs.map C.e)) = some (.list (xs.map C.p)) := fun xs => by
      unfold toPy
      simp only [py_map C.py xs]
    simp only [z, t, s xs h1, s ys h2, and_self, if_true, eqv_lstM C.eqv xs ys]
/-- a pair -/
def pair (A : Cod α) (B : Cod β) : Cod (α × β) where
  e x := .tup [A.e x.1, B.e x.2]
  p x := .tuple [A.p x.1, B.p x.2]
  val x := A.val x.1 ∧ B.val x.2
  k := max A.k B.k + 1
  n := 2 * (max A.n B.n + 1)
  py x := by simp only [toPy, toPyL, A.py, B.py]
  shw x h := shw_tup (xs := [A.p x.1, B.p x.2]) fun y hy => by
    rcases List.mem_cons.mp hy with rfl | hy
    · exact (A.shw _ h.1).mono (Nat.le_max_left _ _) (Nat.le_max_left _ _)
    · rw [List.mem_singleton.mp hy]
      exact (B.shw _ h.2).mono (Nat.le_max_right _ _) (Nat.le_max_right _ _)
  eqv x y := by
    rw [eqv_pair, A.eqv, B.eqv, ← Bool.decide_and, decide_eq_decide]
    exact ⟨fun h => Prod.ext h.1 h.2, fun h => ⟨congrArg _ h, congrArg _ h⟩⟩
  eqd hk x y h1 h2 := by
    have s : ∀ x : α × β, A.val x.1 ∧ B.val x.2 → SeqAt.shaped (.tuple [A.p x.1, B.p x.2]) = true := fun x h => (shw_tup (k := max A.k B.k) (n := max A.n B.n) (xs := [A.p x.1, B.p x.2]) fun y hy => by
      rcases List.mem_cons.mp hy with rfl | hy
      · exact (A.shw _ h.1).mono (Nat.le_max_left _ _) (Nat.le_max_left _ _)
      · rw [List.mem_singleton.mp hy]
        exact (B.shw _ h.2).mono (Nat.le_max_right _ _) (Nat.le_max_right _ _)).shaped hk
    unfold eqD
    have z : scalD (.tup [A.e x.1, B.e x.2]) (.tup [A.e y.1, B.e y.2]) = none := rfl
    have t : ∀ x : α × β, toPy (.tup [A.e x.1, B.e x.2]) = some (.tuple [A.p x.1, B.p x.2]) := fun x => by simp only [toPy, toPyL, A.py, B.py]
    have v : PyData.eqv (.tuple [A.p x.1, B.p x.2]) (.tuple [A.p y.1, B.p y.2]) = decide (x = y) := by
      rw [eqv_pair, A.eqv, B.eqv, ← Bool.decide_and, decide_eq_decide]
      exact ⟨fun h => Prod.ext h.1 h.2, fun h => ⟨congrArg _ h, congrArg _ h⟩⟩
    simp only [z, t, s x h1, s y h2, and_self, if_true, v]
end
end Cod
end DL
namespace DL
open PySem PySem.Spec PyProof.Rows L2
theorem put_at {a : AH} {r s : Nat} {ds : List D} {v : D} (h : a[r]? = some (.lst ds)) (hs : s < ds.length) : putD (.ref r) (dI s) v a = some (a.set r (.lst (ds.set s v))) := by
  have e : ixN ds.length (s : Int) = some s := by
    unfold ixN
    rw [if_pos (by omega), if_pos (by omega)]
    simp
  unfold putD dI
  simp only [h, e]
theorem at_neg1 {xs : List D} {d : D} (h : xs[xs.length - 1]? = some d) : atI xs (-1) = some d := by
  have hl := (List.getElem?_eq_some_iff.mp h).1
  unfold atI ixN
  rw [if_neg (by decide), if_pos (by omega)]
  have : ((-1 : Int) + (xs.length : Int)).toNat = xs.length - 1 := by omega
  first
    | (simp only [Option.bind_some, this]; exact h)
    | (show xs[((-1 : Int) + (xs.length : Int)).toNat]? = some d; rw [this]; exact h)
theorem flatL_int (xs : List Int) : flatL (xs.map D.int) = some (xs.map V.int) := by
  induction xs with
  | nil => rfl
  | cons x xs ih =>
    rw [List.map_cons, List.map_cons]
    unfold flatL
    rw [ih]
    rfl
theorem inV_int (x : Int) (xs : List Int) : inV (.int x) (xs.map V.int) = decide (x ∈ xs) := by
  induction xs with
  | nil => rfl
  | cons y ys ih =>
    unfold inV at ih ⊢
    rw [List.map_cons, List.any_cons, ih]
    show (decide (y = x) || decide (x ∈ ys)) = decide (x ∈ y :: ys)
    rw [Bool.eq_iff_iff]
    simp only [Bool.or_eq_true, decide_eq_true_eq, List.mem_cons]
    exact ⟨fun h => h.elim (fun z => .inl z.symm) .inr, fun h => h.elim (fun z => .inl z.symm) .inr⟩
theorem notin_lst {x : Nat} {xs : List Int} {ah : AH} : oNotIn (dI x) (.lst (xs.map D.int)) ah = .ok (.bl (!decide ((x : Int) ∈ xs))) ah := by
  have e : oInB ah (dI x) (.lst (xs.map D.int)) = some (decide ((x : Int) ∈ xs)) := by
    unfold oInB dI
    simp only [seqD, flatD, flatL_int, inV_int]
  unfold oNotIn
  rw [e]
theorem notin_tup {x : Nat} {xs : List Int} {ah : AH} : oNotIn (dI x) (.tup (xs.map D.int)) ah = .ok (.bl (!decide ((x : Int) ∈ xs))) ah := by
  have e : oInB ah (dI x) (.tup (xs.map D.int)) = some (decide ((x : Int) ∈ xs)) := by
    unfold oInB dI
    simp only [seqD, flatD, flatL_int, inV_int]
  unfold oNotIn
  rw [e]
theorem notin_ref {x n : Nat} {xs : List Int} {ah : AH} (h : ah[n]? = some (.lst (xs.map D.int))) : oNotIn (dI x) (.ref n) ah = .ok (.bl (!decide ((x : Int) ∈ xs))) ah := by
  have e : oInB ah (dI x) (.ref n) = some (decide ((x : Int) ∈ xs)) := by
    unfold oInB dI
    simp only [seqD, h, flatD, flatL_int, inV_int]
  unfold oNotIn
  rw [e]
/-- what is put -/
theorem nat_mem (x : Nat) (xs : List Nat) : ((x : Int) ∈ xs.map fun n : Nat => (n : Int)) ↔ x ∈ xs := by
  rw [List.mem_map]
  exact ⟨fun ⟨y, h, e⟩ => by have : y = x := by omega
                             rw [← this]; exact h, fun h => ⟨x, h, rfl⟩⟩
theorem forL_cons {g : D → AE → Option AE} {body : FS} {d : D} {ds : List D} {env env1 env2 : AE} {ah a2 : AH} {r : Res (Fl × AE)} (h1 : g d env = some env1) (h2 : body env1 ah = .ok (.nx, env2) a2) (h3 : forL g body ds env2 a2 = r) : forL g body (d :: ds) env ah = r := by
  simp only [forL, h1, h2, Res.bind_ok]
  exact h3
theorem forL_ret {g : D → AE → Option AE} {body : FS} {d z : D} {ds : List D} {env env1 env2 : AE} {ah a2 : AH} (h1 : g d env = some env1) (h2 : body env1 ah = .ok (.rt z, env2) a2) : forL g body (d :: ds) env ah = .ok (.rt z, env2) a2 := by
  simp only [forL, h1, h2, Res.bind_ok]
theorem len_ref {a : AH} {r : Nat} {ds : List D} (h : a[r]? = some (.lst ds)) : oLen [.ref r] a = .ok (dI ds.length) a := by
  have e : seqD a (.ref r) = some (false, ds) := by simp only [seqD, h]
  unfold oLen
  simp only [e]
  rfl
def dN (xs : List Nat) : D := .tup (xs.map dI)
theorem back {α : Type} {e : α → D} {P : α → Prop} : ∀ {ys : List D}, (∀ y ∈ ys, ∃ x, y = e x ∧ P x) → ∃ xs : List α, ys = xs.map e ∧ ∀ x ∈ xs, P x
  | [], _ => ⟨[], rfl, fun _ h => absurd h List.not_mem_nil⟩
  | y :: ys, h => by
    obtain ⟨x, rfl, hx⟩ := h y List.mem_cons_self
    obtain ⟨xs, rfl, hxs⟩ := back (ys := ys) fun z hz => h z (List.mem_cons_of_mem _ hz)
    exact ⟨x :: xs, rfl, fun z hz => by
      rcases List.mem_cons.mp hz with rfl | q
      · exact hx
      · exact hxs z q⟩
theorem shrN {a b : Nat} {ah : AH} (h : b ≤ 1000) : oShr (dI a) (dI b) ah = .ok (dI (a / 2 ^ b)) ah := by
  have e : (a : Int) / 2 ^ (b : Int).toNat = ((a / 2 ^ b : Nat) : Int) := by
    rw [Int.toNat_natCast, Int.natCast_ediv, Int.natCast_pow]
    rfl
  have c : Cnn (a : Int) (b : Int) := by
    first
      | (unfold Cnn; omega)
      | exact ⟨by omega, by omega⟩
      | (simp [Cnn]; omega)
  unfold oShr oI dI
  simp only [c, if_true, e]
/-- a comprehension whose test changes the heap -/
theorem compL_fil {α : Type} {g : D → AE → Option AE} {t : FT} {f : FE} {env : AE} {e : α → D} {P : AH → Prop} : ∀ {xs : List α} {acc : List D} {ah : AH}, P ah → (∀ x ∈ xs, ∀ a, P a → ∃ env1 b a', g (e x) env = some env1 ∧ t env1 a = .ok b a' ∧ (b = true → f env1 a' = .ok (e x) a') ∧ P a') → acc.length + xs.length ≤ sizeLine →
    ∃ (ys : List α) (ah' : AH), compL g t f env (xs.map e) acc ah = .ok (acc ++ ys.map e) ah' ∧ ys.Sublist xs ∧ P ah'
  | [], acc, ah, h0, _, _ => ⟨[], ah, by simp [compL], List.Sublist.refl _, h0⟩
  | x :: xs, acc, ah, h0, h, hz => by
    obtain ⟨env1, b, a', h1, h2, h3, hp⟩ := h x List.mem_cons_self ah h0
    rw [List.length_cons] at hz
    cases b with
    | true =>
      have h4 := h3 rfl
      obtain ⟨ys, ah', k1, k2, k4⟩ := compL_fil (acc := acc ++ [e x]) (xs := xs) hp (fun z hz a => h z (List.mem_cons_of_mem _ hz) a) (by simp; omega)
      refine ⟨x :: ys, ah', ?_, k2.cons_cons x, k4⟩
      simp only [List.map_cons, compL, h1, h2, h4, Res.nox_ok, Res.bind_ok, if_true]
      rw [if_pos (by omega), k1]
      simp
    | false =>
      obtain ⟨ys, ah', k1, k2, k4⟩ := compL_fil (acc := acc) (xs := xs) hp (fun z hz a => h z (List.mem_cons_of_mem _ hz) a) (by omega)
      refine ⟨ys, ah', ?_, k2.cons x, k4⟩
      simp only [List.map_cons, compL, h1, h2, Res.nox_ok, Res.bind_ok]
      rw [if_neg Bool.false_ne_true, k1]
theorem fl2 {α : Type} (c : α → Bool) (L : List α) : (L.filter c).length + (L.filter fun x => !c x).length = L.length := by
  induction L with
  | nil => rfl
  | cons x L ih =>
    rw [List.filter_cons, List.filter_cons]
    cases c x <;> simp <;> omega
theorem sIfR {t : FT} {s s2 r : FS} {env env1 : AE} {ah a1 a2 : AH} {d : D} (h1 : t env ah = .ok true a1) (h2 : s env a1 = .ok (.rt d, env1) a2) : sSeq (sIf t s s2) r env ah = .ok (.rt d, env1) a2 := eSeqR (eSIfT h1 h2)
theorem two_of {x y : D} {a : AH} : oLen [.tup [x, y]] a = .ok (dI 2) a := rfl
theorem eTupRgN {f : FE} {env : AE} {a : AH} {S : Nat} (h : f env a = .ok (dI S) a) (hS : S ≤ 1000) : iTupRg (iRg1 f) env a = .ok (.tup ((List.range S).map dI)) a := by
  have e : iRg1 f env a = .ok (0, (S : Int)) a := by
    unfold iRg1
    rw [h, Res.bind_ok]
    rfl
  unfold iTupRg
  rw [e, Res.bind_ok, if_pos (by unfold rgOk; exact decide_eq_true ⟨by omega, by omega, by omega, by omega, by omega⟩)]
  unfold rgD
  congr 2
  rw [show ((S : Int) - 0).toNat = S by omega]
  exact List.map_congr_left fun i _ => by rw [Int.zero_add]; rfl
theorem ix_last {n : Nat} {a : AH} {xs : List D} {d : D} (h : a[n]? = some (.lst xs)) (hd : xs[xs.length - 1]? = some d) : oIx (.ref n) (.int (-1)) a = .ok d a := by
  have e : atI xs (-1) = some d := at_neg1 hd
  unfold oIx
  have z : dgD a (.ref n) (.int (-1)) = none := by
    unfold dgD dkD dtD
    simp only [h]
  simp only [z, seqD, h, e]
theorem notin_natL {x : Nat} {xs : List Nat} {ah : AH} : oNotIn (dI x) (.lst (xs.map dI)) ah = .ok (.bl (!decide (x ∈ xs))) ah := by
  have h := notin_lst (x := x) (xs := xs.map fun n : Nat => (n : Int)) (ah := ah)
  rw [List.map_map, decide_eq_decide.mpr (nat_mem x xs)] at h
  exact h
/-- None or a number -/
def dO : Option Nat → D
  | none => .non
  | some r => dI r
theorem neS {x y : Str} {ah : AH} : oNe (.str x) (.str y) ah = .ok (.bl (!decide (x = y))) ah := rfl
theorem is_dO {o : Option Nat} {ah : AH} : oIs (dO o) .non ah = .ok (.bl (decide (o = none))) ah := by cases o <;> rfl
theorem isNot_dO {o : Option Nat} {ah : AH} : oIsNot (dO o) .non ah = .ok (.bl (!decide (o = none))) ah := by cases o <;> rfl
theorem eRetR {f : FE} {env : AE} {ah a1 : AH} {d : D} (h1 : f env ah = .ok d a1) : sRet f env ah = .ok (.rt d, env) a1 := eRet h1
theorem forL_nil {g : D → AE → Option AE} {body : FS} {env : AE} {ah : AH} : forL g body [] env ah = .ok (.nx, env) ah := rfl
/-- the numbers from k on, one by one -/
theorem from_cons {k n : Nat} (h : k < n) : ((List.range (n - k)).map fun i => dI (k + i)) = dI k :: (List.range (n - (k + 1))).map fun i => dI (k + 1 + i) := by
  rw [show n - k = n - (k + 1) + 1 by omega, List.range_succ_eq_map, List.map_cons, List.map_map, Nat.add_zero]
  congr 1
  refine List.map_congr_left fun i _ => ?_
  show dI (k + (i + 1)) = _
  rw [show k + (i + 1) = k + 1 + i by omega]
theorem from_nil {k n : Nat} (h : n ≤ k) : ((List.range (n - k)).map fun i => dI (k + i)) = [] := by rw [show n - k = 0 by omega]; rfl
theorem from_zero {n : Nat} : ((List.range (n - 0)).map fun i => dI (0 + i)) = (List.range n).map dI := by
  rw [Nat.sub_zero]
  exact List.map_congr_left fun i _ => by rw [Nat.zero_add]
theorem drop_cons {α : Type} {x : α} {p xs : List α} {k : Nat} (h : p.drop k = x :: xs) : p[k]? = some x ∧ p.drop (k + 1) = xs ∧ k < p.length := by
  have hk : k < p.length := by
    rcases Nat.lt_or_ge k p.length with z | z
    · exact z
    · rw [List.drop_eq_nil_of_le z] at h; cases h
  rw [List.drop_eq_getElem_cons hk] at h
  injection h with h1 h2
  exact ⟨by rw [List.getElem?_eq_getElem hk, h1], h2, hk⟩
theorem drop_nil {α : Type} {p : List α} {k : Nat} (h : p.drop k = []) : p.length ≤ k := by
  rcases Nat.lt_or_ge k p.length with z | z
  · rw [List.drop_eq_getElem_cons z] at h; cases h
  · exact z
theorem compL2_map {α β : Type} {g g1 : D → AE → Option AE} {t t1 : FT} {fi1 : FI} {f : FE} {vs1 : List Nat} {env : AE} {ah : AH} {e : α → D} {e1 : β → D} {ys : α → List β} {o : α → β → D} : ∀ {xs : List α} {acc : List D},
    (∀ x ∈ xs, ∃ env1, g (e x) env = some env1 ∧ t env1 ah = .ok true ah ∧ fi1 env1 ah = .ok ((ys x).map e1) ah ∧ ∀ y ∈ ys x, ∃ env2, g1 (e1 y) (wipeA env1 vs1) = some env2 ∧ t1 env2 ah = .ok true ah ∧ f env2 ah = .ok (o x y) ah) →
    acc.length + (xs.flatMap fun x => (ys x).map (o x)).length ≤ sizeLine → compL2 g t fi1 g1 t1 f vs1 env (xs.map e) acc ah = .ok (acc ++ xs.flatMap fun x => (ys x).map (o x)) ah
  | [], acc, _, _ => by simp [compL2]
  | x :: xs, acc, h, hz => by
    obtain ⟨env1, h1, h2, h3, h4⟩ := h x List.mem_cons_self
    rw [List.flatMap_cons, List.length_append, List.length_map] at hz
    simp only [List.map_cons, compL2, h1, h2, h3, Res.nox_ok, Res.bind_ok, if_true]
    rw [compL_map h4 (by omega), Res.bind_ok, compL2_map (fun y hy => h y (List.mem_cons_of_mem _ hy)) (by rw [List.length_append, List.length_map]; omega), List.flatMap_cons, List.append_assoc]
theorem eLc2 {g g1 : D → AE → Option AE} {t t1 : FT} {fi fi1 : FI} {f : FE} {vs vs1 : List Nat} {env : AE} {ah a1 a2 : AH} {ds xs : List D} (h1 : fi env ah = .ok ds a1) (h2 : compL2 g t fi1 g1 t1 f vs1 (wipeA env vs) ds [] a1 = .ok xs a2) : iLc2 fi g t fi1 g1 t1 f vs vs1 env ah = .ok (.lst xs) a2 := by unfold iLc2; rw [h1, Res.bind_ok, h2, Res.bind_ok]
theorem rgM {env : AE} {ah : AH} {n : Nat} {f : FE} (h : f env ah = .ok (dI n) ah) (hn : n ≤ 1048576) : iLstRgM (iRg1 f) env ah = .ok (.ref ah.length) (ah ++ [.lst ((List.range n).map dI)]) := by
  have e : iRg1 f env ah = .ok (0, (n : Int)) ah := by
    unfold iRg1
    rw [h, Res.bind_ok]
    rfl
  unfold iLstRgM
  rw [e, Res.bind_ok]
  have r : rgOk 0 (n : Int) = true := by unfold rgOk; exact decide_eq_true ⟨by omega, by omega, by omega, by omega, by omega⟩
  have d : rgD 0 (n : Int) = (List.range n).map dI := by
    unfold rgD
    rw [show ((n : Int) - 0).toNat = n by omega]
    exact List.map_congr_left fun i _ => by rw [Int.zero_add]; rfl
  simp only [r, if_true, d]
theorem compL2_fil {α β : Type} {g g1 : D → AE → Option AE} {t t1 : FT} {fi1 : FI} {f : FE} {vs1 : List Nat} {env : AE} {ah : AH} {e : α → D} {e1 : β → D} {ys : α → List β} {c : α → β → Bool} {o : α → β → D} : ∀ {xs : List α} {acc : List D},
    (∀ x ∈ xs, ∃ env1, g (e x) env = some env1 ∧ t env1 ah = .ok true ah ∧ fi1 env1 ah = .ok ((ys x).map e1) ah ∧ ∀ y ∈ ys x, ∃ env2, g1 (e1 y) (wipeA env1 vs1) = some env2 ∧ t1 env2 ah = .ok (c x y) ah ∧ (c x y = true → f env2 ah = .ok (o x y) ah)) → acc.length + (xs.flatMap ys).length ≤ sizeLine →
    compL2 g t fi1 g1 t1 f vs1 env (xs.map e) acc ah = .ok (acc ++ xs.flatMap fun x => ((ys x).filter (c x)).map (o x)) ah
  | [], acc, _, _ => by simp [compL2]
  | x :: xs, acc, h, hz => by
    obtain ⟨env1, h1, h2, h3, h4⟩ := h x List.mem_cons_self
    rw [List.flatMap_cons, List.length_append] at hz
    have fl := List.length_filter_le (c x) (ys x)
    simp only [List.map_cons, compL2, h1, h2, h3, Res.nox_ok, Res.bind_ok, if_true]
    rw [compL_if h4 (by omega), Res.bind_ok, compL2_fil (fun y hy => h y (List.mem_cons_of_mem _ hy)) (by rw [List.length_append, List.length_map]; omega), List.flatMap_cons, List.append_assoc]
theorem down_ref {n : Nat} {xs : List D} {ah : AH} (h : ah[n]? = some (.lst xs)) : oDown (.ref n) ah = .ok (.lst xs.reverse) ah := by
  have e : seqD ah (.ref n) = some (false, xs) := by simp only [seqD, h]
  unfold oDown
  simp only [e]
/-- a natural number of at most 13 digits can be shown -/
theorem rpr_nat13 {n : Nat} (h : n < 10000000000000) : rprOk (.int (n : Int)) = true := by
  have hs : (PyData.int (n : Int)).showable = true := by
    show decide ((n : Int).natAbs.log2 < 1920) = true
    refine decide_eq_true ?_
    rw [Int.natAbs_natCast]
    by_cases c : n = 0
    · rw [c]; decide
    · have : n.log2 < 44 := (Nat.log2_lt c).mpr (by omega)
      omega
  have hl : (PyData.int (n : Int)).leavesShort 13 = true := by
    show decide ((PyData.shown (.int (n : Int))).length ≤ 13) = true
    refine decide_eq_true ?_
    show (PySem.Str.ofString (ToString.toString (n : Int))).length ≤ 13
    rw [PySem.ofString_length]
    have e : toString (Int.ofNat n) = Nat.repr n := rfl
    show (toString (Int.ofNat n)).length ≤ 13
    rw [e]
    exact (Nat.length_repr_le_iff (by decide)).mpr h
  unfold rprOk
  simp only [Bool.and_eq_true, decide_eq_true_eq, Bool.not_eq_true']
  exact ⟨hs, hl, by show 0 ≤ _; omega, by show 0 ≤ _; omega, rfl⟩
/-- x in a list of data, live -/
theorem inP_ref {α : Type} [DecidableEq α] (C : Cod α) {x : α} {xs : List α} {n : Nat} {ah : AH} (h : ah[n]? = some (.lst (xs.map C.e))) (hx : C.val x) (hs : ∀ y ∈ xs, C.val y) (hk : C.k ≤ 39 := by decide) : oInP (C.e x) (.ref n) ah = .ok (.bl (decide (x ∈ xs))) ah := by
  have e : seqD ah (.ref n) = some (false, xs.map C.e) := by simp only [seqD, h]
  have t : toPyL (xs.map C.e) = some (xs.map C.p) := py_map C.py xs
  have s1 : SeqAt.shaped (C.p x) = true := (C.shw x hx).shaped (by omega)
  have s2 : SeqAt.shaped (.list (xs.map C.p)) = true := (shw_lst (k := C.k) (n := C.n) fun y hy => by
    obtain ⟨z, hz, rfl⟩ := List.mem_map.mp hy
    exact C.shw z (hs z hz)).shaped (by omega)
  unfold oInP
  simp only [e, C.py, t, s1, s2, and_self, if_true]
  congr 2
  rw [List.any_map, Bool.eq_iff_iff, List.any_eq_true, decide_eq_true_eq]
  constructor
  · rintro ⟨y, hy, q⟩
    have q : PyData.eqv (C.p y) (C.p x) = true := q
    rw [C.eqv, decide_eq_true_eq] at q
    rw [← q]; exact hy
  · intro q
    exact ⟨x, q, by show PyData.eqv (C.p x) (C.p x) = true; rw [C.eqv, decide_eq_true rfl]⟩
theorem inP_refB {α : Type} [DecidableEq α] (C : Cod α) {x : α} {xs : List α} {n : Nat} {ah : AH} (b : Bool) (hb : b = true ↔ x ∈ xs) (h : ah[n]? = some (.lst (xs.map C.e))) (hx : C.val x) (hs : ∀ y ∈ xs, C.val y) (hk : C.k ≤ 39 := by decide) : oInP (C.e x) (.ref n) ah = .ok (.bl b) ah := by
  rw [inP_ref C h hx hs hk]
  congr 2
  rw [Bool.eq_iff_iff, decide_eq_true_eq]
  exact hb.symm
end DL
namespace DL
open PySem PySem.Spec PyProof.Rows L2
/-- what a class must have; fs: the names of its fields -/
structure ClsJ (K : PySem.W.Frag) (C : Addr) (fs : List Str) : Prop where
  c : Cls K C
  no : ∀ f ∈ fs, NoAttr K C f
  makes : PySem.W.makesIn K C = true
  kp : PySem.W.keepIn K (.ref C) = true
def jobB (K : PySem.W.Frag) (C : Addr) (fs : List Str) : Bool :=
  PySem.W.plainGet K C Str.empty && (PySem.W.hasDictIn K C && (PySem.W.plainOver K C && (decide (PySem.W.findIn K (.ref C) "__setattr__" = some (some (.builtin "object.__setattr__"))) && (fs.all (fun f => decide (PySem.W.findIn K (.ref C) f = some none)) && (PySem.W.makesIn K C && PySem.W.keepIn K (.ref C))))))
theorem jobB_ok {K : PySem.W.Frag} {C : Addr} {fs : List Str} (h : jobB K C fs = true) : ClsJ K C fs := by
  unfold jobB at h
  simp only [Bool.and_eq_true, decide_eq_true_eq, List.all_eq_true] at h
  obtain ⟨h1, h2, h3, h4, h5, h6, h7⟩ := h
  exact ⟨⟨h1, h2, h3, h4⟩, h5, h6, h7⟩
def methB (K : PySem.W.Frag) (C : Addr) (m : Str) : Bool :=
  decide (PySem.W.findIn K (.ref C) m = some (some (.ref (He.ma K C m)))) && (PySem.W.isFn K (.ref (He.ma K C m)) && PySem.W.keepIn K (.ref (He.ma K C m)))
theorem methB_ok {K : PySem.W.Frag} {C : Addr} {m : Str} (h : methB K C m = true) : Meth K C m (He.ma K C m) := by
  unfold methB at h
  simp only [Bool.and_eq_true, decide_eq_true_eq] at h
  exact ⟨h.1, h.2.1, h.2.2⟩
def putA (f : Str) (d : D) : List (Str × D) → List (Str × D)
  | [] => [(f, d)]
  | (g, x) :: r => if g = f then (g, d) :: r else (g, x) :: putA f d r
section
variable {G : KW} {η : List Addr} {H : Hp}
theorem lkp_rel : ∀ {fs : List (Str × D)} {vs : List (Str × V)} {f : Str}, vs.map (·.1) = fs.map (·.1) → RelAll G η H (fs.map (·.2)) (vs.map (·.2)) → (fs.lookup f = none → vs.lookup f = none) ∧ ∀ d, fs.lookup f = some d → ∃ v, vs.lookup f = some v ∧ Rel G η H d v
  | [], [], f, _, _ => ⟨fun _ => rfl, fun d h => nomatch h⟩
  | [], _ :: _, f, e, _ => nomatch e
  | _ :: _, [], f, e, _ => nomatch e
  | (g, x) :: fs, (g2, y) :: vs, f, e, r => by
    obtain ⟨e1, e2⟩ := List.cons.inj e
    cases r with
    | cons r rr =>
      obtain ⟨i1, i2⟩ := lkp_rel (f := f) e2 rr
      simp only at e1
      subst e1
      rw [List.lookup_cons, List.lookup_cons]
      cases f == g2 with
      | true => exact ⟨(fun z => nomatch z), fun d z => by cases z; exact ⟨y, rfl, r⟩⟩
      | false => exact ⟨i1, i2⟩
theorem put_rel {f : Str} {d : D} {v : V} (rd : Rel G η H d v) : ∀ {fs : List (Str × D)} {vs : List (Str × V)}, vs.map (·.1) = fs.map (·.1) → RelAll G η H (fs.map (·.2)) (vs.map (·.2)) → (putF f v vs).map (·.1) = (putA f d fs).map (·.1) ∧ RelAll G η H ((putA f d fs).map (·.2)) ((putF f v vs).map (·.2))
  | [], [], _, _ => ⟨rfl, .cons rd .nil⟩
  | [], _ :: _, e, _ => nomatch e
  | _ :: _, [], e, _ => nomatch e
  | (g, x) :: fs, (g2, y) :: vs, e, r => by
    obtain ⟨e1, e2⟩ := List.cons.inj e
    cases r with
    | cons r rr =>
      obtain ⟨i1, i2⟩ := put_rel (f := f) rd e2 rr
      simp only at e1
      subst e1
      unfold putA putF
      by_cases h : g2 = f
      · rw [if_pos h, if_pos h]
        exact ⟨by rw [List.map_cons, List.map_cons, e2], .cons rd rr⟩
      · rw [if_neg h, if_neg h]
        exact ⟨by rw [List.map_cons, List.map_cons, i1], .cons r i2⟩
end
/-- e.f -/
def iFld (C f : Str) (g : FE) : FE := fun env ah => (g env ah).bind fun x ah1 => match x with
  | .ref n => match ah1[n]? with
    | some (.ins C' fs) => if C' = C then (match fs.lookup f with
      | some d => .ok d ah1
      | none => .bad) else .bad
    | _ => .bad
  | _ => .bad
/-- e.f = v -/
def sSetF (C f : Str) (o g : FE) : FS := fun env ah => (g env ah).bind fun d ah1 => (o env ah1).bind fun x ah2 => match x with
  | .ref n => match ah2[n]? with
    | some (.ins C' fs) => if C' = C ∧ fs.length < 999 then .ok (.nx, env) (ah2.set n (.ins C (putA f d fs))) else .bad
    | _ => .bad
  | _ => .bad
section
variable {X : Cx} {W : XW} {e o v : Expr} {g go gv : FE} {C f : Str} {fs : List Str} {pos pos' : Pos}
theorem j_fld (T : ClsJ X.K (He.ga X.K C) fs) (he : PE X e (SX X W g)) (hf : f ∈ fs := by decide) (hb : attributeBase e f X.env (eval e X.env) = eval e X.env := by rfl) : PE X (.Attribute e f pos) (SX X W (iFld C f g)) :=
  PE.imp (pe_fld he hb) fun S H Q ⟨env, ah, η, en, pk, h⟩ => ⟨env, ah, η, en, pk, h.bind.imp0 fun x η1 H1 ah1 m1 p1 q1 => fun u rvv => by
    cases rvv with
    | ref hn =>
      rename_i n a
      obtain ⟨ob, ho, ok⟩ := p1.at hn
      simp only [ho] at q1
      cases ob with
      | ins C' gs =>
        obtain ⟨dx, vs, h1, h2, h3⟩ := ok
        simp only at q1
        split at q1
        · rename_i eC
          subst eC
          cases ed : gs.lookup f with
          | some d =>
            rw [ed] at q1
            obtain ⟨u, hu, ru⟩ := (lkp_rel (f := f) h2 h3).2 _ ed
            exact ⟨a, _, dx, vs, u, rfl, h1, T.c, T.no _ hf, hu, q1.at p1 _ ru⟩
          | none => rw [ed] at q1; exact q1.elim
        · exact q1.elim
      | _ => exact q1.elim
    | _ => exact q1.elim⟩
theorem s_setF (T : ClsJ X.K (He.ga X.K C) fs) (ho : PE X o (SX X W go)) (hv : PE X v (SX X W gv)) (hf : f ∈ fs := by decide) (hs : swapsWith v (some (.Attribute o f pos')) pos.line X.env = pure false := by rfl) : PS X (.Assign [.Attribute o f pos'] v pos) (SSX X W (sSetF C f go gv)) :=
  PS.imp (ps_fld ho hv hs) fun Dn S H ⟨env, ah, η, en, pk, h⟩ => ⟨env, ah, η, en, pk, h.bind.imp0 fun d η1 H1 ah1 m1 p1 q1 => fun y ry => ⟨env, ah1, η1, en.mv m1, p1, q1.bind.imp0 fun x η2 H2 ah2 m2 p2 q2 => fun u ru => by
    cases ru with
    | ref hn =>
      rename_i n a
      obtain ⟨ob, ho, ok⟩ := p2.at hn
      simp only [ho] at q2
      cases ob with
      | ins C' gs =>
        obtain ⟨dx, vs, h1, h2, h3⟩ := ok
        simp only at q2
        split at q2
        · rename_i ec
          obtain ⟨eC, hl⟩ := ec
          subst eC
          have lv : vs.length = gs.length := by
            have := congrArg List.length h2
            rwa [List.length_map, List.length_map] at this
          have rd := (ry.mv m2)
          obtain ⟨k1, k2⟩ := put_rel (f := f) rd h2 h3
          have m : Mv η2 H2 η2 (upd H2 a (.ins (He.ga X.K C') dx (putF f y vs))) := .upd (List.mem_of_getElem? hn) h1 (fun _ z => nomatch z) (fun _ _ z => nomatch z)
          exact ⟨a, _, dx, vs, rfl, h1, T.c, T.no _ hf, by omega, q2 η2 _ m (p2.put hn h1 (fun _ z => nomatch z) (fun _ _ z => nomatch z) ⟨dx, _, upd_same, k1, k2.mv m⟩) S (((en.mv m1).mv m2).mv m)⟩
        · exact q2.elim
      | _ => exact q2.elim
    | _ => exact q2.elim⟩⟩
end
/-- a method that raises nothing -/
def OkM (P : Program) (w : World) (K : PySem.W.Frag) (mg : Str → Option Value) (base : Heap) (C m : Str) (k : Nat) (ps : List Str) (F : List D → AH → Res D) : Prop :=
  ∃ f fd, Meth K (He.ga K C) m f ∧ Binds K fd ps [] ∧ FnG P w K mg base CX0 k f fd ps (spN ⟨K, w⟩ ps.length F)
/-- .. that may raise -/
def OkMX (P : Program) (w : World) (K : PySem.W.Frag) (mg : Str → Option Value) (base : Heap) (C m : Str) (k : Nat) (ps : List Str) (F : List D → AH → Res D) : Prop :=
  ∃ f fd, Meth K (He.ga K C) m f ∧ Binds K fd ps [] ∧ FnG P w K mg base (L2.CX P w) k f fd ps (spX ⟨K, w⟩ ps.length F)
/-- o.m(e, ..) -/
def iMeth (C m : Str) (F : List D → AH → Res D) (o : FE) (fs : List FE) : FE := fun env ah => (o env ah).bind fun x ah1 => match x with
  | .ref n => match ah1[n]? with
    | some (.ins C' gs) => if C' = C ∧ gs.lookup m = none then (iArgs fs env ah1).bind fun ds ah2 => (F (.ref n :: ds) ah2).nox else .bad
    | _ => .bad
  | _ => .bad
/-- .. it may raise -/
def iMethX (C m : Str) (F : List D → AH → Res D) (o : FE) (fs : List FE) : FE := fun env ah => (o env ah).bind fun x ah1 => match x with
  | .ref n => match ah1[n]? with
    | some (.ins C' gs) => if C' = C ∧ gs.lookup m = none then (iArgs fs env ah1).bind fun ds ah2 => match F (.ref n :: ds) ah2 with
      | .ok d ah3 => .ok d ah3
      | .exc x _ ah3 => .exc x env ah3
      | .bad => .bad else .bad
    | _ => .bad
  | _ => .bad
def tMethG (C : Addr) (m : Str) (sp : Sp) (E : L2.St → XK) (ta : TE) (t : TA) : TE := fun σ H Q => ta σ H fun x H1 => ∃ a dx fs, x = .ref a ∧ H1 a = some (.ins C dx fs) ∧ fs.lookup m = none ∧ t σ H1 fun vs H2 => sp (x :: vs) H2 Q (E σ)
section
variable {X : Cx} {W : XW} {CX : CXT} {k : Nat} {C f : Addr} {fd : FuncData} {ps : List Str} {m : Str} {sp : Sp} {E : L2.St → XK} {o e : Expr} {es : List Expr} {ta : TE} {t : TA} {apos pos : Pos}
theorem pe_methG {pl : Sem Bool} (he : PE X o ta) (c : Cls X.K C) (hm : Meth X.K C m f) (hrun : ∀ (pnz : List (Addr × Obj)) (σ : L2.St) (H : Hp) (s : Shared) (Q : VK) (us : List Value) (vs : List V), Inv X pnz σ H s → Vals vs us → sp vs H Q (E σ) → wpAny (model X.prog X.w) X.A (call (.ref f) us) (EP X pnz σ Q) X.xe s) (ha : PA X (e :: es) t)
    (hst : starEach (e :: es) X.env = (false, eval e X.env) :: starEach es X.env := by rfl) (hpl : (backTo pos (starEach es X.env)).any (·.1) = false := by rfl)
    (ht : eval (.Call (.Attribute o m apos) (e :: es) [] pos) X.env = (do
      let ov ← eval o X.env
      standAt apos.atName
      let (f, first) ← holding [ov] (getMethod ov m pl)
      callWith pos f first (backTo pos (starEach (e :: es) X.env)) (backToKw pos (keywordEach [] X.env))) := by rfl) :
    PE X (.Call (.Attribute o m apos) (e :: es) [] pos) (tMethG C m sp E ta t) := by
  refine ⟨fun pins s σ H Q I h => ?_⟩
  refine PySem.W.methodCall_KW (pl := pl) (thn (he.run pins s σ H _ I h) fun u s1 ⟨x, H1, I1, rx, a, dx, fs, ex, ea, l, q⟩ => ?_) ht
  subst ex
  obtain rfl : u = Value.ref a := rx
  refine getmeth_ok I1 ea c hm l ?_
  refine PySem.W.callWith_K (first := [.ref a]) (h₀ := X.base) I.ok.mod.kin hm.kp (thn (ha.run pos pins s1 σ H1 _ I1 q) fun us s2 ⟨vs, H2, I2, r, q2⟩ => ⟨I2.kIn, ?_⟩) hst hpl
  exact hrun pins σ H2 s2 Q (.ref a :: us) (.ref a :: vs) I2 (.cons rfl r) q2
theorem pe_methG0 {pl : Sem Bool} (he : PE X o ta) (c : Cls X.K C) (hm : Meth X.K C m f) (hrun : ∀ (pnz : List (Addr × Obj)) (σ : L2.St) (H : Hp) (s : Shared) (Q : VK) (us : List Value) (vs : List V), Inv X pnz σ H s → Vals vs us → sp vs H Q (E σ) → wpAny (model X.prog X.w) X.A (call (.ref f) us) (EP X pnz σ Q) X.xe s)
    (ht : eval (.Call (.Attribute o m apos) [] [] pos) X.env = (do
      let ov ← eval o X.env
      standAt apos.atName
      let (f, first) ← holding [ov] (getMethod ov m pl)
      callWith pos f first (backTo pos (starEach [] X.env)) (backToKw pos (keywordEach [] X.env))) := by rfl) :
    PE X (.Call (.Attribute o m apos) [] [] pos) (tMethG C m sp E ta tNil) := by
  refine ⟨fun pins s σ H Q I h => ?_⟩
  refine PySem.W.methodCall_KW (pl := pl) (thn (he.run pins s σ H _ I h) fun u s1 ⟨x, H1, I1, rx, a, dx, fs, ex, ea, l, q⟩ => ?_) ht
  subst ex
  obtain rfl : u = Value.ref a := rx
  refine getmeth_ok I1 ea c hm l ?_
  exact PySem.W.callWith_K0 (first := [.ref a]) I1.kIn hm.kp (hrun pins σ H1 s1 Q [.ref a] [.ref a] I1 (.cons rfl .nil) q)
end
section
variable {X : Cx} {W : XW} {C m : Str} {k : Nat} {ps fds : List Str} {F : List D → AH → Res D} {o e : Expr} {es : List Expr} {go : FE} {fs : List FE} {apos pos : Pos}
/-- what the object's reading gives -/
theorem ins_at {η : List Addr} {H : Hp} {ah : AH} {x : D} {v : V} {G : KW} {R : Res D} {Q : VK} {fin : Nat → Res D} (p : HpOk G η H ah) (r : Rel G η H x v)
    (q : Post G W η H (match x with
      | .ref n => match ah[n]? with
        | some (.ins C' gs) => if C' = C ∧ gs.lookup m = none then fin n else .bad
        | _ => .bad
      | _ => .bad) (QV G Q)) : ∃ n a dx vs, x = .ref n ∧ v = .ref a ∧ η[n]? = some a ∧ H a = some (.ins (He.ga G.K C) dx vs) ∧ vs.lookup m = none ∧ Post G W η H (fin n) (QV G Q) := by
  cases r with
  | ref hn =>
    rename_i n a
    obtain ⟨ob, ho, ok⟩ := p.at hn
    simp only [ho] at q
    cases ob with
    | ins C' gs =>
      obtain ⟨dx, vs, h1, h2, h3⟩ := ok
      simp only at q
      split at q
      · rename_i ec
        obtain ⟨eC, hl⟩ := ec
        subst eC
        exact ⟨n, a, dx, vs, rfl, rfl, hn, h1, (lkp_rel (f := m) h2 h3).1 hl, q⟩
      · exact q.elim
    | _ => exact q.elim
  | _ => exact q.elim
theorem OkM.jd {pl : Sem Bool} (T : ClsJ X.K (He.ga X.K C) fds) (h : OkM X.prog X.w X.K X.mg X.base C m k ps F) (hr : Room k X.A) (hn : NoRepr X.A) (ho : PE X o (SX X W go)) (hl : fs.length + 1 = ps.length) (ha : PA X (e :: es) (AX' X W fs))
    (hst : starEach (e :: es) X.env = (false, eval e X.env) :: starEach es X.env := by rfl) (hpl : (backTo pos (starEach es X.env)).any (·.1) = false := by rfl)
    (ht : eval (.Call (.Attribute o m apos) (e :: es) [] pos) X.env = (do
      let ov ← eval o X.env
      standAt apos.atName
      let (f, first) ← holding [ov] (getMethod ov m pl)
      callWith pos f first (backTo pos (starEach (e :: es) X.env)) (backToKw pos (keywordEach [] X.env))) := by rfl) :
    PE X (.Call (.Attribute o m apos) (e :: es) [] pos) (SX X W (iMeth C m F go fs)) := by
  obtain ⟨f, fd, hm, hb, hf⟩ := h
  refine PE.imp (pe_methG (E := fun _ _ _ _ => False) ho T.c hm (fun pnz σ H s Q us vs I r q => run_fnG (E := fun _ _ _ => False) hf hr hn hb .nil pass0 I r (by rw [List.append_nil]; exact q)) ha hst hpl ht) fun S H Q ⟨env, ah, η, en, pk, h⟩ => ⟨env, ah, η, en, pk, h.bind.imp0 fun x η1 H1 ah1 m1 p1 q1 => fun v rv => ?_⟩
  obtain ⟨n, a, dx, vs, rfl, rfl, hη, h1, h2, q2⟩ := ins_at (R := .bad) p1 rv q1
  refine ⟨a, dx, vs, rfl, h1, h2, env, ah1, η1, en.mv m1, p1, ?_⟩
  revert q2
  cases e1 : iArgs fs env ah1 with
  | ok ds ah2 =>
    intro q2
    rw [Res.bind_ok] at q2
    intro η2 H2 m2 p2 us rs
    refine ⟨.ref n :: ds, ah2, η2, by rw [List.length_cons, args_len _ _ _ _ _ e1]; exact hl, .cons (rv.mv m2) rs, p2, ?_⟩
    exact Post.nox (q2.mono m2)
  | exc x e ah1 => exact fun h => h
  | bad => exact fun h => h
theorem OkM.jd0 {pl : Sem Bool} (T : ClsJ X.K (He.ga X.K C) fds) (h : OkM X.prog X.w X.K X.mg X.base C m k ps F) (hr : Room k X.A) (hn : NoRepr X.A) (ho : PE X o (SX X W go)) (hl : ps.length = 1)
    (ht : eval (.Call (.Attribute o m apos) [] [] pos) X.env = (do
      let ov ← eval o X.env
      standAt apos.atName
      let (f, first) ← holding [ov] (getMethod ov m pl)
      callWith pos f first (backTo pos (starEach [] X.env)) (backToKw pos (keywordEach [] X.env))) := by rfl) :
    PE X (.Call (.Attribute o m apos) [] [] pos) (SX X W (iMeth C m F go [])) := by
  obtain ⟨f, fd, hm, hb, hf⟩ := h
  refine PE.imp (pe_methG0 (E := fun _ _ _ _ => False) ho T.c hm (fun pnz σ H s Q us vs I r q => run_fnG (E := fun _ _ _ => False) hf hr hn hb .nil pass0 I r (by rw [List.append_nil]; exact q)) ht) fun S H Q ⟨env, ah, η, en, pk, h⟩ => ⟨env, ah, η, en, pk, h.bind.imp0 fun x η1 H1 ah1 m1 p1 q1 => fun v rv => ?_⟩
  obtain ⟨n, a, dx, vs, rfl, rfl, hη, h1, h2, q2⟩ := ins_at (R := .bad) p1 rv q1
  rw [show iArgs [] env ah1 = .ok [] ah1 from rfl, Res.bind_ok] at q2
  exact ⟨a, dx, vs, rfl, h1, h2, [.ref n], ah1, η1, hl.symm, .cons rv .nil, p1, Post.nox q2⟩
theorem OkMX.jd {pl : Sem Bool} (T : ClsJ X.K (He.ga X.K C) fds) (h : OkMX X.prog X.w X.K X.mg X.base C m k ps F) (hr : Room k X.A) (hn : NoRepr X.A) (tk : Takes X W) (ho : PE X o (SX X W go)) (hl : fs.length + 1 = ps.length) (ha : PA X (e :: es) (AX' X W fs))
    (hst : starEach (e :: es) X.env = (false, eval e X.env) :: starEach es X.env := by rfl) (hpl : (backTo pos (starEach es X.env)).any (·.1) = false := by rfl)
    (ht : eval (.Call (.Attribute o m apos) (e :: es) [] pos) X.env = (do
      let ov ← eval o X.env
      standAt apos.atName
      let (f, first) ← holding [ov] (getMethod ov m pl)
      callWith pos f first (backTo pos (starEach (e :: es) X.env)) (backToKw pos (keywordEach [] X.env))) := by rfl) :
    PE X (.Call (.Attribute o m apos) (e :: es) [] pos) (SX X W (iMethX C m F go fs)) := by
  obtain ⟨f, fd, hm, hb, hf⟩ := h
  refine PE.imp (pe_methG (E := WE W) ho T.c hm (fun pnz σ H s Q us vs I r q => run_fnGX hf hr hn hb (passAt tk σ) I r q) ha hst hpl ht) fun S H Q ⟨env, ah, η, en, pk, h⟩ => ⟨env, ah, η, en, pk, h.bind.imp0 fun x η1 H1 ah1 m1 p1 q1 => fun v rv => ?_⟩
  obtain ⟨n, a, dx, vs, rfl, rfl, hη, h1, h2, q2⟩ := ins_at (R := .bad) p1 rv q1
  refine ⟨a, dx, vs, rfl, h1, h2, env, ah1, η1, en.mv m1, p1, ?_⟩
  revert q2
  cases e1 : iArgs fs env ah1 with
  | ok ds ah2 =>
    intro q2
    rw [Res.bind_ok] at q2
    intro η2 H2 m2 p2 us rs
    refine ⟨.ref n :: ds, ah2, η2, by rw [List.length_cons, args_len _ _ _ _ _ e1]; exact hl, .cons (rv.mv m2) rs, p2, ?_⟩
    revert q2
    cases F (.ref n :: ds) ah2 with
    | ok d ah3 => exact fun h' η' H' m' p' => h' η' H' (m2.trans m') p'
    | exc x e2 ah3 => exact fun h' η' H' d S' m' p' q n _ => h' η' H' d S (m2.trans m') p' q (m2.fresh n) ((en.mv m1).mv (m2.trans m'))
    | bad => exact id
  | exc x e ah1 => exact fun h => h
  | bad => exact fun h => h
end
theorem OkMX.calm {P : Program} {w : World} {K : PySem.W.Frag} {mg : Str → Option Value} {base : Heap} {C m : Str} {k : Nat} {ps : List Str} {F : List D → AH → Res D} (h : OkMX P w K mg base C m k ps F) : OkM P w K mg base C m k ps F := by
  obtain ⟨f, fd, h1, h3, h4⟩ := h
  refine ⟨f, fd, h1, h3, ⟨fun xs H Q E h => spN_len xs H Q E h, fun A out s H as us xs Q E hr hn e0 b r ⟨args, ah, η, hl, r2, p, q⟩ => ?_⟩⟩
  refine codeAny_mono (h4.go A out s H as us xs Q (fun _ _ _ => False) hr hn e0 b r ⟨args, ah, η, hl, r2, p, q⟩) fun rs s' hq => ?_
  match rs, hq with
  | .error e, hq =>
    obtain ⟨_, _, _, _, _, _, _, _, _, _, _, _, z⟩ := hq
    exact z.elim
  | .ok (.ret u), hq => exact hq
  | .ok .next, hq => exact hq
  | .ok .brk, hq => exact hq
  | .ok .cont, hq => exact hq
/-- C(e, ..) -/
def iNew (C : Str) (F : List D → AH → Res D) (fs : List FE) : FE := fun env ah => (iArgs fs env ah).bind fun ds ah1 => match F (.ref ah1.length :: ds) (ah1 ++ [.ins C []]) with
  | .ok .non ah2 => .ok (.ref ah1.length) ah2
  | _ => .bad
section
variable {X : Cx} {W : XW} {CX : CXT} {k : Nat} {C f : Addr} {fd : FuncData} {ps : List Str} {sp : Sp} {E : XK} {x : Str} {e : Expr} {es : List Expr} {t : TA} {p pos : Pos}
theorem run_makeG {pins : List (Addr × Obj)} {σ : L2.St} {H : Hp} {s : Shared} {Q : VK} {us : List Value} {vs : List V} (M : Mk X.K C f) (F : FnG X.prog X.w X.K X.mg X.base CX k f fd ps sp) (hr : Room (k + 1) X.A) (hn : NoRepr X.A) (hb : Binds X.K fd ps [])
    (hx : Passes CX X E) (I : Inv X pins σ H s) (r : Vals vs us)
    (h : ∀ x dx, H x = none → H dx = none → dx ≠ x → sp (.ref x :: vs) (upd (upd H dx (.own x)) x (.ins C dx [])) (fun v H2 => v = .non ∧ Q (.ref x) H2) E) :
    wpAny (model X.prog X.w) X.A (call (.ref C) us) (EP X pins σ Q) X.xe s := by
  have hq := h (s.heap.objs.size + 1) s.heap.objs.size (I.hok.fresh (Nat.le_succ _)) (I.hok.fresh (Nat.le_refl _)) (Nat.ne_of_lt (Nat.lt_succ_self _))
  have I2 := Inv.made (C := C) I
  have r2 : Vals (V.ref (s.heap.objs.size + 1) :: vs) (Value.ref (s.heap.objs.size + 1) :: us) := .cons rfl r
  have hl : (Value.ref (s.heap.objs.size + 1) :: us ++ []).length = ps.length := by
    have e := r2.length
    rw [F.len _ _ _ _ hq] at e
    rw [List.append_nil]
    exact e.symm
  have bb := hb _ (Value.ref (s.heap.objs.size + 1) :: us) I2.kIn hl
  rw [List.append_nil] at bb
  refine wpAny_call (make_map (f := f) I.kIn M.makes M.init (beq_iff_eq.mp M.fn) (codeAny_mono (F.go _ X.stack _ _ ⟨Value.ref (s.heap.objs.size + 1) :: us, []⟩ (Value.ref (s.heap.objs.size + 1) :: us) _ _ E (hr.make C us []) hn
    (I2.env0.make C us []) bb r2 hq) fun r s' hq' => ?_))
  cases r with
  | error e => exact hx pins σ _ _ e s' I2 hq'
  | ok fl =>
    cases fl with
    | ret u =>
      obtain ⟨v, H', I3, rv, ev, q3⟩ := I2.after hq'
      subst ev
      exact ⟨rv, ⟨V.ref (s.heap.objs.size + 1), H', I3, rfl, q3⟩⟩
    | next => exact False.elim hq'
    | brk => exact False.elim hq'
    | cont => exact False.elim hq'
theorem pe_makeG (M : Mk X.K C f) (F : FnG X.prog X.w X.K X.mg X.base CX k f fd ps sp) (hr : Room (k + 1) X.A) (hn : NoRepr X.A) (hg : Gl X x) (hm : X.mg x = some (.ref C)) (hb : Binds X.K fd ps []) (hx : Passes CX X E)
    (ha : PA X (e :: es) t) (hdb : (x == ("__debug__" : Str)) = false := by decide) (he : starEach (e :: es) X.env = (false, eval e X.env) :: starEach es X.env := by rfl) (hpl : (backTo pos (starEach es X.env)).any (·.1) = false := by rfl) :
    PE X (.Call (.Name x p) (e :: es) [] pos) (fun σ H Q => t σ H fun vs H1 => ∀ x dx, H1 x = none → H1 dx = none → dx ≠ x → sp (.ref x :: vs) (upd (upd H1 dx (.own x)) x (.ins C dx [])) (fun v H2 => v = .non ∧ Q (.ref x) H2) E) := by
  refine ⟨fun pins s σ H Q I h => ?_⟩
  refine wpAny_Call_Name_kw (ld_glob I hg hm ?_ hdb)
  refine PySem.W.callWith_K (h₀ := X.base) I.ok.mod.kin M.kp (thn (ha.run pos pins s σ H _ I h) fun us s1 ⟨vs, H1, I1, r, q⟩ => ⟨I1.kIn, ?_⟩) he hpl
  exact run_makeG M F hr hn hb hx I1 r q
theorem OkM.new {CN : Str} {ps fds : List Str} {F : List D → AH → Res D} {fs : List FE} (T : ClsJ X.K (He.ga X.K CN) fds) (h : OkM X.prog X.w X.K X.mg X.base CN "__init__" k ps F) (hr : Room (k + 1) X.A) (hn : NoRepr X.A) (hg : Gl X CN) (hm : X.mg CN = some (.ref (He.ga X.K CN))) (hl : fs.length + 1 = ps.length) (ha : PA X (e :: es) (AX' X W fs))
    (hdb : (CN == ("__debug__" : Str)) = false := by decide) (he : starEach (e :: es) X.env = (false, eval e X.env) :: starEach es X.env := by rfl) (hpl : (backTo pos (starEach es X.env)).any (·.1) = false := by rfl) :
    PE X (.Call (.Name CN p) (e :: es) [] pos) (SX X W (iNew CN F fs)) := by
  obtain ⟨f, fd, hM, hb, hf⟩ := h
  refine PE.imp (pe_makeG (E := fun _ _ _ => False) ⟨T.makes, hM.at_, hM.fn, T.kp⟩ hf hr hn hg hm hb pass0 ha hdb he hpl) fun S H Q ⟨env, ah, η, en, pk, h⟩ => ⟨env, ah, η, en, pk, ?_⟩
  have h' : Post (gX X) W η H ((iArgs fs env ah).bind fun ds ah1 => match F (.ref ah1.length :: ds) (ah1 ++ [.ins CN []]) with
    | .ok .non ah2 => .ok (.ref ah1.length) ah2
    | _ => .bad) (QV (gX X) Q) := h
  revert h'
  cases e1 : iArgs fs env ah with
  | ok ds ah1 =>
    intro h'
    rw [Res.bind_ok] at h'
    intro η1 H1 m1 p1 vs rs x dx hx hdx hne
    have s1 : Same H1 (upd H1 dx (.own x)) := same_new hdx
    have p2 := p1.same s1
    have hx2 : upd H1 dx (.own x) x = none := by rw [upd_ne (Ne.symm hne)]; exact hx
    have m3 : Mv η1 H1 (η1 ++ [x]) (upd (upd H1 dx (.own x)) x (.ins (He.ga X.K CN) dx [])) := (Mv.same s1).trans (Mv.made hx2)
    have p3 : HpOk (gX X) (η1 ++ [x]) (upd (upd H1 dx (.own x)) x (.ins (He.ga X.K CN) dx [])) (ah1 ++ [.ins CN []]) := p2.new hx2 ⟨dx, [], upd_same, rfl, .nil⟩
    have rx : Rel (gX X) (η1 ++ [x]) (upd (upd H1 dx (.own x)) x (.ins (He.ga X.K CN) dx [])) (.ref ah1.length) (.ref x) := .ref (by rw [← p1.len]; simp)
    refine ⟨.ref ah1.length :: ds, ah1 ++ [.ins CN []], η1 ++ [x], by rw [List.length_cons, args_len _ _ _ _ _ e1]; exact hl, .cons rx (rs.mv m3), p3, ?_⟩
    revert h'
    cases F (.ref ah1.length :: ds) (ah1 ++ [.ins CN []]) with
    | ok d ah3 =>
      cases d with
      | non =>
        intro h' η' H' m' p' v rv
        cases rv
        exact ⟨rfl, h' η' H' (m1.trans (m3.trans m')) p' _ (rx.mv m')⟩
      | _ => exact fun h' => h'.elim
    | exc x e2 ah3 => exact fun h' => h'.elim
    | bad => exact fun h' => h'.elim
  | exc x e ah1 => exact id
  | bad => exact id
end
/-- e.f as a target -/
def gFld (K : PySem.W.Frag) (ta : TE) (f : Str) : TG := fun y σ H Q => ta σ H fun x H2 => ∃ a C dx fs, x = .ref a ∧ H2 a = some (.ins C dx fs) ∧ Cls K C ∧ NoAttr K C f ∧ fs.length < 1000 ∧ Q σ (upd H2 a (.ins C dx (putF f y fs)))
theorem pg_fld {X : Cx} {o : Expr} {ta : TE} {f : Str} {pos : Pos} (ho : PE X o ta)
    (ha : ∀ v, assign (.Attribute o f pos) X.env v = (do
      let ov ← holding [v] (eval o X.env)
      standAt pos.atName
      holding [v, ov] (setAttr ov f v)
      release [v, ov] []) := by intro _; rfl) : PG X (.Attribute o f pos) (gFld X.K ta f) := by
  refine ⟨fun pins s σ H v u Q I r h => ?_⟩
  rw [ha]
  refine wpAny_bind (wpAny_holding (thn (ho.run pins s σ H _ I h) fun ov s1 ⟨x, H1, I1, r1, a, C, dx, fs, ex, ea, c, n, l, q⟩ => ?_))
  subst ex
  obtain rfl : ov = Value.ref a := r1
  refine wpAny_bind (wpAny_standAt (wpAny_bind (wpAny_holding (setattr_ok I1 ea c n l r fun s3 I3 => ?_))))
  exact wpAny_release ⟨σ, _, I3, q⟩
/-- one field is set -/
def setF (C f : Str) (x d : D) (ah : AH) : Option AH := match x with
  | .ref n => match ah[n]? with
    | some (.ins C' fs) => if C' = C ∧ fs.length < 999 then some (ah.set n (.ins C (putA f d fs))) else none
    | _ => none
  | _ => none
def sSetF2 (C1 f1 C2 f2 : Str) (fo fp f : FE) : FS := fun env ah => (f env ah).bind fun e ah1 => match e with
  | .tup [x, y] => (fo env ah1).bind fun o ah2 => match setF C1 f1 o x ah2 with
    | some ah3 => (fp env ah3).bind fun p ah4 => match setF C2 f2 p y ah4 with
      | some ah5 => .ok (.nx, env) ah5
      | none => .bad
    | none => .bad
  | _ => .bad
theorem setF_ok {G : KW} {η : List Addr} {H : Hp} {ah ah' : AH} {C f : Str} {x d : D} {v u : V} (p : HpOk G η H ah) (rx : Rel G η H x v) (rd : Rel G η H d u) (h : setF C f x d ah = some ah') : ∃ a dx vs, v = .ref a ∧ H a = some (.ins (He.ga G.K C) dx vs) ∧ vs.length < 1000 ∧ Mv η H η (upd H a (.ins (He.ga G.K C) dx (putF f u vs))) ∧ HpOk G η (upd H a (.ins (He.ga G.K C) dx (putF f u vs))) ah' := by
  unfold setF at h
  cases rx with
  | ref hn =>
    rename_i n a
    obtain ⟨ob, ho, ok⟩ := p.at hn
    simp only [ho] at h
    cases ob with
    | ins C' gs =>
      obtain ⟨dx, vs, h1, h2, h3⟩ := ok
      simp only at h
      split at h
      · rename_i ec
        obtain ⟨eC, hl⟩ := ec
        subst eC
        cases h
        have lv : vs.length = gs.length := by
          have := congrArg List.length h2
          rwa [List.length_map, List.length_map] at this
        obtain ⟨k1, k2⟩ := put_rel (f := f) rd h2 h3
        have m : Mv η H η (upd H a (.ins (He.ga G.K C') dx (putF f u vs))) := .upd (List.mem_of_getElem? hn) h1 (fun _ z => nomatch z) (fun _ _ z => nomatch z)
        exact ⟨a, dx, vs, rfl, h1, by omega, m, p.put hn h1 (fun _ z => nomatch z) (fun _ _ z => nomatch z) ⟨dx, _, upd_same, k1, k2.mv m⟩⟩
      · cases h
    | _ => cases h
  | _ => cases h
section
variable {X : Cx} {W : XW}
theorem s_setF2 {o p e : Expr} {fo fp f : FE} {C1 f1 C2 f2 : Str} {fs1 fs2 : List Str} {kk : Nat} {pos pos1 pos2 pos3 : Pos} (hc : X.calm = true) (T1 : ClsJ X.K (He.ga X.K C1) fs1) (T2 : ClsJ X.K (He.ga X.K C2) fs2) (ho : PE X o (SX X W fo)) (hp : PE X p (SX X W fp)) (he : PE X e (SX X W f)) (m1 : f1 ∈ fs1 := by decide) (m2 : f2 ∈ fs2 := by decide)
    (ha1 : ∀ v, assign (.Attribute o f1 pos1) X.env v = (do
      let ov ← holding [v] (eval o X.env)
      standAt pos1.atName
      holding [v, ov] (setAttr ov f1 v)
      release [v, ov] []) := by intro _; rfl)
    (ha2 : ∀ v, assign (.Attribute p f2 pos2) X.env v = (do
      let ov ← holding [v] (eval p X.env)
      standAt pos2.atName
      holding [v, ov] (setAttr ov f2 v)
      release [v, ov] []) := by intro _; rfl)
    (g1 : (assignEach [.Attribute o f1 pos1, .Attribute p f2 pos2] X.env).map (·.2) = assign (.Attribute o f1 pos1) X.env :: (assignEach [.Attribute p f2 pos2] X.env).map (·.2) := by rfl)
    (g2 : (assignEach [.Attribute p f2 pos2] X.env).map (·.2) = assign (.Attribute p f2 pos2) X.env :: (assignEach [] X.env).map (·.2) := by rfl)
    (hn : (assignEach [.Attribute o f1 pos1, .Attribute p f2 pos2] X.env).length = 2 := by rfl) (hst : (assignEach [.Attribute o f1 pos1, .Attribute p f2 pos2] X.env).findIdx? (·.1) = none := by rfl)
    (hs : swapsWithSole [.Tuple [.Attribute o f1 pos1, .Attribute p f2 pos2] kk pos3] e pos.line X.env = pure false := by rfl) (hw : swappedStores [.Tuple [.Attribute o f1 pos1, .Attribute p f2 pos2] kk pos3] e X.env = pure none := by rfl)
    (h1 : (assignEach [.Tuple [.Attribute o f1 pos1, .Attribute p f2 pos2] kk pos3] X.env).map (·.2) = [assign (.Tuple [.Attribute o f1 pos1, .Attribute p f2 pos2] kk pos3) X.env] := by rfl) :
    PS X (.Assign [.Tuple [.Attribute o f1 pos1, .Attribute p f2 pos2] kk pos3] e pos) (SSX X W (sSetF2 C1 f1 C2 f2 fo fp f)) :=
  PS.imp (ps_asg he (pg_tup hc (pgs_cons (pg_fld ho ha1) (pgs_cons (pg_fld hp ha2) pgs_nil g2) g1) hn hst) hs hw h1) fun Dn S H ⟨env, ah, η, en, pk, h⟩ => by
    refine ⟨env, ah, η, en, pk, h.bind.imp0 fun d η1 H1 ah1 n1 p1 q1 => fun v rvv => ?_⟩
    split at q1
    · cases rvv with
      | tup ht r =>
        cases r with
        | cons rx r =>
          cases r with
          | cons ry r =>
            cases r
            refine ⟨_, _, rfl, .inl (.inl ht), rfl, _, _, rfl, env, ah1, η1, en.mv n1, p1, q1.bind.imp0 fun x η2 H2 ah2 n2 p2 q2 => fun w rw' => ?_⟩
            split at q2
            · rename_i ah3 e3
              obtain ⟨a, dx, vs, rfl, k1, k2, k3, k4⟩ := setF_ok p2 rw' (rx.mv n2) e3
              have q3 : Post (gX X) W η2 _ ((fp env ah3).bind fun p ah4 => match setF C2 f2 p _ ah4 with
                | some ah5 => .ok (.nx, env) ah5
                | none => .bad) (QS (gX X) Dn) := Post.mono q2 k3
              refine ⟨a, _, dx, vs, rfl, k1, T1.c, T1.no _ m1, k2, _, _, rfl, env, ah3, η2, ((en.mv n1).mv n2).mv k3, k4, q3.bind.imp0 (fun y η4 H4 ah4 n4 p4 q4 => fun u ru => ?_)⟩
              split at q4
              · rename_i ah5 e5
                obtain ⟨a2, dx2, vs2, rfl, j1, j2, j3, j4⟩ := setF_ok p4 ru (((ry.mv n2).mv k3).mv n4) e5
                exact ⟨a2, _, dx2, vs2, rfl, j1, T2.c, T2.no _ m2, j2, rfl, q4 η4 _ j3 j4 S (((((en.mv n1).mv n2).mv k3).mv n4).mv j3)⟩
              · exact q4.elim
            · exact q2.elim
    · exact q1.elim
theorem RelAll.dropLast {G : KW} {η : List Addr} {H : Hp} : ∀ {ds : List D} {vs : List V}, RelAll G η H ds vs → RelAll G η H ds.dropLast vs.dropLast
  | _, _, .nil => .nil
  | _, _, .cons r .nil => .nil
  | _, _, .cons r (.cons r2 rr) => .cons r (RelAll.dropLast (.cons r2 rr))
def oPop0 (x : D) (ah : AH) : Res D := match x with
  | .ref n => match ah[n]? with
    | some (.lst ds) => match ds[ds.length - 1]? with
      | some d => .ok d (ah.set n (.lst ds.dropLast))
      | none => .bad
    | _ => .bad
  | _ => .bad
def iPop0 (fo : FE) : FE := fun env ah => (fo env ah).bind fun x ah1 => oPop0 x ah1
theorem j_pop0 {o : Expr} {fo : FE} {apos cpos : Pos} (ho : PE X o (SX X W fo)) (hbase : attributeBase o "pop" X.env (eval o X.env) = eval o X.env := by rfl) (hline : (apos.endLine == cpos.line) = true := by rfl) :
    PE X (.Call (.Attribute o "pop" apos) [] [] cpos) (SX X W (iPop0 fo)) :=
  PE.imp (pe_bm0 PySem.F.plainAttrs_list PySem.F.slot_list_pop PySem.F.type_list_pop mt_pop ho hbase hline) fun S H Q ⟨env, ah, η, en, pk, h⟩ => by
    refine ⟨env, ah, η, en, pk, h.bind.imp0 fun x η1 H1 ah1 m1 p1 q1 => fun v rvv => ?_⟩
    unfold oPop0 at q1
    cases rvv with
    | ref hn =>
      rename_i n a
      obtain ⟨ob, ho, ok⟩ := p1.at hn
      simp only [ho] at q1
      cases ob with
      | lst ds =>
        obtain ⟨vs, k1, r1⟩ := ok
        simp only at q1
        split at q1
        · rename_i d ed
          obtain ⟨y, hy, ry⟩ := r1.get ed
          rw [r1.length] at hy
          have m : Mv η1 H1 η1 (upd H1 a (.lst vs.dropLast)) := .upd (List.mem_of_getElem? hn) k1 (fun _ z => nomatch z) (fun _ _ z => nomatch z)
          exact ⟨.inl ⟨rfl, vs, .inl (.inl k1)⟩, a, vs, y, rfl, rfl, k1, hy, q1 η1 _ m (p1.put hn k1 (fun _ z => nomatch z) (fun _ _ z => nomatch z) ⟨_, upd_same, (RelAll.dropLast r1).mv m⟩) _ (ry.mv m)⟩
        · exact q1.elim
      | _ => exact q1.elim
    | _ => exact q1.elim
end
def mkM (C m : Str) (st : Stmt) : He.DefD := ⟨(C, some m), m, C ++ "." ++ m, defArgs st, defBody st, defScope st, [], []⟩
theorem meth_at {fa : List He.Fa} {fn : List He.DefD} {ts : List He.Tab} {tf : List He.Defn} {ex : PySem.W.Frag → Bool} {w : World} {K : PySem.W.Frag} {h : Heap} (c : He.SaysX fa fn ts tf ex w h K) {C m : Str} {st : Stmt} (i : Nat) (e1 : fn[i]? = some (mkM C m st)) : ∃ fd, Fun K m (C ++ "." ++ m) st (He.ma K (He.ga K C) m) fd := by
  obtain ⟨fd, ⟨oc, od, dV, kV, doc, pm, an, cd, ct, sl, e, lk, co, hd, -⟩, kp⟩ := c.t.d.def_ i e1
  have z : dV = .none := by
    rcases hd with ⟨-, q⟩ | ⟨q, -⟩
    · exact q
    · exact absurd rfl q
  subst z
  exact ⟨fd, ⟨⟨oc, od, kV, doc, pm, an, cd, ct, sl, e, lk, co⟩, kp⟩⟩
end DL
namespace DL
open PySem PySem.Spec PyProof.Rows L2
def adT (K : PySem.W.Frag) (x z : Str) : Addr := match PySem.W.nsIn K (He.ga K x) z with
  | some (some (.ref a)) => a
  | _ => 0
def tupA (K : PySem.W.Frag) (a : Addr) (vs : List He.Dv) : Bool := match K.lookup a with
  | some ⟨.type c, d, .seq its _, _⟩ => decide (c = "tuple") && (decide (its.size ≤ sizeLine) && (He.relAll (vs.map (He.Dv.v K)) its.toList && d.isNone))
  | _ => false
def tabTB (K : PySem.W.Frag) (x : Str) (kvs : List (Str × List Lit)) : Bool := He.valsB K (He.ga K x) (kvs.map fun q => (q.1, .adr fun K => adT K x q.1)) && kvs.all fun q => tupA K (adT K x q.1) (q.2.map Lit.dv)
theorem tupA_ok {K : PySem.W.Frag} {w : World} {η : List Addr} {H : Hp} {a : Addr} {ls : List Lit} (h : tupA K a (ls.map Lit.dv) = true) : Rel ⟨K, w⟩ η H (.ct (ls.map Lit.d)) (.ref a) := by
  refine .ct (vs := ls.map fun l => l.dv.v K) (.inl ?_) (lits_rel (G := ⟨K, w⟩) ls)
  unfold tupA at h
  cases q : K.lookup a with
  | none => rw [q] at h; cases h
  | some o =>
    obtain ⟨oc, od, dt, osl⟩ := o
    rw [q] at h
    cases oc with
    | type c =>
      cases dt with
      | seq its n =>
        obtain ⟨h1, h2⟩ := He.ba h
        obtain ⟨h3, h4⟩ := He.ba h2
        obtain ⟨h5, h6⟩ := He.ba h4
        have r := He.relAll_ok h5
        rw [List.map_map] at r
        exact ⟨⟨.type c, od, .seq its n, osl⟩, its, n, rfl, congrArg Value.type (of_decide_eq_true h1), rfl, of_decide_eq_true h3, r, Option.isNone_iff_eq_none.mp h6⟩
      | _ => cases h
    | _ => cases dt <;> cases h
theorem tups_rel {K : PySem.W.Frag} {w : World} {η : List Addr} {H : Hp} {x : Str} : ∀ {kvs : List (Str × List Lit)}, (∀ q ∈ kvs, tupA K (adT K x q.1) (q.2.map Lit.dv) = true) → RelAll ⟨K, w⟩ η H (kvs.map fun q => .ct (q.2.map Lit.d)) (kvs.map fun q => .ref (adT K x q.1))
  | [], _ => .nil
  | q :: kvs, h => .cons (tupA_ok (h q List.mem_cons_self)) (tups_rel fun z hz => h z (List.mem_cons_of_mem _ hz))
section
variable {fa : List He.Fa} {fn : List He.DefD} {ts : List He.Tab} {tf : List He.Defn} {ex : PySem.W.Frag → Bool} {w : World} {K : PySem.W.Frag} {h : Heap} {mg : Str → Option Value}
theorem kon_tabT (c : He.SaysX fa fn ts tf ex w h K) (X : K.In h) (G : h.Ns mainGlobals mg) {x : Str} {kvs : List (Str × List Lit)} (j i : Nat) (e : fa[j]? = some (.glo x)) (e2 : ts[i]? = some (fun K => He.ga K x, kvs.map (·.1))) (e3 : tabTB K x kvs = true) :
    KonOk w K mg x (.cd (kvs.map (·.1)) (kvs.map fun q => .ct (q.2.map Lit.d))) := by
  obtain ⟨es, n, q1, q2, q3⟩ := c.t.tab i e2
  obtain ⟨z1, z2⟩ := He.ba e3
  refine ⟨_, .ref (He.ga K x), He.glo_ok X G (c.t.d.fact j e), rfl, fun η H => .cd (vs := kvs.map fun q => .ref (adT K x q.1)) (fun i z v h1 h2 => ?_) (by simp) (tups_rel (List.all_eq_true.mp z2))⟩
  rw [List.getElem?_map] at h1 h2
  obtain ⟨p, hp, rfl⟩ := Option.map_eq_some_iff.mp h1
  rw [hp] at h2
  cases h2
  obtain ⟨u, u1, u2⟩ := He.valsB_ok z1 (List.mem_map.mpr ⟨p, List.mem_of_getElem? hp, rfl⟩)
  exact ⟨es, n, u, q1, q2, u1, u2⟩
end
end DL
namespace DL
open PySem PySem.Spec PyProof.Rows L2
section
variable {X : Cx} {G : KW} {W : XW}
def oStrA (ds : List D) (ah : AH) : Res D := match ds with
  | [.int i] => if i.natAbs.log2 < 1920 then .ok (.str (toString i)) ah else .bad
  | [.str x] => .ok (.str x) ah
  | _ => .bad
def rStrA : List V → Hp → VK → Prop := fun xs H Q => (∃ i, xs = [.int i] ∧ i.natAbs.log2 < 1920 ∧ Q (.str (toString i)) H) ∨ ∃ a, xs = [.str a] ∧ Q (.str a) H
theorem call_strA : CallR X (.type "str") rStrA := by
  intro pins s σ H xs us Q I r h
  rcases h with h | h
  · exact call_str_int pins s σ H xs us Q I r h
  · exact SkE.call_str_str pins s σ H xs us Q I r h
theorem ok_strA : CaOk G W rStrA oStrA := by
  intro η H ah ds vs Q p r h
  unfold oStrA at h
  split at h
  · obtain ⟨v, rfl, rx⟩ := relL1 r
    cases rx
    split at h
    · exact .inl ⟨_, rfl, by assumption, post_val p (.str _) h⟩
    · exact h.elim
  · obtain ⟨v, rfl, rx⟩ := relL1 r
    cases rx
    exact .inr ⟨_, rfl, post_val p (.str _) h⟩
  · exact h.elim
end
end DL
namespace DZ
open PySem
section
variable {prog : Program} {w : World} {A : Around} {E : Value → Shared → Prop} {s : Shared} {z TI TO T i1 i2 : Addr} {fp1 fp2 : List Addr} {n1 n2 i : Nat} {P1 P2 : Nat → Value → Prop} {St1 St2 : Nat → Heap → Prop} {f : Bool} {oT : Obj}
theorem zipD2_item_held {Q : Value → Shared → Prop} (S : ZipSep2 z TI TO i1 i2 fp1 fp2) (D1 : Draws prog w A i1 fp1 n1 P1 St1) (D2 : Draws prog w A i2 fp2 n2 P2 St2)
    (hz : IsZipHeld s.heap z TI TO T f) (hT : s.heap.get? T = some oT) (hTI : IsTupOf2 s.heap TI (.ref i1) (.ref i2)) (st1 : St1 i s.heap) (st2 : St2 i s.heap) (hlt1 : i < n1) (hlt2 : i < n2)
    (hQ : ∀ x1 x2 h' tk, P1 i x1 → P2 i x2 → IsZipHeld h' z TI TO T true → St1 (i + 1) h' → St2 (i + 1) h' → IsTupOf2 h' s.heap.objs.size x1 x2 → h'.objs.size = s.heap.objs.size + 1 →
      (∀ c o, c ≠ z → c ≠ i1 → c ≠ i2 → s.heap.get? c = some o → h'.get? c = some o) → Q (.ref s.heap.objs.size) { s with heap := h', toks := tk }) :
    wpAny (model prog w) A (Builtin.«zip.__next__» ⟨[.ref z], []⟩) (fun fin s' => ∃ v, fin = .done (.ret v) ∧ Q v s') E s := by
  obtain ⟨hp, g, d, tk0, os⟩ := s
  show wpAny _ _ (field (.ref z) 2 >>= _) _ _ _
  refine wpAny_bind (wpAny_field hz rfl (x := .bool false) rfl ?_)
  show wpAny _ _ (field (.ref z) 3 >>= _) _ _ _
  refine wpAny_bind (wpAny_field hz rfl (x := .ref TI) rfl ?_)
  refine wpAny_bind (wpAny_seqItems hTI rfl ?_)
  show wpAny _ _ (Builtin.SmallTypes.ownedTupleIsFree (.ref z) >>= _) _ _ _
  refine wpAny_bind (wpAny_tupleHeld_zip hz hT fun g0 hz0 hs0 => ?_)
  replace hs0 : Heap.SameBut z hp g0 := hs0
  simp only [Bool.false_eq_true, if_false]
  refine wpAny_bind ?_
  rw [← Array.forIn_toList]
  simp only [List.forIn_cons, List.forIn_nil]
  refine wpAny_bind (wpAny_bind (wpAny_holding ?_))
  show wpAny _ _ (Builtin.SmallTypes.nextOf (.ref i1) >>= _) _ _ ⟨g0, g, d, tk0, os⟩
  refine wpAny_bind (D1.item i _ _ _ hlt1 (D1.over st1 hs0 S.zf1) fun x1 p1 tk1 hx1 sn1 hp1 => wpAny_pure ?_)
  replace hp1 : Heap.SameBut i1 g0 p1 := hp1
  refine wpAny_pure ?_
  refine wpAny_bind (wpAny_bind (wpAny_holding ?_))
  show wpAny _ _ (Builtin.SmallTypes.nextOf (.ref i2) >>= _) _ _ ⟨p1, g, d, tk1, os⟩
  refine wpAny_bind (D2.item i _ _ _ hlt2 (D2.over (D2.over st2 hs0 S.zf2) hp1 S.sep1_2) fun x2 p2 tk2 hx2 sn2 hp2 => wpAny_pure ?_)
  replace hp2 : Heap.SameBut i2 p1 p2 := hp2
  refine wpAny_pure (wpAny_pure ?_)
  show wpAny _ _ (newTuple [x1, x2] >>= _) _ _ ⟨p2, g, d, tk2, os⟩
  refine wpAny_bind (wpAny_newTuple ?_)
  have hsz : p2.objs.size = hp.objs.size := by rw [hp2.1, hp1.1, hs0.1]
  have hz3 : IsZipHeld p2 z TI TO T true := hp2.extBut _ _ S.zi2 (hp1.extBut _ _ S.zi1 hz0)
  have hk : ∀ c o, c ≠ z → c ≠ i1 → c ≠ i2 → hp.get? c = some o → p2.get? c = some o := fun c o c1 c2 c3 e => hp2.extBut _ _ c3 (hp1.extBut _ _ c2 (hs0.extBut _ _ c1 e))
  have hj1 : St1 (i + 1) p2 := D1.over sn1 hp2 S.sep2_1
  have up : ∀ c o, p2.get? c = some o → (p2.push { cls := .type "tuple", data := .seq #[x1, x2] }).get? c = some o := fun c o e => Heap.get?_push_of_some _ e
  refine wpAny_pure ⟨_, rfl, ?_⟩
  show Q (.ref p2.objs.size) _
  have hpp : IsTupOf2 (p2.push { cls := .type "tuple", data := .seq #[x1, x2] }) p2.objs.size x1 x2 := Heap.get?_push_size _ rfl
  have hz4 : (p2.push { cls := .type "tuple", data := .seq #[x1, x2] }).objs.size = p2.objs.size + 1 := Heap.size_push ..
  rw [hsz] at hpp hz4 ⊢
  exact hQ x1 x2 _ tk2 hx1 hx2 (up _ _ hz3) (D1.frame _ _ _ hj1 fun b hb o e => up b o e) (D2.frame _ _ _ sn2 fun b hb o e => up b o e) hpp hz4 fun c o c1 c2 c3 e => up c o (hk c o c1 c2 c3 e)
theorem zipD2_end_held {Q : Fin → Shared → Prop} (S : ZipSep2 z TI TO i1 i2 fp1 fp2) (D1 : Draws prog w A i1 fp1 n1 P1 St1) (D2 : Draws prog w A i2 fp2 n2 P2 St2)
    (hz : IsZipHeld s.heap z TI TO T f) (hT : s.heap.get? T = some oT) (hTI : IsTupOf2 s.heap TI (.ref i1) (.ref i2)) (st1 : St1 i s.heap) (st2 : St2 i s.heap) (hle1 : i ≤ n1) (hle2 : i ≤ n2) (hend : i = n1 ∨ i = n2)
    (hE : ∀ h' tk e, (∀ c o, c ≠ z → c ≠ i1 → c ≠ i2 → s.heap.get? c = some o → h'.get? c = some o) → (∃ o, h'.get? e = some o ∧ o.cls = .type "StopIteration") → E (.ref e) { s with heap := h', toks := tk }) :
    wpAny (model prog w) A (Builtin.«zip.__next__» ⟨[.ref z], []⟩) Q E s := by
  obtain ⟨hp, g, d, tk0, os⟩ := s
  show wpAny _ _ (field (.ref z) 2 >>= _) _ _ _
  refine wpAny_bind (wpAny_field hz rfl (x := .bool false) rfl ?_)
  show wpAny _ _ (field (.ref z) 3 >>= _) _ _ _
  refine wpAny_bind (wpAny_field hz rfl (x := .ref TI) rfl ?_)
  refine wpAny_bind (wpAny_seqItems hTI rfl ?_)
  show wpAny _ _ (Builtin.SmallTypes.ownedTupleIsFree (.ref z) >>= _) _ _ _
  refine wpAny_bind (wpAny_tupleHeld_zip hz hT fun g0 hz0 hs0 => ?_)
  replace hs0 : Heap.SameBut z hp g0 := hs0
  simp only [Bool.false_eq_true, if_false]
  refine wpAny_bind ?_
  rw [← Array.forIn_toList]
  simp only [List.forIn_cons, List.forIn_nil]
  refine wpAny_bind (wpAny_bind (wpAny_holding ?_))
  show wpAny _ _ (Builtin.SmallTypes.nextOf (.ref i1) >>= _) _ _ ⟨g0, g, d, tk0, os⟩
  by_cases hlt1 : i < n1
  · refine wpAny_bind (D1.item i _ _ _ hlt1 (D1.over st1 hs0 S.zf1) fun x1 p1 tk1 hx1 sn1 hp1 => wpAny_pure ?_)
    replace hp1 : Heap.SameBut i1 g0 p1 := hp1
    refine wpAny_pure ?_
    refine wpAny_bind (wpAny_bind (wpAny_holding ?_))
    show wpAny _ _ (Builtin.SmallTypes.nextOf (.ref i2) >>= _) _ _ ⟨p1, g, d, tk1, os⟩
    have hi2 : i = n2 := by omega
    refine wpAny_bind (D2.done ⟨p1, g, d, tk1, os⟩ _ _ (by rw [← hi2]; exact D2.over (D2.over st2 hs0 S.zf2) hp1 S.sep1_2) fun q e hq he => ?_)
    replace hq : Heap.ExtBut i2 p1 q := hq
    exact hE q tk1 e (fun c o c1 c2 c3 x => hq _ _ c3 (hp1.extBut _ _ c2 (hs0.extBut _ _ c1 x))) he
  · have hi1 : i = n1 := by omega
    refine wpAny_bind (D1.done ⟨g0, g, d, tk0, os⟩ _ _ (by rw [← hi1]; exact D1.over st1 hs0 S.zf1) fun q e hq he => ?_)
    replace hq : Heap.ExtBut i1 g0 q := hq
    exact hE q tk0 e (fun c o c1 c2 c3 x => hq _ _ c2 (hs0.extBut _ _ c1 x)) he
theorem next_item_held {Q : Option Value → Shared → Prop} (S : ZipSep2 z TI TO i1 i2 fp1 fp2) (D1 : Draws prog w A.in1 i1 fp1 n1 P1 St1) (D2 : Draws prog w A.in1 i2 fp2 n2 P2 St2)
    (hz : IsZipHeld s.heap z TI TO T f) (hT : s.heap.get? T = some oT) (hTI : IsTupOf2 s.heap TI (.ref i1) (.ref i2)) (st1 : St1 i s.heap) (st2 : St2 i s.heap) (hlt1 : i < n1) (hlt2 : i < n2)
    (hQ : ∀ x1 x2 h' tk, P1 i x1 → P2 i x2 → IsZipHeld h' z TI TO T true → St1 (i + 1) h' → St2 (i + 1) h' → IsTupOf2 h' s.heap.objs.size x1 x2 → h'.objs.size = s.heap.objs.size + 1 →
      (∀ c o, c ≠ z → c ≠ i1 → c ≠ i2 → s.heap.get? c = some o → h'.get? c = some o) → Q (some (.ref s.heap.objs.size)) { s with heap := h', toks := tk }) :
    wpAny (model prog w) A (pyNext (.ref z)) Q E s := by
  have hTy : s.TypeIs (.ref z) "zip" := ⟨_, hz, rfl⟩
  unfold pyNext
  exact wpAny_bind (wpAny_attempt (wpAny_callSpecial?_slot (name := Str.ofString "__next__") hTy F.slot_zip_next
    (wpAny_call_entry F.slot_zip_next hTy F.entry_zip_next
      (zipD2_item_held S D1 D2 hz hT hTI st1 st2 hlt1 hlt2 fun x1 x2 h' tk y1 y2 b1 d1 d2 b5 b6 b7 => wpAny_pure (hQ x1 x2 h' tk y1 y2 b1 d1 d2 b5 b6 b7)) (F.args_zip_next_1 _))))
theorem next_end_held {Q : Option Value → Shared → Prop} (S : ZipSep2 z TI TO i1 i2 fp1 fp2) (D1 : Draws prog w A.in1 i1 fp1 n1 P1 St1) (D2 : Draws prog w A.in1 i2 fp2 n2 P2 St2)
    (hz : IsZipHeld s.heap z TI TO T f) (hT : s.heap.get? T = some oT) (hTI : IsTupOf2 s.heap TI (.ref i1) (.ref i2)) (st1 : St1 i s.heap) (st2 : St2 i s.heap) (hle1 : i ≤ n1) (hle2 : i ≤ n2) (hend : i = n1 ∨ i = n2)
    (hQ : ∀ h' tk, (∀ c o, c ≠ z → c ≠ i1 → c ≠ i2 → s.heap.get? c = some o → h'.get? c = some o) → Q none { s with heap := h', toks := tk }) : wpAny (model prog w) A (pyNext (.ref z)) Q E s := by
  have hTy : s.TypeIs (.ref z) "zip" := ⟨_, hz, rfl⟩
  unfold pyNext
  refine wpAny_bind (wpAny_attempt (wpAny_callSpecial?_slot (name := Str.ofString "__next__") hTy F.slot_zip_next
    (wpAny_call_entry F.slot_zip_next hTy F.entry_zip_next (zipD2_end_held S D1 D2 hz hT hTI st1 st2 hle1 hle2 hend fun h' tk e hk he => ?_) (F.args_zip_next_1 _))))
  obtain ⟨o, ho, hc⟩ := he
  refine wpAny_bind (wpAny_isInstance (T := "StopIteration") (b := true) ⟨o, ho, hc⟩ isSubtype_stop ?_)
  exact wpAny_pure (hQ _ _ hk)
end
theorem pairArg_zipT {prog : Program} {w : World} (z TI TO i1 i2 t1 t2 : Addr) (S : ZipSep2 z TI TO i1 i2 [i1, t1] [i2, t2]) (n1 : t1 ≠ i1) (n2 : t2 ≠ i2) (xs ys : Array Value) :
    PairArg prog w "zip" z [z, TI, TO, i1, i2, t1, t2] [z, TO, i1, i2] (min xs.size ys.size) (fun i k v => xs[i]? = some k ∧ ys[i]? = some v)
      (fun h => IsZip h z TI TO .none ∧ IsTupOf2 h TI (.ref i1) (.ref i2) ∧ (∃ a b, IsTupOf2 h TO a b) ∧ (h.IsTupleIter i1 t1 0 ∧ h.IsTuple t1 xs) ∧ (h.IsTupleIter i2 t2 0 ∧ h.IsTuple t2 ys)) where
  type := fun s ok => ⟨_, ok.1, rfl⟩
  notDict := by decide
  keep := fun h h' ok hk => by
    obtain ⟨hz, hTI, ⟨a, b, hTO⟩, ⟨h1, hl1⟩, ⟨h2, hl2⟩⟩ := ok
    exact ⟨hk _ _ hz, hk _ _ hTI, ⟨a, b, hk _ _ hTO⟩, ⟨h1.at fun o e => hk _ o e, hl1.at fun o e => hk _ o e⟩, ⟨h2.at fun o e => hk _ o e, hl2.at fun o e => hk _ o e⟩⟩
  there := fun h ok b hb => by
    obtain ⟨hz, hTI, ⟨a, c, hTO⟩, ⟨⟨o1, h1, _⟩, ⟨o3, hl1, _⟩⟩, ⟨⟨o2, h2, _⟩, ⟨o4, hl2, _⟩⟩⟩ := ok
    simp only [List.mem_cons, List.not_mem_nil, or_false] at hb
    rcases hb with rfl | rfl | rfl | rfl | rfl | rfl | rfl
    all_goals first | exact ⟨_, hz⟩ | exact ⟨_, hTI⟩ | exact ⟨_, hTO⟩ | exact ⟨_, h1⟩ | exact ⟨_, h2⟩ | exact ⟨_, hl1⟩ | exact ⟨_, hl2⟩
  sub := fun b hb => by simp at hb ⊢; rcases hb with rfl | rfl | rfl | rfl <;> simp
  noKeys := fun A s Q E hA ok h => getAttrOr_miss_zip ok.1 rfl rfl rfl zip_no_keys (by decide +kernel) hA h
  iter := fun A s d Q E hA ok hd hdf h => by
    obtain ⟨hz, hTI, ⟨a, b, hTO⟩, st1, st2⟩ := ok
    have D1 := Draws.tuple (prog := prog) (w := w) (A := A.in1) hA i1 t1 n1 xs
    have D2 := Draws.tuple (prog := prog) (w := w) (A := A.in1) hA i2 t2 n2 ys
    simp only [List.mem_cons, List.not_mem_nil, or_false, not_or] at hdf
    obtain ⟨dz, dTI, dTO, di1, di2, dl1, dl2⟩ := hdf
    refine wpAny_pyIter_zip hz (h z [z, TO, i1, i2] (fun i h => IsTupOf2 h TI (.ref i1) (.ref i2) ∧ (h.IsTupleIter i1 t1 i ∧ h.IsTuple t1 xs) ∧ (h.IsTupleIter i2 t2 i ∧ h.IsTuple t2 ys) ∧
      ((IsZip h z TI TO .none ∧ ∃ a b, IsTupOf2 h TO a b) ∨ ∃ T f oT, IsZipHeld h z TI TO T f ∧ h.get? T = some oT ∧ T ≠ z ∧ T ≠ i1 ∧ T ≠ i2 ∧ T ≠ d)) s.heap s.toks ?_
      ⟨hTI, st1, st2, .inl ⟨hz, a, b, hTO⟩⟩ (fun _ _ e => e) fun b hb => .inl hb)
    exact {
      off := fun hm => by
        simp only [List.mem_cons, List.not_mem_nil, or_false] at hm
        rcases hm with e | e | e | e
        · exact dz e
        · exact dTO e
        · exact di1 e
        · exact di2 e
      frame := fun i h₁ h₂ st hk => by
        obtain ⟨hTI, st1, st2, hz⟩ := st
        refine ⟨hk _ _ (Ne.symm dTI) hTI, D1.frame _ _ _ st1 fun b hb o e => hk b o (fun q => ?_) e, D2.frame _ _ _ st2 fun b hb o e => hk b o (fun q => ?_) e, ?_⟩
        · subst q; simp only [List.mem_cons, List.not_mem_nil, or_false] at hb; exact hb.elim di1 dl1
        · subst q; simp only [List.mem_cons, List.not_mem_nil, or_false] at hb; exact hb.elim di2 dl2
        rcases hz with ⟨hz, a, b, hTO⟩ | ⟨T, f, oT, hz, hT, r1, r2, r3, r4⟩
        · exact .inl ⟨hk _ _ (Ne.symm dz) hz, a, b, hk _ _ (Ne.symm dTO) hTO⟩
        · exact .inr ⟨T, f, oT, hk _ _ (Ne.symm dz) hz, hk _ _ r4 hT, r1, r2, r3, r4⟩
      item := fun i s₁ Q₁ E₁ hi st hds hQ => by
        obtain ⟨hTI, st1, st2, hz⟩ := st
        have hix : i < xs.size := Nat.lt_of_lt_of_le hi (Nat.min_le_left ..)
        have hiy : i < ys.size := Nat.lt_of_lt_of_le hi (Nat.min_le_right ..)
        have lt : ∀ {c o}, s₁.heap.get? c = some o → s₁.heap.objs.size ≠ c := fun e => Nat.ne_of_gt (Heap.lt_size e)
        have m1 : s₁.heap.objs.size ≠ i1 := let ⟨_, e⟩ := D1.live _ _ st1; lt e
        have m2 : s₁.heap.objs.size ≠ i2 := let ⟨_, e⟩ := D2.live _ _ st2; lt e
        rcases hz with ⟨hz, a, b, hTO⟩ | ⟨T, f, oT, hz, hT, r1, r2, r3, r4⟩
        · refine wpAny_pyNext_zipD2_item S D1 D2 hz hTI hTO st1 st2 hix hiy fun x1 x2 h' tk e1 e2 a1 a2 a3 a4 a5 a6 hk => ?_
          exact hQ s₁.heap.objs.size _ _ h' tk ⟨e1, e2⟩ (.inl ⟨_, a5, rfl, _, rfl⟩)
            ⟨hk _ _ S.TIz S.TITO S.TIi1 S.TIi2 hTI, a3, a4, .inr ⟨s₁.heap.objs.size, false, _, a1, a5, lt hz, m1, m2, Nat.ne_of_gt hds⟩⟩
            fun c o hc e => hk c o (fun x => hc (by simp [x])) (fun x => hc (by simp [x])) (fun x => hc (by simp [x])) (fun x => hc (by simp [x])) e
        · refine next_item_held S D1 D2 hz hT hTI st1 st2 hix hiy fun x1 x2 h' tk e1 e2 a1 a3 a4 a5 a6 hk => ?_
          exact hQ s₁.heap.objs.size _ _ h' tk ⟨e1, e2⟩ (.inl ⟨_, a5, rfl, _, rfl⟩)
            ⟨hk _ _ S.TIz S.TIi1 S.TIi2 hTI, a3, a4, .inr ⟨T, true, oT, a1, hk _ _ r1 r2 r3 hT, r1, r2, r3, r4⟩⟩
            fun c o hc e => hk c o (fun x => hc (by simp [x])) (fun x => hc (by simp [x])) (fun x => hc (by simp [x])) e
      done := fun s₁ Q₁ E₁ st hQ => by
        obtain ⟨hTI, st1, st2, hz⟩ := st
        have l1 := Nat.min_le_left xs.size ys.size
        have l2 := Nat.min_le_right xs.size ys.size
        have hend : min xs.size ys.size = xs.size ∨ min xs.size ys.size = ys.size := by omega
        rcases hz with ⟨hz, a, b, hTO⟩ | ⟨T, f, oT, hz, hT, r1, r2, r3, r4⟩
        · exact wpAny_pyNext_zipD2_end S D1 D2 hz hTI hTO st1 st2 l1 l2 hend fun h' tk hk => hQ h' tk fun c o hc e => hk c o (fun x => hc (by simp [x])) (fun x => hc (by simp [x])) (fun x => hc (by simp [x])) (fun x => hc (by simp [x])) e
        · exact next_end_held S D1 D2 hz hT hTI st1 st2 l1 l2 hend fun h' tk hk => hQ h' tk fun c o hc e => hk c o (fun x => hc (by simp [x])) (fun x => hc (by simp [x])) (fun x => hc (by simp [x])) e }
end DZ
namespace DL
open PySem PySem.Spec PyProof.Rows L2
theorem kv_zip : ∀ {ks : List Key} {xs : List V} {us : List Value}, Vals xs us → KV (ks.zip xs) (ks.zip us)
  | [], _, _, _ => .nil
  | _ :: _, _, _, .nil => .nil
  | k :: ks, _, _, .cons r rr => .cons ⟨rfl, r⟩ (kv_zip rr)
theorem keys_are {P : Program} {w : World} : ∀ {ks : List Key} {us : List Value}, Vals (ks.map kV) us → us.length = ks.length ∧ ∀ (i : Nat) (u : Value), us[i]? = some u → ∃ k, ks[i]? = some k ∧ (mixKind P w).is k u = true
  | [], _, .nil => ⟨rfl, fun i u h => by simp at h⟩
  | k :: ks, _, .cons r rr => by
    obtain ⟨h1, h2⟩ := keys_are (P := P) (w := w) rr
    refine ⟨by rw [List.length_cons, List.length_cons, h1], fun i u h => ?_⟩
    cases i with
    | zero => cases h; exact ⟨k, rfl, kV_is r⟩
    | succ i => exact h2 i u (by simpa using h)
section
variable {X : Cx} {e1 e2 : Expr} {ta : TA} {p0 p1 ppos pp2 : Pos}
theorem pe_dictZip (hc : X.calm = true) (hgd : Gl X "dict") (hmd : X.mg "dict" = none) (hgz : Gl X "zip") (hmz : X.mg "zip" = none) (ha : PA X [e1, e2] ta)
    (hst : starEach [e1, e2] X.env = (false, eval e1 X.env) :: starEach [e2] X.env := by rfl) (hpl : (backTo pp2 (starEach [e2] X.env)).any (·.1) = false := by rfl)
    (hst2 : starEach [Expr.Call (.Name "zip" p1) [e1, e2] [] pp2] X.env = (false, eval (.Call (.Name "zip" p1) [e1, e2] [] pp2) X.env) :: starEach [] X.env := by rfl) (hpl2 : (backTo ppos (starEach [] X.env)).any (·.1) = false := by rfl) :
    PE X (.Call (.Name "dict" p0) [.Call (.Name "zip" p1) [e1, e2] [] pp2] [] ppos) (fun σ H Q => ta σ H fun vs H1 => ∃ (t1 t2 : Addr) (ks : List Key) (xs : List V), vs = [.ref t1, .ref t2] ∧ SqT X.K H1 t1 (ks.map kV) ∧ SqT X.K H1 t2 xs ∧ ks.length = xs.length ∧ ∀ p, H1 p = none → Q (.ref p) (upd H1 p (.dK (mergeK [] (ks.zip xs))))) := by
  refine ⟨fun pins s σ H Q I h => ?_⟩
  refine wpAny_Call_Name_kw (ld_blt I hgd hmd PyProof.Rows.boot_dict ?_ (by decide) (by decide))
  refine PyProof.Rows.callWith_type1 ?_ hst2 hpl2
  rw [hst2]
  show wpAny _ _ (spliced ((false, eval (.Call (.Name "zip" p1) [e1, e2] [] pp2) X.env) :: backTo ppos (starEach [] X.env))) _ _ s
  refine Calls.spliced_cons ?_
  refine wpAny_Call_Name_kw (ld_blt I hgz hmz PyProof.Rows.boot_zip ?_ (by decide) (by decide))
  refine PyProof.Rows.callWith_type1 (thn (ha.run pp2 pins s σ H _ I h) fun us s1 ⟨vs, H1, I1, r1, t1, t2, ks, xs, ev, q1, q2, hl, q⟩ => ?_) hst hpl
  subst ev
  obtain ⟨u1, u2, rfl, ru1, ru2⟩ := vals2 r1
  obtain rfl : u1 = Value.ref t1 := ru1
  obtain rfl : u2 = Value.ref t2 := ru2
  obtain ⟨its1, rv1, ht1, hz1⟩ := I1.tuple q1
  obtain ⟨its2, rv2, ht2, hz2⟩ := I1.tuple q2
  have lt1 : t1 < s1.heap.objs.size := let ⟨_, e, _⟩ := ht1; Heap.lt_size e
  have lt2 : t2 < s1.heap.objs.size := let ⟨_, e, _⟩ := ht2; Heap.lt_size e
  obtain ⟨kl, kk⟩ := keys_are (P := X.prog) (w := X.w) rv1
  have l2 : its2.length = xs.length := rv2.length.symm
  refine RZ.call_zipT (xs := its1.toArray) (ys := its2.toArray) ht1 ht2 fun h' a1 a2 a3 a4 a5 a6 hk => ?_
  refine Calls.spliced_nil ?_
  have S : ZipSep2 (s1.heap.objs.size + 4) (s1.heap.objs.size + 2) (s1.heap.objs.size + 3) s1.heap.objs.size (s1.heap.objs.size + 1) [s1.heap.objs.size, t1] [s1.heap.objs.size + 1, t2] :=
    zip_sep2 (fp1 := [t1]) (fp2 := [t2]) (fun b hb => by rw [List.mem_singleton.mp hb]; exact lt1) fun b hb => by rw [List.mem_singleton.mp hb]; exact lt2
  have P := DZ.pairArg_zipT (prog := X.prog) (w := X.w) (s1.heap.objs.size + 4) (s1.heap.objs.size + 2) (s1.heap.objs.size + 3) s1.heap.objs.size (s1.heap.objs.size + 1) t1 t2 S (Nat.ne_of_lt lt1) (Nat.ne_of_lt (Nat.lt_succ_of_lt lt2)) its1.toArray its2.toArray
  refine PySem.call_dict_pairs (knd := mixKind X.prog X.w) (kvs := ks.zip its2) (s := { s1 with heap := h' }) P (I1.ok.hd hc) ⟨a1, a2, ⟨_, _, a3⟩, ⟨a4, ht1.keeps hk⟩, ⟨a5, ht2.keeps hk⟩⟩ ⟨by simp [kl], fun i key v ⟨z1, z2⟩ => ?_⟩ (by simp [kl]; rw [List.length_map] at hz1; omega) fun h'' tk hd' k => ?_
  · obtain ⟨k, hk1, hk2⟩ := kk i key (by simpa using z1)
    exact ⟨k, by rw [List.getElem?_zip_eq_some]; exact ⟨hk1, by simpa using z2⟩, hk2⟩
  · have e6 : h'.objs.size = s1.heap.objs.size + 5 := a6
    have hm : (h'.objs.size == sysModules) = false := beq_eq_false_iff_ne.mpr (Nat.ne_of_gt (Nat.lt_of_lt_of_le I1.big (by rw [e6]; exact Nat.le_add_right _ _)))
    have hlen : (mergeK [] (ks.zip xs)).length ≤ sizeLine := by
      refine Nat.le_trans (length_mergeK (ks.zip xs) []) ?_
      rw [List.length_map] at hz1
      simp
      omega
    exact ⟨.ref h'.objs.size, upd H1 h'.objs.size (.dK (mergeK [] (ks.zip xs))), I1.laid (t' := tk) (fun b u e => k b u (by
      have hbl : b < s1.heap.objs.size := Heap.lt_size e
      intro hh
      simp only [List.mem_cons, List.not_mem_nil, or_false] at hh
      rcases hh with rfl | rfl | rfl | rfl
      · exact absurd hbl (Nat.not_lt.mpr (Nat.le_add_right _ _))
      · exact absurd hbl (Nat.not_lt.mpr (Nat.le_add_right _ _))
      · exact absurd hbl (Nat.lt_irrefl _)
      · exact absurd hbl (Nat.not_lt.mpr (Nat.le_add_right _ _))) (hk b u e)) (by omega) (show ObjOk X.prog X.w _ _ _ (.dK (mergeK [] (ks.zip xs))) from ⟨hlen, hm, merged [] (ks.zip its2), KV.merge (kv_zip rv2) .nil, hd'⟩), rfl, q _ (I1.hok.fresh (by omega))⟩
end
/-- dict(zip(x, y)), frozen -/
def iDictZ (f1 f2 : FE) : FE := fun env ah => (iArgs [f1, f2] env ah).bind fun ds ah1 => match ds with
  | [x, y] => match seqD ah1 x, seqD ah1 y with
    | some (true, xs), some (true, ys) => match keysL xs with
      | some ks => if ks.length = ys.length then .ok (.dk (foldD (ks.zip ys) ([], [])).1 (foldD (ks.zip ys) ([], [])).2) ah1 else .bad
      | none => .bad
    | _, _ => .bad
  | _ => .bad
theorem eDictZ {f1 f2 : FE} {env : AE} {ah a1 : AH} {x y : D} {xs ys : List D} {ks : List Key} (h : iArgs [f1, f2] env ah = .ok [x, y] a1) (h1 : seqD a1 x = some (true, xs)) (h2 : seqD a1 y = some (true, ys)) (h3 : keysL xs = some ks) (h4 : ks.length = ys.length) : iDictZ f1 f2 env ah = .ok (.dk (foldD (ks.zip ys) ([], [])).1 (foldD (ks.zip ys) ([], [])).2) a1 := by
  unfold iDictZ
  rw [h, Res.bind_ok]
  simp only [h1, h2, h3]
  rw [if_pos h4]
theorem zip_rel {G : KW} {η : List Addr} {H : Hp} : ∀ {ks : List Key} {ds : List D} {vs : List V}, ks.length = ds.length → RelAll G η H ds vs → KRel G η H (ks.zip ds) (ks.zip vs)
  | [], [], [], _, .nil => ⟨rfl, .nil⟩
  | k :: ks, _, _, h, .cons r rr => by
    obtain ⟨z1, z2⟩ := zip_rel (ks := ks) (by simpa using h) rr
    exact ⟨by rw [List.zip_cons_cons, List.zip_cons_cons, List.map_cons, List.map_cons, z1], .cons r z2⟩
section
variable {X : Cx} {W : XW} {e1 e2 : Expr} {f1 f2 : FE} {p0 p1 ppos pp2 : Pos}
theorem j_dictZ (hc : X.calm = true) (hgd : Gl X "dict") (hmd : X.mg "dict" = none) (hgz : Gl X "zip") (hmz : X.mg "zip" = none) (ha : PA X [e1, e2] (AX' X W [f1, f2]))
    (hst : starEach [e1, e2] X.env = (false, eval e1 X.env) :: starEach [e2] X.env := by rfl) (hpl : (backTo pp2 (starEach [e2] X.env)).any (·.1) = false := by rfl)
    (hst2 : starEach [Expr.Call (.Name "zip" p1) [e1, e2] [] pp2] X.env = (false, eval (.Call (.Name "zip" p1) [e1, e2] [] pp2) X.env) :: starEach [] X.env := by rfl) (hpl2 : (backTo ppos (starEach [] X.env)).any (·.1) = false := by rfl) :
    PE X (.Call (.Name "dict" p0) [.Call (.Name "zip" p1) [e1, e2] [] pp2] [] ppos) (SX X W (iDictZ f1 f2)) :=
  PE.imp (pe_fz (pe_dictZip hc hgd hmd hgz hmz ha hst hpl hst2 hpl2)) fun S H Q ⟨env, ah, η, en, pk, h⟩ => by
    refine ⟨env, ah, η, en, pk, ?_⟩
    have h' : Post (gX X) W η H ((iArgs [f1, f2] env ah).bind fun ds ah1 => match ds with
      | [x, y] => match seqD ah1 x, seqD ah1 y with
        | some (true, xs), some (true, ys) => match keysL xs with
          | some ks => if ks.length = ys.length then .ok (.dk (foldD (ks.zip ys) ([], [])).1 (foldD (ks.zip ys) ([], [])).2) ah1 else .bad
          | none => .bad
        | _, _ => .bad
      | _ => .bad) (QV (gX X) Q) := h
    revert h'
    cases e1 : iArgs [f1, f2] env ah with
    | ok ds ah1 =>
      intro q2
      rw [Res.bind_ok] at q2
      intro η1 H1 m1 p1 vs rs
      split at q2
      · rename_i x y
        split at q2
        · rename_i xs ys ex ey
          split at q2
          · rename_i ks ek
            split at q2
            · rename_i hl
              cases rs with
              | cons rx rs =>
                cases rs with
                | cons ry rs =>
                  cases rs
                  obtain ⟨t1, us, rfl, r1, s1, -⟩ := seq_rel p1 rx ex
                  obtain ⟨t2, ws, rfl, r2, s2, -⟩ := seq_rel p1 ry ey
                  have eu := keysL_rel r1 ek
                  subst eu
                  refine ⟨t1, t2, ks, ws, rfl, s1 rfl, s2 rfl, by rw [hl, r2.length], fun p hp => .inr ⟨p, _, rfl, upd_same, trivial, fun od => ?_⟩⟩
                  rw [upd_upd]
                  have sm : Same H1 (upd H1 p (.frz od (.dK (mergeK [] (ks.zip ws))))) := same_new hp
                  obtain ⟨z1, z2⟩ := fold_rel (b := []) (a := ([], [])) (zip_rel hl r2) rfl .nil
                  exact q2 η1 _ (m1.trans (Mv.same sm)) (p1.same sm) _ (.dk (o := od) upd_same z1 (z2.ext (List.prefix_refl _) (Ext.of_same sm)))
            · exact q2.elim
          · exact q2.elim
        · exact q2.elim
      · exact q2.elim
    | exc x e ah1 => exact id
    | bad => exact id
end
end DL
namespace DL
open PySem PySem.Spec PyProof.Rows L2
def oFmt (x : D) (ah : AH) : Res D := match x with
  | .str y => if y.length ≤ sizeLine then .ok (.str y) ah else .bad
  | .int i => if i.natAbs.log2 < 1920 then .ok (.str (toString i)) ah else .bad
  | _ => .bad
def jsR : List FE → Str → FE
  | [], acc, _, ah => .ok (.str acc) ah
  | f :: fs, acc, env, ah => (f env ah).bind fun d ah1 => match d with
    | .str y => if (acc ++ y).length ≤ sizeLine then jsR fs (acc ++ y) env ah1 else .bad
    | _ => .bad
def iJs (fs : List FE) : FE := jsR fs Str.empty
def PJF (X : Cx) (W : XW) (es : List Expr) (fs : List FE) : Prop := PJ X es (fs.map (SX X W))
section
variable {X : Cx} {W : XW} {e v1 v2 : Expr} {es rest : List Expr} {f : FE} {fs : List FE} {pos : Pos}
theorem j_fmt (h : PE X e (SX X W f)) : PE X (.FormattedValue e (-1) none pos) (SX X W (iUn oFmt f)) :=
  PE.imp (pe_fmt h) fun S H Q ⟨env, ah, η, en, pk, h⟩ => ⟨env, ah, η, en, pk, h.bind.imp0 fun x η1 H1 ah1 m1 p1 q1 v rvv => by
    unfold oFmt at q1
    split at q1
    · cases rvv
      split at q1
      · exact .inl ⟨_, rfl, by assumption, q1.at p1 _ (.str _)⟩
      · exact q1.elim
    · cases rvv
      split at q1
      · exact .inr ⟨_, rfl, by assumption, q1.at p1 _ (.str _)⟩
      · exact q1.elim
    · exact q1.elim⟩
theorem p_nil : PJF X W [] [] := PJ.nil
theorem p_cons (h : PE X e (SX X W f)) (r : PJF X W es fs) : PJF X W (e :: es) (f :: fs) := PJ.cons h r
theorem js_tJs {G : KW} : ∀ (fs : List FE) (acc : Str) (S : L2.St) (H : Hp) (Q : VK), SJ G W (jsR fs acc) S H Q → tJs (fs.map (SJ G W)) acc S H fun out H1 => Q (.str out) H1
  | [], acc, S, H, Q, ⟨env, ah, η, en, pk, h⟩ => h.at pk _ (.str _)
  | f :: fs, acc, S, H, Q, ⟨env, ah, η, en, pk, h⟩ => ⟨env, ah, η, en, pk, h.bind.imp0 fun x η1 H1 ah1 m1 p1 q1 v rvv => by
    split at q1
    · rename_i y
      cases rvv
      split at q1
      · exact ⟨y, rfl, by assumption, js_tJs fs (acc ++ y) S H1 Q ⟨env, ah1, η1, en.mv m1, p1, q1⟩⟩
      · exact q1.elim
    · exact q1.elim⟩
theorem j_joined (h : PJF X W (v1 :: v2 :: rest) fs) : PE X (.JoinedStr (v1 :: v2 :: rest) pos) (SX X W (iJs fs)) := PE.imp (pe_joined h) fun S H Q h => js_tJs fs Str.empty S H Q h
theorem j_joined1 (h : PE X e (SX X W f)) : PE X (.JoinedStr [e] pos) (SX X W f) := pe_joined1 h
end
section
variable {f : FE} {fs : List FE} {acc y : Str} {env : AE} {ah a1 : AH} {z : D} {i : Int}
theorem eJs0 : jsR [] acc env ah = .ok (.str acc) ah := rfl
theorem eJs (h1 : f env ah = .ok (.str y) a1) (hz : (acc ++ y).length ≤ 1048576) {r : Res D} (h2 : jsR fs (acc ++ y) env a1 = r) : jsR (f :: fs) acc env ah = r := by
  unfold jsR
  rw [h1, Res.bind_ok]
  simp only
  rw [if_pos (small hz), h2]
theorem fmtS (hz : y.length ≤ 1048576) : oFmt (.str y) ah = .ok (.str y) ah := by
  unfold oFmt
  simp only
  rw [if_pos (small hz)]
theorem fmtI (hz : i.natAbs < 1000000000000) : oFmt (.int i) ah = .ok (.str (toString i)) ah := by
  have s1 : decide (i.natAbs.log2 < 1920) = true := (shw_int (i := i) (by omega)).sh
  unfold oFmt
  simp only
  rw [if_pos (of_decide_eq_true s1)]
end
def oUpper (x : D) (ah : AH) : Res D := match x with
  | .str a => if a.length ≤ 5592405 then .ok (.str (Txt.upper a)) ah else .bad
  | _ => .bad
section
variable {X : Cx} {W : XW} {o : Expr} {f : FE} {apos pos : Pos}
theorem j_upper (ho : PE X o (SX X W f)) (hbase : attributeBase o "upper" X.env (eval o X.env) = eval o X.env := by rfl) (hline : (apos.endLine == pos.line) = true := by rfl) :
    PE X (.Call (.Attribute o "upper" apos) [] [] pos) (SX X W (iUn oUpper f)) :=
  PE.imp (L2.pe_upper ho hbase hline) fun S H Q ⟨env, ah, η, en, pk, h⟩ => ⟨env, ah, η, en, pk, h.bind.imp0 fun x η1 H1 ah1 m1 p1 q1 v rvv => by
    unfold oUpper at q1
    split at q1
    · cases rvv
      split at q1
      · exact ⟨⟨_, rfl⟩, _, rfl, rfl, by assumption, q1.at p1 _ (.str _)⟩
      · exact q1.elim
    · exact q1.elim⟩
end
def oRepl (y z : Str) (x : D) (ah : AH) : Res D := match x with
  | .str x => if x.length + (x.length + 1) * z.length ≤ 16777216 then .ok (.str (Txt.replace x y z)) ah else .bad
  | _ => .bad
/-- a reading that leaves a token -/
def PE1 (X : Cx) (e : Expr) (t : TE) : Prop := ∀ (pins : List (Addr × Obj)) (s : Shared) (σ : L2.St) (H : Hp) (Q : VK), Inv X pins σ H s → t σ H Q → wpAny (model X.prog X.w) X.A (eval e X.env) (fun v s1 => 1 ≤ s1.toks ∧ L2.EP X pins σ Q v s1) X.xe s
section
variable {X : Cx} {W : XW} {o a b e : Expr} {es : List Expr} {rest : List Stmt} {f fa fb : FE} {fs : List FE} {g : FS} {apos pos pos' c0 c1 : Pos} {x y z : Str} {i j k : Nat}
theorem PET.imp {t t' : TE} (h : PET X e t) (k : ∀ S H Q, t' S H Q → t S H Q) : PET X e t' := fun pins s σ H Q h0 I q => h pins s σ H Q h0 I (k σ H Q q)
theorem PAT.imp {t t' : TA} (h : PAT X es t) (k : ∀ S H Q, t' S H Q → t S H Q) : PAT X es t' := fun pos pins s σ H Q h0 I q => h pos pins s σ H Q h0 I (k σ H Q q)
theorem PST.imp {st : Stmt} {t t' : TS} (h : PST X st t) (k : ∀ D S H, t' D S H → t D S H) : PST X st t' := fun pins s σ H D h0 I q => h pins s σ H D h0 I (k D σ H q)
theorem jt_repl (y1 z1 : Str) (hy : y = y1) (hz : z = z1) (ho : PE X o (SX X W f)) (hyz : (y1 == z1) = false := by decide)
    (hst : starEach [.Constant (.str y) j c0, .Constant (.str z) k c1] X.env = [(false, eval (.Constant (.str y) j c0) X.env), (false, eval (.Constant (.str z) k c1) X.env)] := by rfl)
    (hbase : attributeBase o "replace" X.env (eval o X.env) = eval o X.env := by rfl) (hline : (apos.endLine == pos.line) = true := by rfl) :
    PET X (.Call (.Attribute o "replace" apos) [.Constant (.str y) j c0, .Constant (.str z) k c1] [] pos) (SX X W (iUn (oRepl y1 z1) f)) := by
  subst hy hz
  exact PET.imp (CwR.pet_replC ho hyz hst hbase hline) fun S H Q ⟨env, ah, η, en, pk, h⟩ => ⟨env, ah, η, en, pk, h.bind.imp0 fun x η1 H1 ah1 m1 p1 q1 v rvv => by
    unfold oRepl at q1
    split at q1
    · cases rvv
      split at q1
      · exact ⟨_, rfl, by assumption, q1.at p1 _ (.str _)⟩
      · exact q1.elim
    · exact q1.elim⟩
theorem jt_of {t : TE} (h : PE X e t) : PET X e t := fun pins s σ H Q _ I q => h.run pins s σ H Q I q
theorem at_nil : PAT X [] (AX' X W []) := PAT.imp pat_nil fun S H Q ⟨env, ah, η, e, p, h⟩ => h.at p _ .nil
theorem at_cons (h : PET X e (SX X W f)) (k : PAT X es (AX' X W fs)) (hs : starEach (e :: es) X.env = (false, eval e X.env) :: starEach es X.env := by rfl) : PAT X (e :: es) (AX' X W (f :: fs)) :=
  PAT.imp (pat_cons h k hs) fun S H Q ⟨env, ah, η, e, p, h⟩ =>
    ⟨env, ah, η, e, p, (show Post _ _ _ _ ((f env ah).bind fun d ah1 => (iArgs fs env ah1).bind fun ds ah2 => .ok (d :: ds) ah2) _ from h).bind.imp0 fun d η1 H1 ah1 m1 p1 q1 => fun v rvv =>
      ⟨env, ah1, η1, e.mv m1, p1, q1.bind.imp0 fun ds η2 H2 ah2 m2 p2 q2 => fun vs rs => q2.at p2 _ (.cons (rvv.mv m2) rs)⟩⟩
theorem pet_fz {t : TE} (h : PET X e t) : PET X e fun S H Q => t S H (QF Q) := by
  intro pins s σ H Q h0 I q
  refine thn (h pins s σ H _ h0 I q) fun w s1 ⟨v, H1, I1, r1, q1⟩ => ?_
  rcases q1 with q1 | ⟨a, u, rfl, ha, hm, q1⟩
  · exact ⟨v, H1, I1, r1, q1⟩
  · obtain ⟨od, I2⟩ := I1.lock ha hm
    exact ⟨.ref a, _, I2, r1, q1 od⟩
theorem jt_lst (k : PAT X es (AX' X W fs)) : PET X (.List es pos) (SX X W (iCall oLst fs)) :=
  PET.imp (pet_fz (pet_lst k)) fun S H Q ⟨env, ah, η, en, pk, h⟩ => ⟨env, ah, η, en, pk, h.bind.imp0 fun ds η1 H1 ah1 m1 p1 q1 => fun vs rs => by
    unfold oLst at q1
    split at q1
    · exact ⟨by rw [← rs.length]; assumption, fun a ha => post_fz p1 rs q1 ha⟩
    · exact q1.elim⟩
theorem pst_setT {te : TE} (hN : X.N.Nodup) (hi : X.N[i]? = some x) (hx : Loc X.env.scope x) (he : PET X e te) (hs : swapsWith e (some (.Name x pos')) pos.line X.env = pure false) (hf : X.fn x = true ∨ X.env.scope.names.lookup x = some .local) :
    PST X (.Assign [.Name x pos'] e pos) (tAsg te (gName i)) := by
  intro pins s σ H D h0 I h
  refine wpAny_Assign_Name (thn (he pins s σ H _ h0 I h) fun v s1 ⟨y, H1, I1, r1, q1⟩ => ?_) hs
  exact store_ok I1 hN hi hx r1 (fun s2 I2 => ⟨_, H1, I2, q1⟩) hf
theorem st_set (i : Nat) {x : Str} (hN : X.N.Nodup) (he : PET X e (SX X W f)) (hi : X.N[i]? = some x := by rfl) (hx : Loc X.env.scope x := by first | exact Or.inl rfl | exact Or.inr rfl) (hs : swapsWith e (some (.Name x pos')) pos.line X.env = pure false := by rfl) (hf : X.fn x = true ∨ X.env.scope.names.lookup x = some .local := by first | exact .inl rfl | exact .inr rfl) :
    PST X (.Assign [.Name x pos'] e pos) (SSX X W (sAsg (ptB (.nm i)) f)) := PST.imp (pst_setT hN hi hx he hs hf) fun Dn S H ⟨env, ah, η, en, pk, h⟩ =>
  ⟨env, ah, η, en, pk, h.bind.imp0 fun d η1 H1 ah1 m1 p1 q1 => fun v rv => by
    simp only [ptB] at q1
    exact q1.at p1 _ ((en.mv m1).set i rv)⟩
/-- the sequence's reading -/
theorem seq_imp {G : KW} {s g : FS} {Dn : Ends} {S : L2.St} {H : Hp} (h : SS G W (sSeq s g) Dn S H) : tSeq (SS G W s) (SS G W g) Dn S H := by
  obtain ⟨env, ah, η, en, pk, h⟩ := h
  refine ⟨env, ah, η, en, pk, h.bind.imp0 fun r η1 H1 ah1 m1 p1 q1 => ?_⟩
  obtain ⟨fl, env1⟩ := r
  cases fl with
  | nx => exact fun S' en' => ⟨env1, ah1, η1, en', p1, q1⟩
  | rt d => exact q1.at p1
  | bk => exact q1.at p1
  | ct => exact q1.at p1
theorem s_consT {st : Stmt} {s : FS} (h : PST X st (SSX X W s)) (k : PSs X rest (SSX X W g)) : PSsT X (st :: rest) (SSX X W (sSeq s g)) := fun pins s0 σ H D h0 I q => psst_cons h (PSsT.of k) pins s0 σ H D h0 I (seq_imp q)
theorem j_mod1 (ha : PE X a (SX X W fa)) (hb : PE X b (SX X W fb)) : PE1 X (.BinOp a .Mod b pos) (SX X W (iBin oMod fa fb)) := by
  intro pins s σ H Q I h
  have t := bin2 (r := rI (fun _ j => 0 < j) fun i j => .int (i % j)) ok_i h
  refine wpAny_BinOp (thn (ha.run pins s σ H _ I t) fun v s1 ⟨x, H1, I1, r1, q1⟩ => thn (hb.run pins s1 σ H1 _ I1 q1) fun u s2 ⟨y, H2, I2, r2, q2⟩ => ?_)
  obtain ⟨i, j, rfl, rfl, hc, q⟩ := q2
  obtain ⟨t1, rfl⟩ := r1
  obtain ⟨t2, rfl⟩ := r2
  have hc : (0 : Int) < j := hc
  refine PyProof.Rows.mod_int' (by omega) ⟨by show 1 ≤ s2.toks + 1; omega, ?_⟩
  rw [Int.fmod_eq_emod_of_nonneg i (by omega)]
  refine ⟨.int (i % j), H2, I2.tok _, ⟨_, rfl⟩, ?_⟩
  rcases q with q | ⟨_, _, z, _⟩
  · exact q
  · cases z
/-- name = e, a token is out behind it -/
theorem s_consM (i : Nat) {x : Str} (hN : X.N.Nodup) (he : PE1 X e (SX X W f)) (h2 : PSsT X rest (SSX X W g)) (hi : X.N[i]? = some x := by rfl) (hx : Loc X.env.scope x := by first | exact Or.inl rfl | exact Or.inr rfl) (hs : swapsWith e (some (.Name x pos')) pos.line X.env = pure false := by rfl) (hf : X.fn x = true ∨ X.env.scope.names.lookup x = some .local := by first | exact .inl rfl | exact .inr rfl) :
    PSs X (.Assign [.Name x pos'] e pos :: rest) (SSX X W (sSeq (sAsg (ptB (.nm i)) f) g)) := by
  refine ⟨fun pins s σ H D I h => ?_⟩
  obtain ⟨env, ah, η, en, pk, h⟩ := seq_imp h
  have h : SX X W f σ H fun v H1 => SSX X W g D (σ.set i (some v)) H1 := ⟨env, ah, η, en, pk, h.bind.imp0 fun d η1 H1 ah1 m1 p1 q1 => fun v rv => by
    simp only [ptB] at q1
    exact q1.at p1 _ ((en.mv m1).set i rv)⟩
  refine wpAny_execs_cons (wpAny_Assign_Name (thn (he pins s σ H _ I h) fun v s1 ⟨ht, y, H1, I1, r1, q1⟩ => ?_) hs)
  refine wpAny_mono (PySem.wpAny_toks (store_ok (Q := fun _ s2 => Inv X pins (σ.set i (some y)) H1 s2) I1 hN hi hx r1 (fun _ I2 => I2) hf)) (fun _ s2 q => ?_) fun _ _ z => z.2
  exact h2 pins s2 _ H1 D (Nat.le_trans ht q.1) q.2 q1
end
end DL
namespace DL
open PySem PySem.Spec PyProof.Rows L2
theorem eJoin {fo f : FE} {env : AE} {ah a1 a2 : AH} {a : Str} {y : D} {z : D} (h1 : fo env ah = .ok (.str a) a1) (h2 : f env a1 = .ok y a2) (h3 : mJoin a y a2 = .ok z a2) : iJoin fo f env ah = .ok z a2 := by
  unfold iJoin iM1
  rw [h1, Res.bind_ok]
  simp only
  rw [h2, Res.bind_ok, h3]
theorem eM1 {m : Str → D → AH → Res D} {fo f : FE} {env : AE} {ah a1 a2 a3 : AH} {a : Str} {y : D} {z : D} (h1 : fo env ah = .ok (.str a) a1) (h2 : f env a1 = .ok y a2) (h3 : m a y a2 = .ok z a3) : iM1 m fo f env ah = .ok z a3 := by
  unfold iM1
  rw [h1, Res.bind_ok]
  simp only
  rw [h2, Res.bind_ok, h3]
/-- a text of signs -/
def T (l : List Nat) : Str := ⟨l.toArray⟩
theorem T_tl (l : List Nat) : (T l).cps.toList = l := by simp [T]
theorem tl_T (x : Str) : T x.cps.toList = x := by cases x; simp [T]
theorem T_len (l : List Nat) : (T l).length = l.length := by simp [T, PySem.Str.length]
theorem len_tl (x : Str) : x.cps.toList.length = x.length := rfl
theorem join_signs {l : List Nat} {a : AH} (h : l.length ≤ 100000) : mJoin ⟨#[]⟩ (.lst (l.map fun c => D.str ⟨#[c]⟩)) a = .ok (.str (T l)) a := by
  have e : (l.map fun c => D.str ⟨#[c]⟩) = (l.map fun c => (⟨#[c]⟩ : Str)).map D.str := by rw [List.map_map]; rfl
  have j : Txt.join ⟨#[]⟩ (l.map fun c => (⟨#[c]⟩ : Str)) = T l := by
    rw [TL.join_eq]
    have := PyProof.Rows.join_nil_signs (T l)
    rw [show PyProof.Rows.signs (T l) = l.map fun c => (⟨#[c]⟩ : Str) by
      unfold PyProof.Rows.signs
      rw [T_tl]] at this
    exact this
  have sm : ((l.map fun c => (⟨#[c]⟩ : Str)).map (·.length)).sum = l.length := by
    clear e j h
    induction l with
    | nil => rfl
    | cons c l ih => simp only [List.map_cons, List.sum_cons, List.length_cons]; rw [ih]; show 1 + l.length = _; omega
  unfold mJoin
  simp only [seqD]
  rw [e]
  simp only [strsD_map]
  rw [if_pos (by rw [sm, List.length_map]; show l.length + l.length * 0 ≤ 16777216; omega), j]
def nl : Str := ⟨#[10]⟩
/-- lines, joined -/
def text (ls : List (List Nat)) : Str := Txt.join nl (ls.map T)
theorem join_lines {ls : List (List Nat)} {a : AH} {d : D} {b : Bool} (h : seqD a d = some (b, ls.map fun l => D.str (T l))) (hn : ls.length ≤ 1000) (hw : ∀ l ∈ ls, l.length ≤ 1000) : mJoin nl d a = .ok (.str (text ls)) a := by
  have e : (ls.map fun l => D.str (T l)) = (ls.map T).map D.str := by rw [List.map_map]; rfl
  have sm : ((ls.map T).map (·.length)).sum ≤ ls.length * 1000 := by
    clear h e hn
    induction ls with
    | nil => exact Nat.zero_le _
    | cons l ls ih =>
      have h1 := hw l List.mem_cons_self
      have h2 := ih fun x hx => hw x (List.mem_cons_of_mem _ hx)
      simp only [List.map_cons, List.sum_cons, List.length_cons, T_len]
      rw [Nat.add_mul]
      omega
  unfold mJoin
  simp only [h]
  rw [e]
  simp only [strsD_map]
  rw [if_pos (by rw [List.length_map, show nl.length = 1 from rfl]; omega)]
  rfl
/-- the lines of a text -/
def lines (t : Str) : List (List Nat) := (Txt.split t nl).map fun x => x.cps.toList
theorem lines_T (t : Str) : (lines t).map T = Txt.split t nl := by
  unfold lines
  rw [List.map_map]
  have : (T ∘ fun x : Str => x.cps.toList) = id := by funext x; exact tl_T x
  rw [this, List.map_id]
theorem text_lines (t : Str) : text (lines t) = t := by
  unfold text
  rw [lines_T, TL.join_eq]
  exact StrLaws.join_split t nl
theorem lines_text {ls : List (List Nat)} (h : ls ≠ []) (hn : ∀ l ∈ ls, 10 ∉ l) : lines (text ls) = ls := by
  unfold lines text
  rw [TL.split_join (y := nl) (s := 10) (S := []) rfl (by decide +kernel) (by simpa using h) (fun p hp => by
    obtain ⟨l, hl, rfl⟩ := List.mem_map.mp hp
    show 10 ∉ (T l).cps.toList
    rw [T_tl]
    exact hn l hl), List.map_map]
  have : ((fun x : Str => x.cps.toList) ∘ T) = id := by funext x; exact T_tl x
  rw [this, List.map_id]
theorem joinL_len {S : List Nat} : ∀ {ls : List (List Nat)}, (∀ l ∈ ls, l.length ≤ (TL.joinL S ls).length) ∧ (1 ≤ S.length → ls.length ≤ (TL.joinL S ls).length + 1)
  | [] => ⟨fun _ h => absurd h List.not_mem_nil, fun _ => Nat.zero_le _⟩
  | [p] => ⟨fun l hl => by rw [List.mem_singleton.mp hl]; exact Nat.le_refl _, fun _ => by simp⟩
  | p :: q :: r => by
    obtain ⟨i1, i2⟩ := joinL_len (S := S) (ls := q :: r)
    have e : (TL.joinL S (p :: q :: r)).length = p.length + (S.length + (TL.joinL S (q :: r)).length) := by
      show (p ++ (S ++ TL.joinL S (q :: r))).length = _
      rw [List.length_append, List.length_append]
    refine ⟨fun l hl => ?_, fun hS => ?_⟩
    · rw [e]
      rcases List.mem_cons.mp hl with rfl | hl
      · omega
      · have := i1 l hl; omega
    · rw [e, List.length_cons]
      have := i2 hS
      omega
theorem lines_len (t : Str) : (∀ l ∈ lines t, l.length ≤ t.length) ∧ (lines t).length ≤ t.length + 1 := by
  have e : t.cps.toList = TL.joinL [10] (lines t) := by
    have h1 := TL.tl_join nl ((lines t).map T)
    rw [← TL.join_eq] at h1
    rw [show Txt.join nl ((lines t).map T) = t from text_lines t] at h1
    rw [List.map_map] at h1
    have : ((fun x : Str => x.cps.toList) ∘ T) = id := by funext x; exact T_tl x
    rw [show (List.map (TL.tl ∘ T) (lines t)) = lines t by
      rw [show (TL.tl ∘ T) = id from this, List.map_id]] at h1
    exact h1
  obtain ⟨i1, i2⟩ := joinL_len (S := [10]) (ls := lines t)
  rw [← e, len_tl] at i1 i2
  exact ⟨i1, i2 (by decide)⟩
theorem spl_ne (S : List Nat) : ∀ (l : List Nat) (k : Nat) (acc : List Nat), TL.spl S k acc l ≠ []
  | [], k, acc => by rw [TL.spl_nil]; simp
  | c :: r, 0, acc => by
    unfold TL.spl
    split
    · simp
    · exact spl_ne S r 0 _
  | c :: r, k + 1, acc => by
    unfold TL.spl
    exact spl_ne S r k _
theorem lines_spl (t : Str) : lines t = TL.spl [10] 0 [] t.cps.toList := TL.split_spl t nl (by show [10] ≠ []; simp) (TL.kind_ok (by decide +kernel))
theorem lines_ne (t : Str) : lines t ≠ [] := by rw [lines_spl]; exact spl_ne _ _ _ _
theorem split_eq {t : Str} {ah : AH} (h : t.length ≤ 100000) : mSplit t (.str nl) ah = .ok (.lst ((lines t).map fun l => D.str (T l))) ah := by
  have e : (Txt.split t nl).map D.str = (lines t).map fun l => D.str (T l) := by rw [← lines_T, List.map_map]; rfl
  unfold mSplit
  simp only
  rw [if_pos ⟨by decide +kernel, small (by omega)⟩, e]
theorem T_inj {a b : List Nat} (h : T a = T b) : a = b := by
  have := congrArg (fun x : Str => x.cps.toList) h
  simpa [T_tl] using this
theorem T_app (a b : List Nat) : T a ++ T b = T (a ++ b) := by
  show Str.mk (a.toArray ++ b.toArray) = Str.mk (a ++ b).toArray
  simp
theorem num_T (n : Nat) : (toString ((n : Nat) : Int) : Str) = T (TL.numL n) := SX.num_S n
theorem up_T {a : List Nat} (h : a.all (· < 128) = true) : Txt.upper (T a) = T (a.map PyProof.Rows.up1) := SX.upper_S h
theorem repl_T {x y z : List Nat} (hy : 1 ≤ y.length) : Txt.replace (T x) (T y) (T z) = T (StrLaws.replL y z x) := by
  have h := StrLaws.replace_list (x := T x) (y := T y) (z := T z) (by rw [T_len]; exact hy)
  rw [T_tl, T_tl, T_tl] at h
  rw [← tl_T (Txt.replace (T x) (T y) (T z)), h]
end DL
set_option maxHeartbeats 1500000
noncomputable section
namespace K26
open PySem PySem.Spec PyProof.Rows L2 DL
def topS (i : Nat) : Stmt := PySem.Challenge.pw_gathersheets_k26_many_deeds.main.body.getD i (.Pass ⟨0, 0, 0, 0⟩)
abbrev s__law_cell : Stmt := topS 15
abbrev s__law_digits : Stmt := topS 16
abbrev s_Job___init__ : Stmt := (bodyOf (topS 12)).getD 0 (.Pass ⟨0, 0, 0, 0⟩)
abbrev s__law_draw : Stmt := topS 17
abbrev s_Job_gatherable : Stmt := (bodyOf (topS 12)).getD 9 (.Pass ⟨0, 0, 0, 0⟩)
abbrev s_Job__has_enough : Stmt := (bodyOf (topS 12)).getD 3 (.Pass ⟨0, 0, 0, 0⟩)
abbrev s_Job__refusal : Stmt := (bodyOf (topS 12)).getD 2 (.Pass ⟨0, 0, 0, 0⟩)
abbrev s__changed : Stmt := topS 13
abbrev s_Job__do_to_copies : Stmt := (bodyOf (topS 12)).getD 5 (.Pass ⟨0, 0, 0, 0⟩)
abbrev s_Job__do_to_sheet : Stmt := (bodyOf (topS 12)).getD 4 (.Pass ⟨0, 0, 0, 0⟩)
abbrev s_Job_do : Stmt := (bodyOf (topS 12)).getD 1 (.Pass ⟨0, 0, 0, 0⟩)
abbrev s__law_told : Stmt := topS 18
abbrev s_Job_undo : Stmt := (bodyOf (topS 12)).getD 6 (.Pass ⟨0, 0, 0, 0⟩)
abbrev s_Job_counts : Stmt := (bodyOf (topS 12)).getD 7 (.Pass ⟨0, 0, 0, 0⟩)
abbrev s_law : Stmt := topS 19
abbrev si_BadDeed : Stmt := (bodyOf (topS 3)).getD 0 (.Pass ⟨0, 0, 0, 0⟩)
def c_MOST_IN_DEED : D := (.int 10000)
def c_MOST_DEEDS : D := (.int 60)
def c_DEEDS : D := (.cd [⟨#[115, 116, 97, 114, 116]⟩, ⟨#[102, 114, 111, 110, 116]⟩, ⟨#[98, 97, 99, 107]⟩, ⟨#[102, 111, 108, 100]⟩, ⟨#[103, 97, 116, 104, 101, 114]⟩, ⟨#[98, 105, 110, 100]⟩] [(.ct [(.str ⟨#[115, 104, 101, 101, 116]⟩), (.str ⟨#[109, 97, 110, 121]⟩)]), (.ct [(.str ⟨#[115, 104, 101, 101, 116]⟩), (.str ⟨#[109, 97, 110, 121]⟩), (.str ⟨#[98, 97, 100]⟩)]), (.ct [(.str ⟨#[115, 104, 101, 101, 116]⟩), (.str ⟨#[109, 97, 110, 121]⟩), (.str ⟨#[98, 97, 100]⟩)]), (.ct [(.str ⟨#[115, 104, 101, 101, 116]⟩), (.str ⟨#[109, 97, 110, 121]⟩), (.str ⟨#[98, 97, 100]⟩)]), (.ct [(.str ⟨#[109, 97, 110, 121]⟩)]), (.ct [(.str ⟨#[109, 97, 110, 121]⟩), (.str ⟨#[98, 97, 100]⟩)])])
def c_UNPRINTED : D := (.int 0)
def c_FOLDED : D := (.int 3)
def c_SPOILED : D := (.int 4)
def c_SOURCES : D := (.cd [⟨#[102, 114, 111, 110, 116]⟩, ⟨#[98, 97, 99, 107]⟩, ⟨#[102, 111, 108, 100]⟩] [(.int 0), (.int 1), (.int 2)])
/-- what stands in the module -/
structure Mods (w : World) (K : PySem.W.Frag) (mg : Str → Option Value) : Prop where
  nb_dict : mg "dict" = none
  nb_enumerate : mg "enumerate" = none
  nb_int : mg "int" = none
  nb_len : mg "len" = none
  nb_min : mg "min" = none
  nb_range : mg "range" = none
  nb_str : mg "str" = none
  nb_tuple : mg "tuple" = none
  nb_zip : mg "zip" = none
  k_MOST_IN_DEED : KonOk w K mg "MOST_IN_DEED" c_MOST_IN_DEED
  k_MOST_DEEDS : KonOk w K mg "MOST_DEEDS" c_MOST_DEEDS
  k_DEEDS : KonOk w K mg "DEEDS" c_DEEDS
  k_UNPRINTED : KonOk w K mg "UNPRINTED" c_UNPRINTED
  k_FOLDED : KonOk w K mg "FOLDED" c_FOLDED
  k_SPOILED : KonOk w K mg "SPOILED" c_SPOILED
  k_SOURCES : KonOk w K mg "SOURCES" c_SOURCES
  g_BadDeed : mg "BadDeed" = some (.ref (He.ga K "BadDeed"))
  e_BadDeed : ClsE K (He.ga K "BadDeed") ["reason"]
  i_BadDeed : ∃ fI fd, PySem.W.findIn K (.ref (He.ga K "BadDeed")) "__init__" = some (some (.ref fI)) ∧ PySem.W.typeIn K (.ref fI) = some (.type "function") ∧ Fun K "__init__" "BadDeed.__init__" si_BadDeed fI fd ∧ Binds K fd ["self", "reason"] []
  x_BadDeed_BadDeed : PySem.W.exmOne K (.ref (He.ga K "BadDeed")) (.ref (He.ga K "BadDeed")) = some true
  g_Job : mg "Job" = some (.ref (He.ga K "Job"))
  c_Job : ClsJ K (He.ga K "Job") ["_wanted", "_sheets", "_finished", "_past", "_lines"]
  f__law_cell : ∃ f fd, Fun K "_law_cell" "_law_cell" s__law_cell f fd ∧ mg "_law_cell" = some (.ref f) ∧ Binds K fd ["script", "k"] []
  f__law_digits : ∃ f fd, Fun K "_law_digits" "_law_digits" s__law_digits f fd ∧ mg "_law_digits" = some (.ref f) ∧ Binds K fd ["script", "first", "last"] []
  f_Job___init__ : ∃ f fd, Meth K (He.ga K "Job") "__init__" f ∧ Fun K "__init__" "Job.__init__" s_Job___init__ f fd ∧ Binds K fd ["self", "sheets", "copies"] []
  f__law_draw : ∃ f fd, Fun K "_law_draw" "_law_draw" s__law_draw f fd ∧ mg "_law_draw" = some (.ref f) ∧ Binds K fd ["box", "many"] []
  f_Job_gatherable : ∃ f fd, Meth K (He.ga K "Job") "gatherable" f ∧ Fun K "gatherable" "Job.gatherable" s_Job_gatherable f fd ∧ Binds K fd ["self"] []
  f_Job__has_enough : ∃ f fd, Meth K (He.ga K "Job") "_has_enough" f ∧ Fun K "_has_enough" "Job._has_enough" s_Job__has_enough f fd ∧ Binds K fd ["self", "word", "sheet", "many"] []
  f_Job__refusal : ∃ f fd, Meth K (He.ga K "Job") "_refusal" f ∧ Fun K "_refusal" "Job._refusal" s_Job__refusal f fd ∧ Binds K fd ["self", "word", "sheet", "many", "bad"] []
  f__changed : ∃ f fd, Fun K "_changed" "_changed" s__changed f fd ∧ mg "_changed" = some (.ref f) ∧ Binds K fd ["counts", "changes"] []
  f_Job__do_to_copies : ∃ f fd, Meth K (He.ga K "Job") "_do_to_copies" f ∧ Fun K "_do_to_copies" "Job._do_to_copies" s_Job__do_to_copies f fd ∧ Binds K fd ["self", "word", "many", "bad"] []
  f_Job__do_to_sheet : ∃ f fd, Meth K (He.ga K "Job") "_do_to_sheet" f ∧ Fun K "_do_to_sheet" "Job._do_to_sheet" s_Job__do_to_sheet f fd ∧ Binds K fd ["self", "word", "sheet", "many", "bad"] []
  f_Job_do : ∃ f fd, Meth K (He.ga K "Job") "do" f ∧ Fun K "do" "Job.do" s_Job_do f fd ∧ Binds K fd ["self", "deed"] []
  f__law_told : ∃ f fd, Fun K "_law_told" "_law_told" s__law_told f fd ∧ mg "_law_told" = some (.ref f) ∧ Binds K fd ["job", "deed"] []
  f_Job_undo : ∃ f fd, Meth K (He.ga K "Job") "undo" f ∧ Fun K "undo" "Job.undo" s_Job_undo f fd ∧ Binds K fd ["self"] []
  f_Job_counts : ∃ f fd, Meth K (He.ga K "Job") "counts" f ∧ Fun K "counts" "Job.counts" s_Job_counts f fd ∧ Binds K fd ["self"] []
  f_law : ∃ f fd, Fun K "law" "law" s_law f fd ∧ mg "law" = some (.ref f) ∧ Binds K fd ["script"] []
variable {P : Program} {w : World} {K : PySem.W.Frag} {mg : Str → Option Value} {base : Heap}
theorem Mods.jc_MOST_IN_DEED (M : Mods w K mg) {X : Cx} {W : XW} {pos : Pos} (hg : Gl X "MOST_IN_DEED") (e1 : X.w = w := by rfl) (e2 : X.K = K := by rfl) (e3 : X.mg = mg := by rfl) : PE X (.Name "MOST_IN_DEED" pos) (SX X W (iK c_MOST_IN_DEED)) := M.k_MOST_IN_DEED.je hg e1 e2 e3
theorem Mods.jc_MOST_DEEDS (M : Mods w K mg) {X : Cx} {W : XW} {pos : Pos} (hg : Gl X "MOST_DEEDS") (e1 : X.w = w := by rfl) (e2 : X.K = K := by rfl) (e3 : X.mg = mg := by rfl) : PE X (.Name "MOST_DEEDS" pos) (SX X W (iK c_MOST_DEEDS)) := M.k_MOST_DEEDS.je hg e1 e2 e3
theorem Mods.jc_DEEDS (M : Mods w K mg) {X : Cx} {W : XW} {pos : Pos} (hg : Gl X "DEEDS") (e1 : X.w = w := by rfl) (e2 : X.K = K := by rfl) (e3 : X.mg = mg := by rfl) : PE X (.Name "DEEDS" pos) (SX X W (iK c_DEEDS)) := M.k_DEEDS.je hg e1 e2 e3
theorem Mods.jc_UNPRINTED (M : Mods w K mg) {X : Cx} {W : XW} {pos : Pos} (hg : Gl X "UNPRINTED") (e1 : X.w = w := by rfl) (e2 : X.K = K := by rfl) (e3 : X.mg = mg := by rfl) : PE X (.Name "UNPRINTED" pos) (SX X W (iK c_UNPRINTED)) := M.k_UNPRINTED.je hg e1 e2 e3
theorem Mods.jc_FOLDED (M : Mods w K mg) {X : Cx} {W : XW} {pos : Pos} (hg : Gl X "FOLDED") (e1 : X.w = w := by rfl) (e2 : X.K = K := by rfl) (e3 : X.mg = mg := by rfl) : PE X (.Name "FOLDED" pos) (SX X W (iK c_FOLDED)) := M.k_FOLDED.je hg e1 e2 e3
theorem Mods.jc_SPOILED (M : Mods w K mg) {X : Cx} {W : XW} {pos : Pos} (hg : Gl X "SPOILED") (e1 : X.w = w := by rfl) (e2 : X.K = K := by rfl) (e3 : X.mg = mg := by rfl) : PE X (.Name "SPOILED" pos) (SX X W (iK c_SPOILED)) := M.k_SPOILED.je hg e1 e2 e3
theorem Mods.jc_SOURCES (M : Mods w K mg) {X : Cx} {W : XW} {pos : Pos} (hg : Gl X "SOURCES") (e1 : X.w = w := by rfl) (e2 : X.K = K := by rfl) (e3 : X.mg = mg := by rfl) : PE X (.Name "SOURCES" pos) (SX X W (iK c_SOURCES)) := M.k_SOURCES.je hg e1 e2 e3
theorem sci_BadDeed : FnScope ["self", "reason"] ["self", "reason"] (defScope si_BadDeed) := ⟨rfl, rfl, rfl, by decide +kernel, rfl, by decide +kernel, by decide +kernel⟩
theorem init_BadDeed (M : Mods w K mg) : ∃ fI fd, PySem.W.findIn K (.ref (He.ga K "BadDeed")) "__init__" = some (some (.ref fI)) ∧ PySem.W.typeIn K (.ref fI) = some (.type "function") ∧ Binds K fd ["self", "reason"] [] ∧ FnOk P w K mg base CX0 1 fI fd ["self", "reason"] (spI1 (He.ga K "BadDeed") "reason") := by
  obtain ⟨fI, fd, h1, h2, F, hb⟩ := M.i_BadDeed
  refine ⟨fI, fd, h1, h2, hb, F.ok sci_BadDeed (fun vs H Q E ⟨_, _, e, _⟩ => by subst e; rfl) fun cdv A outer s H vs Q E hr ⟨a, y, e, ha, q⟩ => ?_⟩
  subst e
  exact ⟨_, pss_one (ps_ost (pv 0) (pv 1)) , y, rfl, .ref a, rfl, a, _, rfl, M.e_BadDeed.ox, M.e_BadDeed.no _ (by decide), .inl ⟨ha, fun dx n ne => q dx n ne⟩⟩
section
variable {C f m : Str} {g o : FE} {fs : List (Str × D)} {n : Nat} {d : D} {env : AE} {ah a1 a2 a3 : AH}
theorem eFld (h1 : g env ah = .ok (.ref n) a1) (h2 : a1[n]? = some (.ins C fs)) (h3 : fs.lookup f = some d) : iFld C f g env ah = .ok d a1 := by
  unfold iFld
  rw [h1, Res.bind_ok]
  simp only [h2, h3, if_true]
theorem eSetF (h1 : g env ah = .ok d a1) (h2 : o env a1 = .ok (.ref n) a2) (h3 : a2[n]? = some (.ins C fs)) (hl : fs.length < 999) : sSetF C f o g env ah = .ok (.nx, env) (a2.set n (.ins C (putA f d fs))) := by
  unfold sSetF
  rw [h1, Res.bind_ok, h2, Res.bind_ok]
  simp only [h3]
  rw [if_pos (by first | exact ⟨rfl, hl⟩ | exact ⟨trivial, hl⟩)]
theorem eMeth {F : List D → AH → Res D} {es : List FE} {ds : List D} (h1 : o env ah = .ok (.ref n) a1) (h2 : a1[n]? = some (.ins C fs)) (h3 : fs.lookup m = none) (h4 : iArgs es env a1 = .ok ds a2) (h5 : F (.ref n :: ds) a2 = .ok d a3) : iMeth C m F o es env ah = .ok d a3 := by
  unfold iMeth
  rw [h1, Res.bind_ok]
  simp only [h2]
  rw [if_pos (by first | exact ⟨rfl, h3⟩ | exact ⟨trivial, h3⟩), h4, Res.bind_ok, h5]
  rfl
theorem eMethX {F : List D → AH → Res D} {es : List FE} {ds : List D} (h1 : o env ah = .ok (.ref n) a1) (h2 : a1[n]? = some (.ins C fs)) (h3 : fs.lookup m = none) (h4 : iArgs es env a1 = .ok ds a2) (h5 : F (.ref n :: ds) a2 = .ok d a3) : iMethX C m F o es env ah = .ok d a3 := by
  unfold iMethX
  rw [h1, Res.bind_ok]
  simp only [h2]
  rw [if_pos (by first | exact ⟨rfl, h3⟩ | exact ⟨trivial, h3⟩), h4, Res.bind_ok, h5]
theorem eMethXx {F : List D → AH → Res D} {es : List FE} {ds : List D} {x : AX} {e : AE} (h1 : o env ah = .ok (.ref n) a1) (h2 : a1[n]? = some (.ins C fs)) (h3 : fs.lookup m = none) (h4 : iArgs es env a1 = .ok ds a2) (h5 : F (.ref n :: ds) a2 = .exc x e a3) : iMethX C m F o es env ah = .exc x env a3 := by
  unfold iMethX
  rw [h1, Res.bind_ok]
  simp only [h2]
  rw [if_pos (by first | exact ⟨rfl, h3⟩ | exact ⟨trivial, h3⟩), h4, Res.bind_ok, h5]
end
def row (m : Nat) : D := .tup [dI m, dI 0, dI 0, dI 0, dI 0]
def sh (m : Nat) : D := .tup [row m]
def fin0 : D := .tup [dI 0, dI 0, dI 0]
def flds (m p l : Nat) : List (Str × D) := [("_wanted", dI 5), ("_sheets", sh m), ("_finished", fin0), ("_past", .ref p), ("_lines", .ref l)]
abbrev jobO (m p l : Nat) : AO := .ins "Job" (flds m p l)
def pst (past : List Nat) : List D := past.map fun x => .tup [sh x, fin0]
theorem lk_s (m p l : Nat) : (flds m p l).lookup ("_sheets" : Str) = some (sh m) := rfl
theorem lk_f (m p l : Nat) : (flds m p l).lookup ("_finished" : Str) = some fin0 := rfl
theorem lk_p (m p l : Nat) : (flds m p l).lookup ("_past" : Str) = some (.ref p) := rfl
theorem lk_l (m p l : Nat) : (flds m p l).lookup ("_lines" : Str) = some (.ref l) := rfl
theorem pt_s (m m2 p l : Nat) : putA "_sheets" (sh m2) (flds m p l) = flds m2 p l := rfl
theorem pt_f (m p l : Nat) : putA "_finished" fin0 (flds m p l) = flds m p l := rfl
structure Jb (o p l m : Nat) (past : List Nat) (k : Nat) (a : AH) : Prop where
  ob : a[o]? = some (jobO m p l)
  pa : a[p]? = some (.lst (pst past))
  li : ∃ ls : List D, ls.length ≤ k ∧ a[l]? = some (.lst ls)
  op : o ≠ p
  ol : o ≠ l
  pl : p ≠ l
def Fr (o p l : Nat) (a a' : AH) : Prop := a.length ≤ a'.length ∧ ∀ j, j < a.length → j ≠ o → j ≠ p → j ≠ l → a'[j]? = a[j]?
theorem sc__law_cell : FnScope ["script", "k"] ["script", "k"] (defScope s__law_cell) := ⟨rfl, rfl, rfl, by decide +kernel, rfl, by decide +kernel, by decide +kernel⟩
def B__law_cell : FS :=
  (sSeq (sIf (iTr (iBin oLt (iVar 1) (iCall oLen [(iVar 0)]))) (sRet (iBin oIx (iVar 0) (iVar 1))) sNx)
  (sRet (iC (.int 0))))
theorem raw__law_cell (M : Mods w K mg) : Ok1 P w K mg base "_law_cell" 1 ["script", "k"] (iBody 2 B__law_cell) := by
  obtain ⟨f, fd, F, hm, hb⟩ := M.f__law_cell
  refine ⟨f, fd, hm, F.kp, hb, fn_ok (k := 0) F sc__law_cell fun cdv A outer s H E hr hn => ?_⟩
  have hu65 := room65 hr
  have hu1 := room1 hr
  exact (s_cons (s_if (t_cmp (j_pc op_ltA ok_cmp (j_var 1) (j_callB call_lenA ok_len (by exact rfl) M.nb_len boot_len (a_cons (j_var 0) a_nil)))) (s_one (s_ret (j_ix hu1 (j_var 0) (j_var 1)))) s_nil)
  (s_one (s_ret j_int)))
def F__law_cell : List D → AH → Res D := iBody 2 B__law_cell
theorem cell_ex (ns : List Int) (k : Nat) (ah : AH) : ∃ v : Int, F__law_cell [.lst (ns.map D.int), dI k] ah = .ok (.int v) ah := by
  by_cases h : k < ns.length
  · exact ⟨ns[k], eBodyR (eSeqR (eSIfT (eTr (eBin (eV rfl) (eCall (eA (eV rfl) eA0) oLen_lstI) (by rw [show dI k = D.int (k : Int) from rfl, oLtI, decide_eq_true (by omega)]))) (eRet (eBin (eV rfl) (eV rfl) (ix_lst (atI_map h) rfl)))))⟩
  · exact ⟨0, eBodyR (eSeq (eSIfF (eTr (eBin (eV rfl) (eCall (eA (eV rfl) eA0) oLen_lstI) (by rw [show dI k = D.int (k : Int) from rfl, oLtI, decide_eq_false (by omega)]))) eNx) (eRet eC))⟩
theorem sc__law_digits : FnScope ["script", "first", "last", "digits", "k", "cell", "place", "seed"] ["script", "first", "last"] (defScope s__law_digits) := ⟨rfl, rfl, rfl, by decide +kernel, rfl, by decide +kernel, by decide +kernel⟩
abbrev L1__law_digits : FS := (sIf (iTr (iBin oGt (iVar 5) (iC (.int 0)))) (sSeq (sDrop (iApp (iVar 3) (iBin oMod (iCall oInt [(iVar 5)]) (iC (.int 1000)))))
  (sAsg (ptB (.nm 5)) (iBin oDiv (iVar 5) (iC (.int 1000))))) sNx)
abbrev L2__law_digits : FS := (sSeq (sAsg (ptB (.nm 7)) (iBin oMod (iCall oInt [(iBin oAdd (iBin oAdd (iBin oMul (iVar 7) (iC (.int 16807))) (iBin oMul (iC (.int 7)) (iVar 6))) (iC (.int 1)))]) (iC (.int 2147483647))))
  (sDrop (iApp (iVar 3) (iBin oMod (iCall oInt [(iBin oDiv (iVar 7) (iC (.int 997)))]) (iC (.int 1000))))))
abbrev L3__law_digits : FS := (sSeq (sAsg (ptB (.nm 5)) (iDef F__law_cell [(iVar 0), (iVar 4)]))
  (sSeq (sIf (iTr (iBin oLt (iVar 5) (iC (.int 0)))) (sAsg (ptB (.nm 5)) (iBin oSub (iC (.int 1)) (iBin oMul (iC (.int 2)) (iVar 5)))) sNx)
  (sIf (iTr (iBin oGe (iVar 5) (iBin oPow (iC (.int 10)) (iC (.int 18))))) (sFor (iRange1 [(iC (.int 60))]) (ptB (.nm 6)) L1__law_digits) (sSeq (sAsg (ptB (.nm 7)) (iBin oMod (iCall oInt [(iBin oAdd (iBin oAdd (iBin oMul (iVar 5) (iC (.int 48271))) (iBin oMul (iVar 4) (iC (.int 69621)))) (iC (.int 11)))]) (iC (.int 2147483647))))
  (sFor (iRange1 [(iC (.int 12))]) (ptB (.nm 6)) L2__law_digits)))))
def B__law_digits : FS :=
  (sSeq (sAsg (ptB (.nm 3)) (iCall oLstM []))
  (sSeq (sFor (iRange2 [(iVar 1), (iVar 2)]) (ptB (.nm 4)) L3__law_digits)
  (sRet (iFz (iVar 3)))))
theorem raw__law_digits (M : Mods w K mg) (h__law_cell : Ok1 P w K mg base "_law_cell" 1 ["script", "k"] F__law_cell) : Ok1 P w K mg base "_law_digits" 2 ["script", "first", "last"] (iBody 8 B__law_digits) := by
  obtain ⟨f, fd, F, hm, hb⟩ := M.f__law_digits
  refine ⟨f, fd, hm, F.kp, hb, fn_ok (k := 1) F sc__law_digits fun cdv A outer s H E hr hn => ?_⟩
  have hr_law_cell := hr.mono (j := 1) (by decide)
  have hu65 := room65 hr
  have hu1 := room1 hr
  exact (s_cons (s_set 3 sc__law_digits.nd (j_lstM a_nil))
  (s_cons (s_for PassesOwn.never rfl (i_range2 (by exact rfl) M.nb_range (a_cons (j_var 1) (a_cons (j_var 2) a_nil))) (g_nm 4 sc__law_digits.nd) (s_cons (s_set 5 sc__law_digits.nd (h__law_cell.jd hr_law_cell hn (by exact rfl) rfl (a_cons (j_var 0) (a_cons (j_var 4) a_nil))))
  (s_cons (s_if (t_cmp (j_pc op_ltA ok_cmp (j_var 5) j_int)) (s_one (s_set 5 sc__law_digits.nd (j_bin op_sub ok_sub j_int (j_bin op_mulA ok_mul j_int (j_var 5))))) s_nil)
  (s_one (s_if (t_cmp (j_pc op_geA ok_cmp (j_var 5) (j_bin op_pow ok_i j_int j_int))) (s_one (s_for PassesOwn.never rfl (i_range1 (by exact rfl) M.nb_range (a_cons j_int a_nil)) (g_nm 6 sc__law_digits.nd) (s_one (s_if (t_cmp (j_pc op_gtA ok_cmp (j_var 5) j_int)) (s_cons (s_drop (j_app (j_var 3) (j_bin op_mod ok_i (j_callT call_int1 ok_int (by exact rfl) M.nb_int boot_int (a_cons (j_var 5) a_nil)) j_int)))
  (s_one (s_set 5 sc__law_digits.nd (j_bin op_fdiv ok_i (j_var 5) j_int)))) s_nil)))) (s_cons (s_set 7 sc__law_digits.nd (j_bin op_mod ok_i (j_callT call_int1 ok_int (by exact rfl) M.nb_int boot_int (a_cons (j_bin op_addA ok_add (j_bin op_addA ok_add (j_bin op_mulA ok_mul (j_var 5) j_int) (j_bin op_mulA ok_mul (j_var 4) j_int)) j_int) a_nil)) j_int))
  (s_one (s_for PassesOwn.never rfl (i_range1 (by exact rfl) M.nb_range (a_cons j_int a_nil)) (g_nm 6 sc__law_digits.nd) (s_cons (s_set 7 sc__law_digits.nd (j_bin op_mod ok_i (j_callT call_int1 ok_int (by exact rfl) M.nb_int boot_int (a_cons (j_bin op_addA ok_add (j_bin op_addA ok_add (j_bin op_mulA ok_mul (j_var 7) j_int) (j_bin op_mulA ok_mul j_int (j_var 6))) j_int) a_nil)) j_int))
  (s_one (s_drop (j_app (j_var 3) (j_bin op_mod ok_i (j_callT call_int1 ok_int (by exact rfl) M.nb_int boot_int (a_cons (j_bin op_fdiv ok_i (j_var 7) j_int) a_nil)) j_int)))))))))))))
  (s_one (s_ret (j_fz (j_var 3))))))
def F__law_digits : List D → AH → Res D := iBody 8 B__law_digits
/-- the digits so far: at most n -/
def Dg (ah : AH) (n : Nat) (a : AH) : Prop := ∃ ds : List Int, ds.length ≤ n ∧ a = ah ++ [.lst (ds.map D.int)]
theorem Dg.app {ah a : AH} {n : Nat} (h : Dg ah n a) (hn : n ≤ 4000) (env : AE) (f : FE) (v : Int) (h3 : env[3]? = some (some (.ref ah.length))) (hf : f env a = .ok (.int v) a) : ∃ a', sDrop (iApp (iVar 3) f) env a = .ok (.nx, env) a' ∧ Dg ah (n + 1) a' := by
  obtain ⟨ds, h1, rfl⟩ := h
  refine ⟨_, eDrop (eApp (eV h3) last_at hf last_at (by rw [List.length_map, sizeLine_eq]; omega)), ds ++ [v], by simp; omega, ?_⟩
  rw [set_last, List.map_append]
  rfl
theorem digits_ex (ns : List Int) (ah : AH) (z : Nat) (hz : z ≤ 60) : ∃ (ds : List Int) (u : AH), F__law_digits [.lst (ns.map D.int), .int 0, .int (z : Int)] ah = .ok (.lst (ds.map D.int)) (ah ++ u) ∧ ds.length ≤ 4000 := by
  let S : D := .lst (ns.map D.int)
  let E (e4 e5 e6 e7 : Option D) : AE := [some S, some (.int 0), some (.int (z : Int)), some (.ref ah.length), e4, e5, e6, e7]
  have big : ∀ (v : Int) (m : Nat), m ≤ 3900 → ∀ (e4 e6 e7 : Option D) (a : AH), Dg ah m a → ∃ e5' e6' a', sFor (iRange1 [(iC (.int 60))]) (ptB (.nm 6)) (sIf (iTr (iBin oGt (iVar 5) (iC (.int 0)))) (sSeq (sDrop (iApp (iVar 3) (iBin oMod (iCall oInt [(iVar 5)]) (iC (.int 1000))))) (sAsg (ptB (.nm 5)) (iBin oDiv (iVar 5) (iC (.int 1000))))) sNx)
      (E e4 (some (.int v)) e6 e7) a = .ok (.nx, E e4 e5' e6' e7) a' ∧ Dg ah (m + 60) a' := by
    intro v m hm e4 e6 e7 a ha
    have loop := forL_inv (g := ptB (.nm 6)) (body := (sIf (iTr (iBin oGt (iVar 5) (iC (.int 0)))) (sSeq (sDrop (iApp (iVar 3) (iBin oMod (iCall oInt [(iVar 5)]) (iC (.int 1000))))) (sAsg (ptB (.nm 5)) (iBin oDiv (iVar 5) (iC (.int 1000))))) sNx))
      (I := fun i env a => ∃ (v : Int) (e6 : Option D), env = E e4 (some (.int v)) e6 e7 ∧ i ≤ 60 ∧ Dg ah (m + i) a) (ds := (List.range 60).map dI) (k := 0) (env := E e4 (some (.int v)) e6 e7) (ah := a) ⟨v, e6, rfl, by omega, ha⟩ ?_
    · obtain ⟨env', a', l1, v', e6', rfl, _, k⟩ := loop
      rw [List.length_map, List.length_range, Nat.zero_add] at k
      exact ⟨_, _, a', eFor (eRg1 (n := 60) eC (by omega)) l1, k⟩
    · rintro i d env a hd ⟨v, e6, rfl, hi, k⟩
      have hl := (List.getElem?_eq_some_iff.mp hd).1
      rw [List.length_map, List.length_range] at hl
      rw [Nat.zero_add] at *
      by_cases h0 : 0 < v
      · obtain ⟨a2, s1, s2⟩ := k.app (by omega) (E e4 (some (.int v)) (some d) e7) (iBin oMod (iCall oInt [(iVar 5)]) (iC (.int 1000))) (v % 1000) rfl (eBin (eCall (eA (eV rfl) eA0) oInt_int) eC (oMod_int (by decide)))
        exact ⟨_, .nx, _, a2, rfl, .inl rfl, eSIfT (eTr (eBin (eV rfl) eC (by rw [oGt_int, decide_eq_true h0]))) (eSeq s1 (eAsg (eBin (eV rfl) eC (oDiv_int (by decide))) rfl)), _, _, rfl, by omega, s2⟩
      · obtain ⟨ds, z1, z2⟩ := k
        exact ⟨_, .nx, _, a, rfl, .inl rfl, eSIfF (eTr (eBin (eV rfl) eC (by rw [oGt_int, decide_eq_false h0]))) eNx, v, some d, rfl, by omega, ds, by omega, z2⟩
  have small' : ∀ (v : Int) (m : Nat), m ≤ 3900 → ∀ (e4 e5 e6 : Option D) (a : AH), Dg ah m a → ∃ e6' e7' a', sFor (iRange1 [(iC (.int 12))]) (ptB (.nm 6)) (sSeq (sAsg (ptB (.nm 7)) (iBin oMod (iCall oInt [(iBin oAdd (iBin oAdd (iBin oMul (iVar 7) (iC (.int 16807))) (iBin oMul (iC (.int 7)) (iVar 6))) (iC (.int 1)))]) (iC (.int 2147483647))))
      (sDrop (iApp (iVar 3) (iBin oMod (iCall oInt [(iBin oDiv (iVar 7) (iC (.int 997)))]) (iC (.int 1000)))))) (E e4 e5 e6 (some (.int v))) a = .ok (.nx, E e4 e5 e6' e7') a' ∧ Dg ah (m + 60) a' := by
    intro v m hm e4 e5 e6 a ha
    have loop := forL_inv (g := ptB (.nm 6)) (body := (sSeq (sAsg (ptB (.nm 7)) (iBin oMod (iCall oInt [(iBin oAdd (iBin oAdd (iBin oMul (iVar 7) (iC (.int 16807))) (iBin oMul (iC (.int 7)) (iVar 6))) (iC (.int 1)))]) (iC (.int 2147483647))))
        (sDrop (iApp (iVar 3) (iBin oMod (iCall oInt [(iBin oDiv (iVar 7) (iC (.int 997)))]) (iC (.int 1000)))))))
      (I := fun i env a => ∃ (v : Int) (e6 : Option D), env = E e4 e5 e6 (some (.int v)) ∧ i ≤ 12 ∧ Dg ah (m + i) a) (ds := (List.range 12).map dI) (k := 0) (env := E e4 e5 e6 (some (.int v))) (ah := a) ⟨v, e6, rfl, by omega, ha⟩ ?_
    · obtain ⟨env', a', l1, v', e6', rfl, _, ds, z1, z2⟩ := loop
      rw [List.length_map, List.length_range, Nat.zero_add] at z1
      exact ⟨_, _, a', eFor (eRg1 (n := 12) eC (by omega)) l1, ds, by omega, z2⟩
    · rintro i d env a hd ⟨v, e6, rfl, hi, k⟩
      have hl := (List.getElem?_eq_some_iff.mp hd).1
      rw [List.length_map, List.length_range] at hl
      rw [Nat.zero_add] at *
      rw [List.getElem?_map, List.getElem?_range hl] at hd
      obtain rfl : dI i = d := by simpa using hd
      have e1 : (iBin oMod (iCall oInt [(iBin oAdd (iBin oAdd (iBin oMul (iVar 7) (iC (.int 16807))) (iBin oMul (iC (.int 7)) (iVar 6))) (iC (.int 1)))]) (iC (.int 2147483647))) (E e4 e5 (some (dI i)) (some (.int v))) a = .ok (.int ((v * 16807 + 7 * (i : Int) + 1) % 2147483647)) a :=
        eBin (eCall (eA (eBin (eBin (eBin (eV rfl) eC (oMulR (by decide) (by decide))) (eBin eC (eV (d := .int (i : Int)) rfl) (eMulSmall (by decide) (by decide))) oAdd_int) eC oAdd_int) eA0) oInt_int) eC (oMod_int (by decide))
      obtain ⟨a2, s1, s2⟩ := k.app (by omega) (E e4 e5 (some (dI i)) (some (.int ((v * 16807 + 7 * (i : Int) + 1) % 2147483647)))) (iBin oMod (iCall oInt [(iBin oDiv (iVar 7) (iC (.int 997)))]) (iC (.int 1000))) _ rfl
        (eBin (eCall (eA (eBin (eV rfl) eC (oDiv_int (by decide))) eA0) oInt_int) eC (oMod_int (by decide)))
      exact ⟨_, .nx, _, a2, rfl, .inl rfl, eSeq (eAsg e1 rfl) s1, _, _, rfl, by omega, s2⟩
  have loop := forL_inv (g := ptB (.nm 4)) (body := (sSeq (sAsg (ptB (.nm 5)) (iDef F__law_cell [(iVar 0), (iVar 4)]))
      (sSeq (sIf (iTr (iBin oLt (iVar 5) (iC (.int 0)))) (sAsg (ptB (.nm 5)) (iBin oSub (iC (.int 1)) (iBin oMul (iC (.int 2)) (iVar 5)))) sNx)
      (sIf (iTr (iBin oGe (iVar 5) (iBin oPow (iC (.int 10)) (iC (.int 18))))) (sFor (iRange1 [(iC (.int 60))]) (ptB (.nm 6)) (sIf (iTr (iBin oGt (iVar 5) (iC (.int 0)))) (sSeq (sDrop (iApp (iVar 3) (iBin oMod (iCall oInt [(iVar 5)]) (iC (.int 1000))))) (sAsg (ptB (.nm 5)) (iBin oDiv (iVar 5) (iC (.int 1000))))) sNx))
      (sSeq (sAsg (ptB (.nm 7)) (iBin oMod (iCall oInt [(iBin oAdd (iBin oAdd (iBin oMul (iVar 5) (iC (.int 48271))) (iBin oMul (iVar 4) (iC (.int 69621)))) (iC (.int 11)))]) (iC (.int 2147483647))))
      (sFor (iRange1 [(iC (.int 12))]) (ptB (.nm 6)) (sSeq (sAsg (ptB (.nm 7)) (iBin oMod (iCall oInt [(iBin oAdd (iBin oAdd (iBin oMul (iVar 7) (iC (.int 16807))) (iBin oMul (iC (.int 7)) (iVar 6))) (iC (.int 1)))]) (iC (.int 2147483647))))
      (sDrop (iApp (iVar 3) (iBin oMod (iCall oInt [(iBin oDiv (iVar 7) (iC (.int 997)))]) (iC (.int 1000))))))))))))
      (I := fun i env a => ∃ e4 e5 e6 e7, env = E e4 e5 e6 e7 ∧ i ≤ z ∧ Dg ah (60 * i) a) (ds := (List.range z).map dI) (k := 0) (env := E none none none none) (ah := ah ++ [.lst []]) ⟨none, none, none, none, rfl, by omega, [], by simp, rfl⟩ ?_
  · obtain ⟨env', a', l1, e4, e5, e6, e7, rfl, _, ds, z1, rfl⟩ := loop
    rw [List.length_map, List.length_range] at z1
    exact ⟨ds, [.fz (.lst (ds.map D.int))], eBodyR (eSeq (eAsg (eCall eA0 lstM0) rfl) (eSeq (eFor (eRg2 (n := z) (eV rfl) (eV rfl) (by omega)) l1) (eRet (eFz (eV rfl) fz_last)))), by omega⟩
  · rintro i d env a hd ⟨e4, e5, e6, e7, rfl, hi, k⟩
    have hl := (List.getElem?_eq_some_iff.mp hd).1
    rw [List.length_map, List.length_range] at hl
    rw [Nat.zero_add] at *
    rw [List.getElem?_map, List.getElem?_range hl] at hd
    obtain rfl : dI i = d := by simpa using hd
    obtain ⟨v, hv⟩ := cell_ex ns i a
    obtain ⟨v2, hv2⟩ : ∃ v2 : Int, (sIf (iTr (iBin oLt (iVar 5) (iC (.int 0)))) (sAsg (ptB (.nm 5)) (iBin oSub (iC (.int 1)) (iBin oMul (iC (.int 2)) (iVar 5)))) sNx) (E (some (dI i)) (some (.int v)) e6 e7) a = .ok (.nx, E (some (dI i)) (some (.int v2)) e6 e7) a := by
      by_cases h0 : v < 0
      · exact ⟨1 - 2 * v, eSIfT (eTr (eBin (eV rfl) eC (by rw [oLtI, decide_eq_true h0]))) (eAsg (eBin eC (eBin eC (eV rfl) (eMulSmall (by decide) (by decide))) oSub_int) rfl)⟩
      · exact ⟨v, eSIfF (eTr (eBin (eV rfl) eC (by rw [oLtI, decide_eq_false h0]))) eNx⟩
    have pw : ∀ (env : AE) (a : AH), (iBin oPow (iC (.int 10)) (iC (.int 18))) env a = .ok (.int (10 ^ (18 : Int).toNat)) a := fun env a => eBin eC eC (oPow_int ⟨by decide, by decide, by decide⟩)
    by_cases h1 : (10 : Int) ^ (18 : Int).toNat ≤ v2
    · obtain ⟨e5', e6', a', q1, q2⟩ := big v2 (60 * i) (by omega) (some (dI i)) e6 e7 a k
      exact ⟨_, .nx, _, a', rfl, .inl rfl, eSeq (eAsg (eDef (eA (eV rfl) (eA (eV rfl) eA0)) hv) rfl) (eSeq hv2 (eSIfT (eTr (eBin (eV rfl) (pw _ _) (by rw [oGe_int, decide_eq_true h1]))) q1)), _, _, _, _, rfl, by omega, by rw [Nat.mul_add]; exact q2⟩
    · have e1 : (iBin oMod (iCall oInt [(iBin oAdd (iBin oAdd (iBin oMul (iVar 5) (iC (.int 48271))) (iBin oMul (iVar 4) (iC (.int 69621)))) (iC (.int 11)))]) (iC (.int 2147483647))) (E (some (dI i)) (some (.int v2)) e6 e7) a = .ok (.int ((v2 * 48271 + (i : Int) * 69621 + 11) % 2147483647)) a :=
        eBin (eCall (eA (eBin (eBin (eBin (eV rfl) eC (oMulR (by decide) (by decide))) (eBin (eV (d := .int (i : Int)) rfl) eC (oMulR (by decide) (by decide))) oAdd_int) eC oAdd_int) eA0) oInt_int) eC (oMod_int (by decide))
      obtain ⟨e6', e7', a', q1, q2⟩ := small' ((v2 * 48271 + (i : Int) * 69621 + 11) % 2147483647) (60 * i) (by omega) (some (dI i)) (some (.int v2)) e6 a k
      exact ⟨_, .nx, _, a', rfl, .inl rfl, eSeq (eAsg (eDef (eA (eV rfl) (eA (eV rfl) eA0)) hv) rfl) (eSeq hv2 (eSIfF (eTr (eBin (eV rfl) (pw _ _) (by rw [oGe_int, decide_eq_false h1]))) (eSeq (eAsg e1 rfl) q1))), _, _, _, _, rfl, by omega, by rw [Nat.mul_add]; exact q2⟩
theorem sc_Job___init__ : FnScope ["self", "sheets", "copies"] ["self", "sheets", "copies"] (defScope s_Job___init__) := ⟨rfl, rfl, rfl, by decide +kernel, rfl, by decide +kernel, by decide +kernel⟩
def B_Job___init__ : FS :=
  (sSeq (sSetF "Job" "_wanted" (iVar 0) (iVar 2))
  (sSeq (sSetF "Job" "_sheets" (iVar 0) (iBin oMulT (iCall oTup [(iCall oTup [(iC (.int 0)), (iC (.int 0)), (iC (.int 0)), (iC (.int 0)), (iC (.int 0))])]) (iVar 1)))
  (sSeq (sSetF "Job" "_finished" (iVar 0) (iCall oTup [(iC (.int 0)), (iC (.int 0)), (iC (.int 0))]))
  (sSeq (sSetF "Job" "_past" (iVar 0) (iCall oLstM []))
  (sSetF "Job" "_lines" (iVar 0) (iCall oLstM []))))))
theorem raw_Job___init__ (M : Mods w K mg) : OkM P w K mg base "Job" "__init__" 1 ["self", "sheets", "copies"] (iBody 3 B_Job___init__) := by
  obtain ⟨f, fd, hm, F, hb⟩ := M.f_Job___init__
  refine ⟨f, fd, hm, hb, fn_ok (k := 0) F sc_Job___init__ fun cdv A outer s H E hr hn => ?_⟩
  have hu65 := room65 hr
  have hu1 := room1 hr
  exact (s_cons (s_setF (f := "_wanted") M.c_Job (j_var 0) (j_var 2))
  (s_cons (s_setF (f := "_sheets") M.c_Job (j_var 0) (j_bin op_mulT ok_mulT (j_tup (a_cons (j_tup (a_cons j_int (a_cons j_int (a_cons j_int (a_cons j_int (a_cons j_int a_nil)))))) a_nil)) (j_var 1)))
  (s_cons (s_setF (f := "_finished") M.c_Job (j_var 0) (j_tup (a_cons j_int (a_cons j_int (a_cons j_int a_nil)))))
  (s_cons (s_setF (f := "_past") M.c_Job (j_var 0) (j_lstM a_nil))
  (s_one (s_setF (f := "_lines") M.c_Job (j_var 0) (j_lstM a_nil)))))))
def F_Job___init__ : List D → AH → Res D := iBody 3 B_Job___init__
theorem at_last {a : AH} {o : AO} : (a ++ [o])[a.length]? = some o := by simp
def fl3 : List (Str × D) := [("_wanted", dI 5), ("_sheets", sh 0), ("_finished", fin0)]
def fl4 (p : Nat) : List (Str × D) := [("_wanted", dI 5), ("_sheets", sh 0), ("_finished", fin0), ("_past", .ref p)]
theorem init_eq {A : AH} : F_Job___init__ [.ref A.length, dI 1, dI 5] (A ++ [.ins "Job" []]) = .ok .non (A ++ [jobO 0 (A.length + 1) (A.length + 2), .lst [], .lst []]) := by
  have c1 := eSetF (C := "Job") (f := "_wanted") (o := iVar 0) (g := iVar 2) (env := [some (.ref A.length), some (dI 1), some (dI 5)]) (ah := A ++ [.ins "Job" []]) (eV rfl) (eV rfl) at_last (by decide)
  rw [set_last] at c1
  have c2 := eSetF (C := "Job") (f := "_sheets") (o := iVar 0) (g := iBin oMulT (iCall oTup [(iCall oTup [(iC (.int 0)), (iC (.int 0)), (iC (.int 0)), (iC (.int 0)), (iC (.int 0))])]) (iVar 1)) (env := [some (.ref A.length), some (dI 1), some (dI 5)]) (ah := A ++ [.ins "Job" (putA "_wanted" (dI 5) [])]) (d := sh 0) (eBin (eCall (eA (eCall (eA eC (eA eC (eA eC (eA eC (eA eC eA0))))) rfl) eA0) rfl) (eV rfl) (mulT1 (by decide))) (eV rfl) at_last (by decide)
  rw [set_last] at c2
  have c3 := eSetF (C := "Job") (f := "_finished") (o := iVar 0) (g := iCall oTup [(iC (.int 0)), (iC (.int 0)), (iC (.int 0))]) (env := [some (.ref A.length), some (dI 1), some (dI 5)]) (ah := A ++ [.ins "Job" (putA "_sheets" (sh 0) (putA "_wanted" (dI 5) []))]) (d := fin0) (eCall (eA eC (eA eC (eA eC eA0))) rfl) (eV rfl) at_last (by decide)
  rw [set_last] at c3
  have c4 := eSetF (C := "Job") (f := "_past") (o := iVar 0) (g := iCall oLstM []) (env := [some (.ref A.length), some (dI 1), some (dI 5)]) (ah := A ++ [.ins "Job" fl3]) (d := .ref (A.length + 1)) (n := A.length) (fs := fl3) (a1 := A ++ [.ins "Job" fl3] ++ [.lst []]) (a2 := A ++ [.ins "Job" fl3] ++ [.lst []]) (okd (eCall eA0 rfl) (by rw [List.length_append]; rfl)) (eV rfl) (by simp) (by decide)
  have c5 := eSetF (C := "Job") (f := "_lines") (o := iVar 0) (g := iCall oLstM []) (env := [some (.ref A.length), some (dI 1), some (dI 5)]) (ah := A ++ [.ins "Job" (fl4 (A.length + 1)), .lst []]) (d := .ref (A.length + 2)) (n := A.length) (fs := fl4 (A.length + 1)) (a1 := A ++ [.ins "Job" (fl4 (A.length + 1)), .lst []] ++ [.lst []]) (a2 := A ++ [.ins "Job" (fl4 (A.length + 1)), .lst []] ++ [.lst []]) (okd (eCall eA0 rfl) (by rw [List.length_append]; rfl)) (eV rfl) (by simp) (by show 4 < 999; decide)
  rw [List.append_assoc, List.set_append_right _ _ (Nat.le_refl _), Nat.sub_self] at c4
  rw [List.append_assoc, List.set_append_right _ _ (Nat.le_refl _), Nat.sub_self] at c5
  exact eBodyN (eSeq c1 (eSeq c2 (eSeq c3 (eSeq c4 c5))))
theorem sc__law_draw : FnScope ["box", "many", "at"] ["box", "many"] (defScope s__law_draw) := ⟨rfl, rfl, rfl, by decide +kernel, rfl, by decide +kernel, by decide +kernel⟩
def B__law_draw : FS :=
  (sSeq (sAsg (ptB (.nm 2)) (iBin oIx (iVar 0) (iC (.int 1))))
  (sSeq (sPut (iVar 0) (iC (.int 1)) (iBin oAdd (iVar 2) (iC (.int 1))))
  (sSeq (sIf (iTr (iBin oLt (iVar 2) (iCall oLen [(iBin oIx (iVar 0) (iC (.int 0)))]))) (sRet (iBin oMod (iCall oInt [(iBin oIx (iBin oIx (iVar 0) (iC (.int 0))) (iVar 2))]) (iVar 1))) sNx)
  (sRet (iBin oMod (iCall oInt [(iBin oAdd (iBin oMul (iVar 2) (iC (.int 7))) (iC (.int 3)))]) (iVar 1))))))
theorem raw__law_draw (M : Mods w K mg) : Ok1 P w K mg base "_law_draw" 1 ["box", "many"] (iBody 3 B__law_draw) := by
  obtain ⟨f, fd, F, hm, hb⟩ := M.f__law_draw
  refine ⟨f, fd, hm, F.kp, hb, fn_ok (k := 0) F sc__law_draw fun cdv A outer s H E hr hn => ?_⟩
  have hu65 := room65 hr
  have hu1 := room1 hr
  exact (s_cons (s_set 2 sc__law_draw.nd (j_ix hu1 (j_var 0) j_int))
  (s_cons (s_put hu1 (j_var 0) j_int (j_bin op_addA ok_add (j_var 2) j_int))
  (s_cons (s_if (t_cmp (j_pc op_ltA ok_cmp (j_var 2) (j_callB call_lenA ok_len (by exact rfl) M.nb_len boot_len (a_cons (j_ix hu1 (j_var 0) j_int) a_nil)))) (s_one (s_ret (j_bin op_mod ok_i (j_callT call_int1 ok_int (by exact rfl) M.nb_int boot_int (a_cons (j_ix hu1 (j_ix hu1 (j_var 0) j_int) (j_var 2)) a_nil)) (j_var 1)))) s_nil)
  (s_one (s_ret (j_bin op_mod ok_i (j_callT call_int1 ok_int (by exact rfl) M.nb_int boot_int (a_cons (j_bin op_addA ok_add (j_bin op_mulA ok_mul (j_var 2) j_int) j_int) a_nil)) (j_var 1)))))))
def F__law_draw : List D → AH → Res D := iBody 3 B__law_draw
/-- the box: digits, and how many of them are drawn -/
def Box (b : Nat) (a : AH) : Prop := ∃ (ds : List Int) (n : Nat), ds.length ≤ 4000 ∧ a[b]? = some (.lst [.lst (ds.map D.int), dI n])
theorem ix_ref {b : Nat} {a : AH} {xs : List D} {i : Nat} {d : D} (h : a[b]? = some (.lst xs)) (hd : xs[i]? = some d) : oIx (.ref b) (.int (i : Int)) a = .ok d a := by
  have e : atI xs (i : Int) = some d := by rw [at_nat, hd]
  unfold oIx seqD
  simp only [h, e]
theorem draw_ex {b : Nat} {a : AH} {m : Nat} (h : Box b a) (hm : 0 < m) : ∃ (r : Nat) (o : AO), r < m ∧ F__law_draw [.ref b, dI m] a = .ok (dI r) (a.set b o) ∧ Box b (a.set b o) := by
  obtain ⟨ds, n, hz, hb⟩ := h
  have hlt := (List.getElem?_eq_some_iff.mp hb).1
  have put : putD (.ref b) (.int 1) (.int ((n : Int) + 1)) a = some (a.set b (.lst [.lst (ds.map D.int), dI (n + 1)])) := by
    unfold putD
    simp only [hb]
    rfl
  have hb2 : (a.set b (.lst [.lst (ds.map D.int), dI (n + 1)]))[b]? = some (.lst [.lst (ds.map D.int), dI (n + 1)]) := List.getElem?_set_self hlt
  have res : ∀ v : Int, ∃ r : Nat, r < m ∧ v % (m : Int) = (r : Int) := fun v => by
    have h1 := Int.emod_nonneg v (b := (m : Int)) (by omega)
    have h2 := Int.emod_lt_of_pos v (b := (m : Int)) (by omega)
    exact ⟨(v % (m : Int)).toNat, by omega, by omega⟩
  by_cases hn : n < ds.length
  · obtain ⟨r, hr, e⟩ := res ds[n]
    refine ⟨r, _, hr, okd (u := .int (ds[n] % (m : Int))) ?_ (by rw [e]; rfl), ds, n + 1, hz, hb2⟩
    exact eBodyR (eSeq (eAsg (eBin (eV rfl) eC (ix_ref (i := 1) hb rfl)) rfl) (eSeq (ePut (eBin (eV (d := .int (n : Int)) rfl) eC oAdd_int) (eV rfl) eC put)
      (eSeqR (eSIfT (eTr (eBin (eV (d := .int (n : Int)) rfl) (eCall (eA (eBin (eV rfl) eC (ix_ref (i := 0) hb2 rfl)) eA0) oLen_lstI) (by rw [oLtI, decide_eq_true (by omega)])))
        (eRet (eBin (eCall (eA (eBin (eBin (eV rfl) eC (ix_ref (i := 0) hb2 rfl)) (eV (d := .int (n : Int)) rfl) (ix_lst (atI_map hn) rfl)) eA0) oInt_int) (eV (d := .int (m : Int)) rfl) (oMod_int (by omega))))))))
  · obtain ⟨r, hr, e⟩ := res ((n : Int) * 7 + 3)
    refine ⟨r, _, hr, okd (u := .int (((n : Int) * 7 + 3) % (m : Int))) ?_ (by rw [e]; rfl), ds, n + 1, hz, hb2⟩
    exact eBodyR (eSeq (eAsg (eBin (eV rfl) eC (ix_ref (i := 1) hb rfl)) rfl) (eSeq (ePut (eBin (eV (d := .int (n : Int)) rfl) eC oAdd_int) (eV rfl) eC put)
      (eSeq (eSIfF (eTr (eBin (eV (d := .int (n : Int)) rfl) (eCall (eA (eBin (eV rfl) eC (ix_ref (i := 0) hb2 rfl)) eA0) oLen_lstI) (by rw [oLtI, decide_eq_false (by omega)]))) eNx)
        (eRet (eBin (eCall (eA (eBin (eBin (eV (d := .int (n : Int)) rfl) eC (oMulR (by decide) (by decide))) eC oAdd_int) eA0) oInt_int) (eV (d := .int (m : Int)) rfl) (oMod_int (by omega)))))))
/-- nothing but the box has changed -/
def Upd (b : Nat) (a a' : AH) : Prop := a'.length = a.length ∧ ∀ j, j ≠ b → a'[j]? = a[j]?
theorem Upd.refl {b : Nat} {a : AH} : Upd b a a := ⟨rfl, fun _ _ => rfl⟩
theorem Upd.trans {b : Nat} {a a1 a2 : AH} (h : Upd b a a1) (k : Upd b a1 a2) : Upd b a a2 := ⟨k.1.trans h.1, fun j n => (k.2 j n).trans (h.2 j n)⟩
theorem draw_up {b : Nat} {a : AH} (m : Nat) (h : Box b a) (hm : 0 < m) : ∃ (r : Nat) (a' : AH), r < m ∧ F__law_draw [.ref b, dI m] a = .ok (dI r) a' ∧ Box b a' ∧ Upd b a a' := by
  obtain ⟨r, o, h1, h2, h3⟩ := draw_ex h hm
  exact ⟨r, _, h1, h2, h3, by simp, fun j n => List.getElem?_set_ne (Ne.symm n)⟩
theorem pick_at {xs : List Nat} {r : Nat} (h : r < xs.length) : ∃ v, v ∈ xs ∧ ∀ a : AH, oIx (.lst (xs.map dI)) (dI r) a = .ok (dI v) a :=
  ⟨xs[r], List.getElem_mem h, fun a => ix_lst (n := r) (by rw [List.getElem?_map, List.getElem?_eq_getElem h]; rfl) rfl⟩
theorem Box.app {b : Nat} {a : AH} {o : AO} (h : Box b a) : Box b (a ++ [o]) := by
  obtain ⟨ds, n, z1, z2⟩ := h
  exact ⟨ds, n, z1, by rw [List.getElem?_append_left (List.getElem?_eq_some_iff.mp z2).1]; exact z2⟩
theorem Box.set {b n : Nat} {a : AH} {o : AO} (h : Box b a) (hn : n ≠ b) : Box b (a.set n o) := by
  obtain ⟨ds, k, z1, z2⟩ := h
  exact ⟨ds, k, z1, by rw [List.getElem?_set_ne hn]; exact z2⟩
theorem Box.lt {b : Nat} {a : AH} (h : Box b a) : b < a.length := by
  obtain ⟨ds, k, z1, z2⟩ := h
  exact (List.getElem?_eq_some_iff.mp z2).1
theorem sc_Job_gatherable : FnScope ["self", "counts"] ["self"] (defScope s_Job_gatherable) := ⟨rfl, rfl, rfl, by decide +kernel, rfl, by decide +kernel, by decide +kernel⟩
abbrev E1_Job_gatherable : FE := (iBin oIx (iVar 1) (iK c_FOLDED))
def B_Job_gatherable : FS :=
  (sRet (iCall (oMinPD 0) [(iLc (iSeqS (iFld "Job" "_sheets" (iVar 0))) (ptB (.nm 1)) (fun _ ah => .ok true ah) E1_Job_gatherable [1])]))
theorem raw_Job_gatherable (M : Mods w K mg) : OkM P w K mg base "Job" "gatherable" 1 ["self"] (iBody 2 B_Job_gatherable) := by
  obtain ⟨f, fd, hm, F, hb⟩ := M.f_Job_gatherable
  refine ⟨f, fd, hm, hb, fn_ok (k := 0) F sc_Job_gatherable fun cdv A outer s H E hr hn => ?_⟩
  have hu65 := room65 hr
  have hu1 := room1 hr
  exact (s_one (s_ret (j_minPD hu65 rfl (by exact rfl) M.nb_min (j_lc rfl sc_Job_gatherable.nd (i_seqS (j_fld (f := "_sheets") M.c_Job (j_var 0))) (own := [(("counts" : Str), 1)]) (blk_of (by kernel_rfl)) (by decide) (fun _ _ _ _ _ => (g_nm 1 sc_Job_gatherable.nd)) (fun _ _ _ _ _ => c_nil) (fun _ _ _ _ _ => (j_ix hu1 (j_var 1) (M.jc_FOLDED (by exact rfl))))))))
def F_Job_gatherable : List D → AH → Res D := iBody 2 B_Job_gatherable
theorem gath_eq {o p l m k : Nat} {past : List Nat} {a : AH} (J : Jb o p l m past k a) : F_Job_gatherable [.ref o] a = .ok (dI 0) a := by
  have lc : (iLc (iSeqS (iFld "Job" "_sheets" (iVar 0))) (ptB (.nm 1)) (fun _ ah => .ok true ah) E1_Job_gatherable [1]) [some (.ref o), none] a = .ok (.lst [dI 0]) a := eLc (eSqT (ds := [row m]) (eFld (eV rfl) J.ob (lk_s m p l))) (compL_map (e := row) (o := fun _ => dI 0) (xs := [m]) (acc := []) (fun x _ => ⟨_, rfl, rfl, eBin (eV rfl) (eK (d := dI 3)) rfl⟩) (small (by simp)))
  refine eBodyR (eRet (eCall (eA lc eA0) ?_))
  exact bestD_eq (g := PySem.W.minD) (x := .lst [dI 0]) (b := false) (xs := [dI 0]) (q := .int 0) (qs := []) rfl rfl ⟨fun x hx y hy => by rw [List.mem_singleton.mp hx, List.mem_singleton.mp hy]; rfl, fun x hx => by rw [List.mem_singleton.mp hx]; exact fun z => nomatch z⟩ (by decide)
theorem sc_Job__has_enough : FnScope ["self", "word", "sheet", "many"] ["self", "word", "sheet", "many"] (defScope s_Job__has_enough) := ⟨rfl, rfl, rfl, by decide +kernel, rfl, by decide +kernel, by decide +kernel⟩
def B_Job__has_enough : FS :=
  (sSeq (sIf (iTr (iBin oEq (iVar 1) (iC (.str ⟨#[115, 116, 97, 114, 116]⟩)))) (sRet (iC (.bl true))) sNx)
  (sSeq (sIf (iTr (iBin oEq (iVar 1) (iC (.str ⟨#[103, 97, 116, 104, 101, 114]⟩)))) (sRet (iBin oLe (iVar 3) (iMeth "Job" "gatherable" F_Job_gatherable (iVar 0) []))) sNx)
  (sSeq (sIf (iTr (iBin oEq (iVar 1) (iC (.str ⟨#[98, 105, 110, 100]⟩)))) (sRet (iBin oLe (iVar 3) (iBin oIx (iFld "Job" "_finished" (iVar 0)) (iC (.int 0))))) sNx)
  (sRet (iBin oLe (iVar 3) (iBin oIx (iBin oIx (iFld "Job" "_sheets" (iVar 0)) (iVar 2)) (iBin oIx (iK c_SOURCES) (iVar 1))))))))
theorem raw_Job__has_enough (M : Mods w K mg) (h_Job_gatherable : OkM P w K mg base "Job" "gatherable" 1 ["self"] F_Job_gatherable) : OkM P w K mg base "Job" "_has_enough" 2 ["self", "word", "sheet", "many"] (iBody 4 B_Job__has_enough) := by
  obtain ⟨f, fd, hm, F, hb⟩ := M.f_Job__has_enough
  refine ⟨f, fd, hm, hb, fn_ok (k := 1) F sc_Job__has_enough fun cdv A outer s H E hr hn => ?_⟩
  have hrJob_gatherable := hr.mono (j := 1) (by decide)
  have hu65 := room65 hr
  have hu1 := room1 hr
  exact (s_cons (s_if (t_cmp (j_pc (op_eqA hr.units) ok_eq (j_var 1) (j_str ⟨#[115, 116, 97, 114, 116]⟩ (by kernel_rfl)))) (s_one (s_ret j_bl)) s_nil)
  (s_cons (s_if (t_cmp (j_pc (op_eqA hr.units) ok_eq (j_var 1) (j_str ⟨#[103, 97, 116, 104, 101, 114]⟩ (by kernel_rfl)))) (s_one (s_ret (j_cmp (j_pc op_leA ok_cmp (j_var 3) (OkM.jd0 M.c_Job h_Job_gatherable hrJob_gatherable hn (j_var 0) rfl))))) s_nil)
  (s_cons (s_if (t_cmp (j_pc (op_eqA hr.units) ok_eq (j_var 1) (j_str ⟨#[98, 105, 110, 100]⟩ (by kernel_rfl)))) (s_one (s_ret (j_cmp (j_pc op_leA ok_cmp (j_var 3) (j_ix hu1 (j_fld (f := "_finished") M.c_Job (j_var 0)) j_int))))) s_nil)
  (s_one (s_ret (j_cmp (j_pc op_leA ok_cmp (j_var 3) (j_ix hu1 (j_ix hu1 (j_fld (f := "_sheets") M.c_Job (j_var 0)) (j_var 2)) (j_ix hu1 (M.jc_SOURCES (by exact rfl)) (j_var 1))))))))))
def F_Job__has_enough : List D → AH → Res D := iBody 4 B_Job__has_enough
abbrev wStart : Str := ⟨#[115, 116, 97, 114, 116]⟩
abbrev wGather : Str := ⟨#[103, 97, 116, 104, 101, 114]⟩
abbrev wFront : Str := ⟨#[102, 114, 111, 110, 116]⟩
abbrev wBind : Str := ⟨#[98, 105, 110, 100]⟩
theorem he_start {o : Nat} {sheet many : D} {a : AH} : F_Job__has_enough [.ref o, .str wStart, sheet, many] a = .ok (.bl true) a := eBodyR (eSeqR (eSIfT (eTr (eBin (eV rfl) eC (by rw [eqS, decide_eq_true rfl]))) (eRet eC)))
theorem he_gather {o p l m k : Nat} {past : List Nat} {a : AH} (J : Jb o p l m past k a) : F_Job__has_enough [.ref o, .str wGather, .non, dI 0] a = .ok (.bl true) a :=
  eBodyR (eSeq (eSIfF (eTr (eBin (eV rfl) eC (by rw [eqS, decide_eq_false (by decide)]))) eNx) (eSeqR (eSIfT (eTr (eBin (eV rfl) eC (by rw [eqS, decide_eq_true rfl]))) (eRet (eBin (eV rfl) (eMeth (eV rfl) J.ob rfl eA0 (gath_eq J)) rfl)))))
theorem he_front {o p l m k : Nat} {past : List Nat} {a : AH} (J : Jb o p l m past k a) (h : m < 10000) : F_Job__has_enough [.ref o, .str wFront, dI 0, dI 10000] a = .ok (.bl false) a :=
  eBodyR (eSeq (eSIfF (eTr (eBin (eV rfl) eC (by rw [eqS, decide_eq_false (by decide)]))) eNx) (eSeq (eSIfF (eTr (eBin (eV rfl) eC (by rw [eqS, decide_eq_false (by decide)]))) eNx) (eSeq (eSIfF (eTr (eBin (eV rfl) eC (by rw [eqS, decide_eq_false (by decide)]))) eNx) (eRet (eBin (eV rfl) (eBin (eBin (eFld (eV rfl) J.ob (lk_s m p l)) (eV rfl) (show oIx (sh m) (dI 0) a = .ok (row m) a from rfl)) (eBin eK (eV rfl) (show oIx c_SOURCES (.str wFront) a = .ok (dI 0) a from rfl)) (show oIx (row m) (dI 0) a = .ok (dI m) a from rfl)) (by rw [leN, decide_eq_false (by omega)]))))))
theorem sc_Job__refusal : FnScope ["self", "word", "sheet", "many", "bad"] ["self", "word", "sheet", "many", "bad"] (defScope s_Job__refusal) := ⟨rfl, rfl, rfl, by decide +kernel, rfl, by decide +kernel, by decide +kernel⟩
def B_Job__refusal : FS :=
  (sSeq (sIf (bAnd (iTr (iBin oIsNot (iVar 2) (iC .non))) (bNot (iTr (iChain oLe oLt (iC (.int 0)) (iVar 2) (iCall oLen [(iFld "Job" "_sheets" (iVar 0))]))))) (sRet (iC (.str ⟨#[110, 111, 32, 115, 104, 101, 101, 116]⟩))) sNx)
  (sSeq (sIf (bNot (iTr (iChain oLe oLe (iC (.int 0)) (iVar 3) (iK c_MOST_IN_DEED)))) (sRet (iC (.str ⟨#[109, 97, 110, 121]⟩))) sNx)
  (sSeq (sIf (bNot (iTr (iChain oLe oLe (iC (.int 0)) (iVar 4) (iVar 3)))) (sRet (iC (.str ⟨#[98, 97, 100]⟩))) sNx)
  (sSeq (sIf (bNot (iTru (iMeth "Job" "_has_enough" F_Job__has_enough (iVar 0) [(iVar 1), (iVar 2), (iVar 3)]))) (sRet (iC (.str ⟨#[110, 111, 116, 32, 101, 110, 111, 117, 103, 104]⟩))) sNx)
  (sSeq (sIf (iTr (iBin oGe (iCall oLen [(iFld "Job" "_past" (iVar 0))]) (iK c_MOST_DEEDS))) (sRet (iC (.str ⟨#[116, 111, 111, 32, 109, 97, 110, 121, 32, 100, 101, 101, 100, 115]⟩))) sNx)
  (sRet (iC .non)))))))
theorem raw_Job__refusal (M : Mods w K mg) (h_Job__has_enough : OkM P w K mg base "Job" "_has_enough" 2 ["self", "word", "sheet", "many"] F_Job__has_enough) : OkM P w K mg base "Job" "_refusal" 3 ["self", "word", "sheet", "many", "bad"] (iBody 5 B_Job__refusal) := by
  obtain ⟨f, fd, hm, F, hb⟩ := M.f_Job__refusal
  refine ⟨f, fd, hm, hb, fn_ok (k := 2) F sc_Job__refusal fun cdv A outer s H E hr hn => ?_⟩
  have hrJob__has_enough := hr.mono (j := 2) (by decide)
  have hu65 := room65 hr
  have hu1 := room1 hr
  exact (s_cons (s_if (w_and (t_cmp (j_pc op_isNotA ok_isNot (j_var 2) j_non)) (w_and1 (t_not (t_chain op_leA ok_cmp op_ltA ok_cmp j_int (j_var 2) (j_callB call_lenA ok_len (by exact rfl) M.nb_len boot_len (a_cons (j_fld (f := "_sheets") M.c_Job (j_var 0)) a_nil)))))).pt (s_one (s_ret (j_str ⟨#[110, 111, 32, 115, 104, 101, 101, 116]⟩ (by kernel_rfl)))) s_nil)
  (s_cons (s_if (t_not (t_chain op_leA ok_cmp op_leA ok_cmp j_int (j_var 3) (M.jc_MOST_IN_DEED (by exact rfl)))) (s_one (s_ret (j_str ⟨#[109, 97, 110, 121]⟩ (by kernel_rfl)))) s_nil)
  (s_cons (s_if (t_not (t_chain op_leA ok_cmp op_leA ok_cmp j_int (j_var 4) (j_var 3))) (s_one (s_ret (j_str ⟨#[98, 97, 100]⟩ (by kernel_rfl)))) s_nil)
  (s_cons (s_if (t_not (t_tru (OkM.jd M.c_Job h_Job__has_enough hrJob__has_enough hn (j_var 0) rfl (a_cons (j_var 1) (a_cons (j_var 2) (a_cons (j_var 3) a_nil)))))) (s_one (s_ret (j_str ⟨#[110, 111, 116, 32, 101, 110, 111, 117, 103, 104]⟩ (by kernel_rfl)))) s_nil)
  (s_cons (s_if (t_cmp (j_pc op_geA ok_cmp (j_callB call_lenA ok_len (by exact rfl) M.nb_len boot_len (a_cons (j_fld (f := "_past") M.c_Job (j_var 0)) a_nil)) (M.jc_MOST_DEEDS (by exact rfl)))) (s_one (s_ret (j_str ⟨#[116, 111, 111, 32, 109, 97, 110, 121, 32, 100, 101, 101, 100, 115]⟩ (by kernel_rfl)))) s_nil)
  (s_one (s_ret j_non)))))))
def F_Job__refusal : List D → AH → Res D := iBody 5 B_Job__refusal
def tmS : Str := ⟨#[116, 111, 111, 32, 109, 97, 110, 121, 32, 100, 101, 101, 100, 115]⟩
def nsS : Str := ⟨#[110, 111, 32, 115, 104, 101, 101, 116]⟩
def neS' : Str := ⟨#[110, 111, 116, 32, 101, 110, 111, 117, 103, 104]⟩
def baS : Str := ⟨#[98, 97, 100]⟩
def dRes (n : Nat) : D := if n < 60 then .non else .str tmS
theorem len_sh {m : Nat} {a : AH} : oLen [sh m] a = .ok (dI 1) a := rfl
theorem ref_start {o p l m k x : Nat} {past : List Nat} {a : AH} (J : Jb o p l m past k a) (hx : x ≤ 10000) : F_Job__refusal [.ref o, .str wStart, dI 0, dI x, dI 0] a = .ok (dRes past.length) a := by
  have t1 : (bAnd (iTr (iBin oIsNot (iVar 2) (iC .non))) (bNot (iTr (iChain oLe oLt (iC (.int 0)) (iVar 2) (iCall oLen [(iFld "Job" "_sheets" (iVar 0))]))))) [some (.ref o), some (.str wStart), some (dI 0), some (dI x), some (dI 0)] a = .ok false a := eAndT (eTr (eBin (eV rfl) eC rfl)) (eNotT (b := true) (eTr (eChain eC (eV rfl) rfl (eCall (eA (eFld (eV rfl) J.ob (lk_s m p l)) eA0) len_sh) rfl)))
  have t2 : (bNot (iTr (iChain oLe oLe (iC (.int 0)) (iVar 3) (iK c_MOST_IN_DEED)))) [some (.ref o), some (.str wStart), some (dI 0), some (dI x), some (dI 0)] a = .ok false a := eNotT (b := true) (eTr (eChain (eN 0) (eV rfl) (by rw [leN, decide_eq_true (Nat.zero_le _)]) (eK (d := dI 10000)) (by rw [leN, decide_eq_true hx])))
  have t3 : (bNot (iTr (iChain oLe oLe (iC (.int 0)) (iVar 4) (iVar 3)))) [some (.ref o), some (.str wStart), some (dI 0), some (dI x), some (dI 0)] a = .ok false a := eNotT (b := true) (eTr (eChain eC (eV rfl) rfl (eV rfl) (by rw [leN, decide_eq_true (Nat.zero_le _)])))
  have t4 : (bNot (iTru (iMeth "Job" "_has_enough" F_Job__has_enough (iVar 0) [(iVar 1), (iVar 2), (iVar 3)]))) [some (.ref o), some (.str wStart), some (dI 0), some (dI x), some (dI 0)] a = .ok false a := eNotT (b := true) (eTru (eMeth (eV rfl) J.ob rfl (eA (eV rfl) (eA (eV rfl) (eA (eV rfl) eA0))) he_start) rfl)
  have t5 : (iTr (iBin oGe (iCall oLen [(iFld "Job" "_past" (iVar 0))]) (iK c_MOST_DEEDS))) [some (.ref o), some (.str wStart), some (dI 0), some (dI x), some (dI 0)] a = .ok (decide (60 ≤ past.length)) a := eTr (eBin (eCall (eA (eFld (eV rfl) J.ob (lk_p m p l)) eA0) (len_ref J.pa)) (eK (d := dI 60)) (by rw [geN]; unfold pst; rw [List.length_map]))
  unfold dRes
  by_cases c : past.length < 60
  · rw [decide_eq_false (by omega)] at t5
    rw [if_pos c]
    exact eBodyR (eSeq (eSIfF t1 eNx) (eSeq (eSIfF t2 eNx) (eSeq (eSIfF t3 eNx) (eSeq (eSIfF t4 eNx) (eSeq (eSIfF t5 eNx) (eRet eC))))))
  · rw [decide_eq_true (by omega)] at t5
    rw [if_neg c]
    exact eBodyR (eSeq (eSIfF t1 eNx) (eSeq (eSIfF t2 eNx) (eSeq (eSIfF t3 eNx) (eSeq (eSIfF t4 eNx) (eSeqR (eSIfT t5 (eRet eC)))))))
theorem ref_gather {o p l m k : Nat} {past : List Nat} {a : AH} (J : Jb o p l m past k a) : F_Job__refusal [.ref o, .str wGather, .non, dI 0, dI 0] a = .ok (dRes past.length) a := by
  have t1 : (bAnd (iTr (iBin oIsNot (iVar 2) (iC .non))) (bNot (iTr (iChain oLe oLt (iC (.int 0)) (iVar 2) (iCall oLen [(iFld "Job" "_sheets" (iVar 0))]))))) [some (.ref o), some (.str wGather), some .non, some (dI 0), some (dI 0)] a = .ok false a := eAndF (eTr (eBin (eV rfl) eC rfl))
  have t2 : (bNot (iTr (iChain oLe oLe (iC (.int 0)) (iVar 3) (iK c_MOST_IN_DEED)))) [some (.ref o), some (.str wGather), some .non, some (dI 0), some (dI 0)] a = .ok false a := eNotT (b := true) (eTr (eChain eC (eV rfl) rfl (eK (d := dI 10000)) rfl))
  have t3 : (bNot (iTr (iChain oLe oLe (iC (.int 0)) (iVar 4) (iVar 3)))) [some (.ref o), some (.str wGather), some .non, some (dI 0), some (dI 0)] a = .ok false a := eNotT (b := true) (eTr (eChain eC (eV rfl) rfl (eV rfl) rfl))
  have t4 : (bNot (iTru (iMeth "Job" "_has_enough" F_Job__has_enough (iVar 0) [(iVar 1), (iVar 2), (iVar 3)]))) [some (.ref o), some (.str wGather), some .non, some (dI 0), some (dI 0)] a = .ok false a := eNotT (b := true) (eTru (eMeth (eV rfl) J.ob rfl (eA (eV rfl) (eA (eV rfl) (eA (eV rfl) eA0))) (he_gather J)) rfl)
  have t5 : (iTr (iBin oGe (iCall oLen [(iFld "Job" "_past" (iVar 0))]) (iK c_MOST_DEEDS))) [some (.ref o), some (.str wGather), some .non, some (dI 0), some (dI 0)] a = .ok (decide (60 ≤ past.length)) a := eTr (eBin (eCall (eA (eFld (eV rfl) J.ob (lk_p m p l)) eA0) (len_ref J.pa)) (eK (d := dI 60)) (by rw [geN]; unfold pst; rw [List.length_map]))
  unfold dRes
  by_cases c : past.length < 60
  · rw [decide_eq_false (by omega)] at t5
    rw [if_pos c]
    exact eBodyR (eSeq (eSIfF t1 eNx) (eSeq (eSIfF t2 eNx) (eSeq (eSIfF t3 eNx) (eSeq (eSIfF t4 eNx) (eSeq (eSIfF t5 eNx) (eRet eC))))))
  · rw [decide_eq_true (by omega)] at t5
    rw [if_neg c]
    exact eBodyR (eSeq (eSIfF t1 eNx) (eSeq (eSIfF t2 eNx) (eSeq (eSIfF t3 eNx) (eSeq (eSIfF t4 eNx) (eSeqR (eSIfT t5 (eRet eC)))))))
theorem ref_sheet {o p l m k : Nat} {past : List Nat} {a : AH} (J : Jb o p l m past k a) : F_Job__refusal [.ref o, .str wStart, dI 1, dI 1, dI 0] a = .ok (.str nsS) a :=
  eBodyR (eSeqR (eSIfT (eAndT (eTr (eBin (eV rfl) eC rfl)) (eNotT (b := false) (eTr (eChain eC (eV rfl) rfl (eCall (eA (eFld (eV rfl) J.ob (lk_s m p l)) eA0) len_sh) rfl)))) (eRet eC)))
theorem ref_front {o p l m k : Nat} {past : List Nat} {a : AH} (J : Jb o p l m past k a) (h : m < 10000) : F_Job__refusal [.ref o, .str wFront, dI 0, dI 10000, dI 0] a = .ok (.str neS') a :=
  eBodyR (eSeq (eSIfF (eAndT (eTr (eBin (eV rfl) eC rfl)) (eNotT (b := true) (eTr (eChain eC (eV rfl) rfl (eCall (eA (eFld (eV rfl) J.ob (lk_s m p l)) eA0) len_sh) rfl)))) eNx) (eSeq (eSIfF (eNotT (b := true) (eTr (eChain eC (eV rfl) rfl (eK (d := dI 10000)) rfl))) eNx) (eSeq (eSIfF (eNotT (b := true) (eTr (eChain eC (eV rfl) rfl (eV rfl) rfl))) eNx) (eSeqR (eSIfT (eNotT (b := false) (eTru (eMeth (eV rfl) J.ob rfl (eA (eV rfl) (eA (eV rfl) (eA (eV rfl) eA0))) (he_front J h)) rfl)) (eRet eC))))))
theorem ref_bind {o : Nat} {a : AH} : F_Job__refusal [.ref o, .str wBind, .non, dI 1, dI 2] a = .ok (.str baS) a :=
  eBodyR (eSeq (eSIfF (eAndF (eTr (eBin (eV rfl) eC rfl))) eNx) (eSeq (eSIfF (eNotT (b := true) (eTr (eChain eC (eV rfl) rfl (eK (d := dI 10000)) rfl))) eNx) (eSeqR (eSIfT (eNotT (b := false) (eTr (eChain eC (eV rfl) rfl (eV rfl) rfl))) (eRet eC)))))
theorem sc__changed : FnScope ["counts", "changes", "place", "many"] ["counts", "changes"] (defScope s__changed) := ⟨rfl, rfl, rfl, by decide +kernel, rfl, by decide +kernel, by decide +kernel⟩
abbrev E1__changed : FE := (iBin oAdd (iVar 3) (iGet2 (iVar 1) (iVar 2) (iC (.int 0))))
def B__changed : FS :=
  (sRet (iCall oTuple [(iLc (iEnumA [(iVar 0)]) (ptB (.tp [(.nm 2), (.nm 3)])) (fun _ ah => .ok true ah) E1__changed [2, 3])]))
theorem raw__changed (M : Mods w K mg) : Ok1 P w K mg base "_changed" 1 ["counts", "changes"] (iBody 4 B__changed) := by
  obtain ⟨f, fd, F, hm, hb⟩ := M.f__changed
  refine ⟨f, fd, hm, F.kp, hb, fn_ok (k := 0) F sc__changed fun cdv A outer s H E hr hn => ?_⟩
  have hu65 := room65 hr
  have hu1 := room1 hr
  exact (s_one (s_ret (j_callT call_tuple_of ok_tuple (by exact rfl) M.nb_tuple boot_tuple (a_cons (j_lc rfl sc__changed.nd (i_enumA rfl M.nb_enumerate (a_cons (j_var 0) a_nil)) (own := [(("place" : Str), 2), (("many" : Str), 3)]) (blk_of (by kernel_rfl)) (by decide) (fun _ _ _ _ _ => (g_tp rfl (gs_cons (g_nm 2 sc__changed.nd) (gs_cons (g_nm 3 sc__changed.nd) gs_nil)))) (fun _ _ _ _ _ => c_nil) (fun _ _ _ _ _ => (j_bin op_addA ok_add (j_var 3) (j_get2 hu1 (j_var 1) (j_var 2) j_int)))) a_nil))))
def F__changed : List D → AH → Res D := iBody 4 B__changed
theorem ch_start {m x : Nat} {a : AH} : F__changed [row m, .dk [.inl 0] [dI x]] a = .ok (row (m + x)) a := by rfl
theorem ch_gather {m : Nat} {a : AH} : F__changed [row m, .dk [.inl 3] [.int (-0)]] a = .ok (row m) a := by rfl
theorem sc_Job__do_to_copies : FnScope ["self", "word", "many", "bad", "gathered", "bound", "lost", "counts"] ["self", "word", "many", "bad"] (defScope s_Job__do_to_copies) := ⟨rfl, rfl, rfl, by decide +kernel, rfl, by decide +kernel, by decide +kernel⟩
abbrev E1_Job__do_to_copies : FE := (iDef F__changed [(iVar 7), (iDict [((iK c_FOLDED), (iUn oNeg (iVar 2)))])])
def B_Job__do_to_copies : FS :=
  (sSeq (sAsg (ptB (.tp [(.nm 4), (.nm 5), (.nm 6)])) (iFld "Job" "_finished" (iVar 0)))
  (sIf (iTr (iBin oEq (iVar 1) (iC (.str ⟨#[103, 97, 116, 104, 101, 114]⟩)))) (sSeq (sSetF "Job" "_sheets" (iVar 0) (iCall oTuple [(iLc (iSeqS (iFld "Job" "_sheets" (iVar 0))) (ptB (.nm 7)) (fun _ ah => .ok true ah) E1_Job__do_to_copies [7])]))
  (sSetF "Job" "_finished" (iVar 0) (iCall oTup [(iBin oAdd (iVar 4) (iVar 2)), (iVar 5), (iVar 6)]))) (sSetF "Job" "_finished" (iVar 0) (iCall oTup [(iBin oSub (iVar 4) (iVar 2)), (iBin oSub (iBin oAdd (iVar 5) (iVar 2)) (iVar 3)), (iBin oAdd (iVar 6) (iVar 3))]))))
theorem raw_Job__do_to_copies (M : Mods w K mg) (h__changed : Ok1 P w K mg base "_changed" 1 ["counts", "changes"] F__changed) : OkM P w K mg base "Job" "_do_to_copies" 2 ["self", "word", "many", "bad"] (iBody 8 B_Job__do_to_copies) := by
  obtain ⟨f, fd, hm, F, hb⟩ := M.f_Job__do_to_copies
  refine ⟨f, fd, hm, hb, fn_ok (k := 1) F sc_Job__do_to_copies fun cdv A outer s H E hr hn => ?_⟩
  have hr_changed := hr.mono (j := 1) (by decide)
  have hu65 := room65 hr
  have hu1 := room1 hr
  exact (s_cons (s_asg (j_fld (f := "_finished") M.c_Job (j_var 0)) (g_tp rfl (gs_cons (g_nm 4 sc_Job__do_to_copies.nd) (gs_cons (g_nm 5 sc_Job__do_to_copies.nd) (gs_cons (g_nm 6 sc_Job__do_to_copies.nd) gs_nil)))))
  (s_one (s_if (t_cmp (j_pc (op_eqA hr.units) ok_eq (j_var 1) (j_str ⟨#[103, 97, 116, 104, 101, 114]⟩ (by kernel_rfl)))) (s_cons (s_setF (f := "_sheets") M.c_Job (j_var 0) (j_callT call_tuple_of ok_tuple (by exact rfl) M.nb_tuple boot_tuple (a_cons (j_lc rfl sc_Job__do_to_copies.nd (i_seqS (j_fld (f := "_sheets") M.c_Job (j_var 0))) (own := [(("counts" : Str), 7)]) (blk_of (by kernel_rfl)) (by decide) (fun _ _ _ _ _ => (g_nm 7 sc_Job__do_to_copies.nd)) (fun _ _ _ _ _ => c_nil) (fun _ _ _ _ _ => (h__changed.jd hr_changed hn (by exact rfl) rfl (a_cons (j_var 7) (a_cons (j_dict (d_cons (M.jc_FOLDED (by exact rfl)) (j_un un_neg ok_neg (j_var 2)) d_nil)) a_nil))))) a_nil)))
  (s_one (s_setF (f := "_finished") M.c_Job (j_var 0) (j_tup (a_cons (j_bin op_addA ok_add (j_var 4) (j_var 2)) (a_cons (j_var 5) (a_cons (j_var 6) a_nil))))))) (s_one (s_setF (f := "_finished") M.c_Job (j_var 0) (j_tup (a_cons (j_bin op_sub ok_sub (j_var 4) (j_var 2)) (a_cons (j_bin op_sub ok_sub (j_bin op_addA ok_add (j_var 5) (j_var 2)) (j_var 3)) (a_cons (j_bin op_addA ok_add (j_var 6) (j_var 3)) a_nil)))))))))
def F_Job__do_to_copies : List D → AH → Res D := iBody 8 B_Job__do_to_copies
theorem set_at {a : AH} {n : Nat} {o p : AO} (h : a[n]? = some p) : (a.set n o)[n]? = some o := List.getElem?_set_self (List.getElem?_eq_some_iff.mp h).1
theorem set_eq {a : AH} {n : Nat} {o : AO} (h : a[n]? = some o) : a.set n o = a := by
  obtain ⟨l, e⟩ := List.getElem?_eq_some_iff.mp h
  rw [← e, List.set_getElem_self]
theorem copies_eq {o p l m : Nat} {a : AH} (ob : a[o]? = some (jobO m p l)) : F_Job__do_to_copies [.ref o, .str wGather, dI 0, dI 0] a = .ok .non a := by
  have c1 : (sAsg (ptB (.tp [(.nm 4), (.nm 5), (.nm 6)])) (iFld "Job" "_finished" (iVar 0))) [some (.ref o), some (.str wGather), some (dI 0), some (dI 0), none, none, none, none] a = .ok (.nx, [some (.ref o), some (.str wGather), some (dI 0), some (dI 0), some (dI 0), some (dI 0), some (dI 0), none]) a := eAsg (eFld (eV rfl) ob (lk_f m p l)) rfl
  have lc : (iLc (iSeqS (iFld "Job" "_sheets" (iVar 0))) (ptB (.nm 7)) (fun _ ah => .ok true ah) E1_Job__do_to_copies [7]) [some (.ref o), some (.str wGather), some (dI 0), some (dI 0), some (dI 0), some (dI 0), some (dI 0), none] a = .ok (.lst [row m]) a := eLc (eSqT (ds := [row m]) (eFld (eV rfl) ob (lk_s m p l))) (compL_map (e := row) (o := row) (xs := [m]) (acc := []) (fun x _ => ⟨_, rfl, rfl, eDef (eA (eV rfl) (eA (show (iDict [((iK c_FOLDED), (iUn oNeg (iVar 2)))]) _ a = .ok (.dk [.inl 3] [.int (-0)]) a from rfl) eA0)) ch_gather⟩) (small (by simp)))
  have c2 := eSetF (C := "Job") (f := "_sheets") (o := iVar 0) (g := iCall oTuple [(iLc (iSeqS (iFld "Job" "_sheets" (iVar 0))) (ptB (.nm 7)) (fun _ ah => .ok true ah) E1_Job__do_to_copies [7])]) (env := [some (.ref o), some (.str wGather), some (dI 0), some (dI 0), some (dI 0), some (dI 0), some (dI 0), none]) (ah := a) (d := sh m) (eCall (eA lc eA0) rfl) (eV rfl) ob (by show 5 < 999; decide)
  rw [pt_s, set_eq ob] at c2
  have c3 := eSetF (C := "Job") (f := "_finished") (o := iVar 0) (g := iCall oTup [(iBin oAdd (iVar 4) (iVar 2)), (iVar 5), (iVar 6)]) (env := [some (.ref o), some (.str wGather), some (dI 0), some (dI 0), some (dI 0), some (dI 0), some (dI 0), none]) (ah := a) (d := fin0) (eCall (eA (eBin (eV rfl) (eV rfl) rfl) (eA (eV rfl) (eA (eV rfl) eA0))) rfl) (eV rfl) ob (by show 5 < 999; decide)
  rw [pt_f, set_eq ob] at c3
  exact eBodyN (eSeq c1 (eSIfT (eTr (eBin (eV rfl) eC (by rw [eqS, decide_eq_true rfl]))) (eSeq c2 c3)))
theorem sc_Job__do_to_sheet : FnScope ["self", "word", "sheet", "many", "bad", "changed", "changes", "source"] ["self", "word", "sheet", "many", "bad"] (defScope s_Job__do_to_sheet) := ⟨rfl, rfl, rfl, by decide +kernel, rfl, by decide +kernel, by decide +kernel⟩
def B_Job__do_to_sheet : FS :=
  (sSeq (sIf (iTr (iBin oEq (iVar 1) (iC (.str ⟨#[115, 116, 97, 114, 116]⟩)))) (sAsg (ptB (.nm 6)) (iDict [((iK c_UNPRINTED), (iVar 3))])) (sSeq (sAsg (ptB (.nm 7)) (iBin oIx (iK c_SOURCES) (iVar 1)))
  (sAsg (ptB (.nm 6)) (iDict [((iVar 7), (iUn oNeg (iVar 3))), ((iBin oAdd (iVar 7) (iC (.int 1))), (iBin oSub (iVar 3) (iVar 4))), ((iK c_SPOILED), (iVar 4))]))))
  (sSeq (sAsg (ptB (.nm 5)) (iDef F__changed [(iBin oIx (iFld "Job" "_sheets" (iVar 0)) (iVar 2)), (iVar 6)]))
  (sSetF "Job" "_sheets" (iVar 0) (iBin oAdd (iBin oAdd (iSl oSl (iFld "Job" "_sheets" (iVar 0)) iNoP (iPart (iVar 2))) (iCall oTup [(iVar 5)])) (iSl oSl (iFld "Job" "_sheets" (iVar 0)) (iPart (iBin oAdd (iVar 2) (iC (.int 1)))) iNoP)))))
theorem raw_Job__do_to_sheet (M : Mods w K mg) (h__changed : Ok1 P w K mg base "_changed" 1 ["counts", "changes"] F__changed) : OkM P w K mg base "Job" "_do_to_sheet" 2 ["self", "word", "sheet", "many", "bad"] (iBody 8 B_Job__do_to_sheet) := by
  obtain ⟨f, fd, hm, F, hb⟩ := M.f_Job__do_to_sheet
  refine ⟨f, fd, hm, hb, fn_ok (k := 1) F sc_Job__do_to_sheet fun cdv A outer s H E hr hn => ?_⟩
  have hr_changed := hr.mono (j := 1) (by decide)
  have hu65 := room65 hr
  have hu1 := room1 hr
  exact (s_cons (s_if (t_cmp (j_pc (op_eqA hr.units) ok_eq (j_var 1) (j_str ⟨#[115, 116, 97, 114, 116]⟩ (by kernel_rfl)))) (s_one (s_set 6 sc_Job__do_to_sheet.nd (j_dict (d_cons (M.jc_UNPRINTED (by exact rfl)) (j_var 3) d_nil)))) (s_cons (s_set 7 sc_Job__do_to_sheet.nd (j_ix hu1 (M.jc_SOURCES (by exact rfl)) (j_var 1)))
  (s_one (s_set 6 sc_Job__do_to_sheet.nd (j_dict (d_cons (j_var 7) (j_un un_neg ok_neg (j_var 3)) (d_cons (j_bin op_addA ok_add (j_var 7) j_int) (j_bin op_sub ok_sub (j_var 3) (j_var 4)) (d_cons (M.jc_SPOILED (by exact rfl)) (j_var 4) d_nil))))))))
  (s_cons (s_set 5 sc_Job__do_to_sheet.nd (h__changed.jd hr_changed hn (by exact rfl) rfl (a_cons (j_ix hu1 (j_fld (f := "_sheets") M.c_Job (j_var 0)) (j_var 2)) (a_cons (j_var 6) a_nil))))
  (s_one (s_setF (f := "_sheets") M.c_Job (j_var 0) (j_bin op_addA ok_add (j_bin op_addA ok_add (j_sl (j_fld (f := "_sheets") M.c_Job (j_var 0)) j_noP (j_part (j_var 2))) (j_tup (a_cons (j_var 5) a_nil))) (j_sl (j_fld (f := "_sheets") M.c_Job (j_var 0)) (j_part (j_bin op_addA ok_add (j_var 2) j_int)) j_noP))))))
def F_Job__do_to_sheet : List D → AH → Res D := iBody 8 B_Job__do_to_sheet
theorem sheet_eq {o p l m x : Nat} {a : AH} (ob : a[o]? = some (jobO m p l)) : F_Job__do_to_sheet [.ref o, .str wStart, dI 0, dI x, dI 0] a = .ok .non (a.set o (jobO (m + x) p l)) := by
  have c1 : (sIf (iTr (iBin oEq (iVar 1) (iC (.str ⟨#[115, 116, 97, 114, 116]⟩)))) (sAsg (ptB (.nm 6)) (iDict [((iK c_UNPRINTED), (iVar 3))])) (sSeq (sAsg (ptB (.nm 7)) (iBin oIx (iK c_SOURCES) (iVar 1)))
  (sAsg (ptB (.nm 6)) (iDict [((iVar 7), (iUn oNeg (iVar 3))), ((iBin oAdd (iVar 7) (iC (.int 1))), (iBin oSub (iVar 3) (iVar 4))), ((iK c_SPOILED), (iVar 4))])))) [some (.ref o), some (.str wStart), some (dI 0), some (dI x), some (dI 0), none, none, none] a = .ok (.nx, [some (.ref o), some (.str wStart), some (dI 0), some (dI x), some (dI 0), none, some (.dk [.inl 0] [dI x]), none]) a :=
    eSIfT (eTr (eBin (eV rfl) eC (by rw [eqS, decide_eq_true rfl]))) (eAsg (show (iDict [((iK c_UNPRINTED), (iVar 3))]) _ a = .ok (.dk [.inl 0] [dI x]) a from rfl) rfl)
  have c2 : (sAsg (ptB (.nm 5)) (iDef F__changed [(iBin oIx (iFld "Job" "_sheets" (iVar 0)) (iVar 2)), (iVar 6)])) [some (.ref o), some (.str wStart), some (dI 0), some (dI x), some (dI 0), none, some (.dk [.inl 0] [dI x]), none] a = .ok (.nx, [some (.ref o), some (.str wStart), some (dI 0), some (dI x), some (dI 0), some (row (m + x)), some (.dk [.inl 0] [dI x]), none]) a :=
    eAsg (eDef (eA (x := row m) (eBin (eFld (eV rfl) ob (lk_s m p l)) (eV rfl) (show oIx (sh m) (dI 0) a = .ok (row m) a from rfl)) (eA (eV rfl) eA0)) ch_start) rfl
  have f0 : ∀ {env : AE}, env[0]? = some (some (.ref o)) → (iFld "Job" "_sheets" (iVar 0)) env a = .ok (sh m) a := fun e => eFld (eV e) ob (lk_s m p l)
  have c3 := eSetF (C := "Job") (f := "_sheets") (o := iVar 0) (g := iBin oAdd (iBin oAdd (iSl oSl (iFld "Job" "_sheets" (iVar 0)) iNoP (iPart (iVar 2))) (iCall oTup [(iVar 5)])) (iSl oSl (iFld "Job" "_sheets" (iVar 0)) (iPart (iBin oAdd (iVar 2) (iC (.int 1)))) iNoP)) (env := [some (.ref o), some (.str wStart), some (dI 0), some (dI x), some (dI 0), some (row (m + x)), some (.dk [.inl 0] [dI x]), none]) (ah := a) (d := sh (m + x))
    (eBin (eBin (eSl (f0 rfl) eNoP (ePartN (n := 0) (eV rfl)) (show oSl (sh m) none (some ((0 : Nat) : Int)) a = .ok (.tup []) a from rfl)) (eCall (eA (eV rfl) eA0) rfl) (show oAdd (.tup []) (.tup [row (m + x)]) a = .ok (sh (m + x)) a from rfl)) (eSl (f0 rfl) (ePartN (n := 1) (eBin (eV rfl) eC rfl)) eNoP (show oSl (sh m) (some ((1 : Nat) : Int)) none a = .ok (.tup []) a from rfl)) (show oAdd (sh (m + x)) (.tup []) a = .ok (sh (m + x)) a from rfl)) (eV rfl) ob (by show 5 < 999; decide)
  rw [pt_s] at c3
  exact eBodyN (eSeq c1 (eSeq c2 c3))
theorem sc_Job_do : FnScope ["self", "deed", "word", "told", "sheet", "many", "bad", "reason", "part"] ["self", "deed"] (defScope s_Job_do) := ⟨rfl, rfl, rfl, by decide +kernel, rfl, by decide +kernel, by decide +kernel⟩
abbrev E1_Job_do : FE := (iCall oStrA [(iVar 8)])
def B_Job_do : FS :=
  (sSeq (sAsg (ptB (.nm 2)) (iBin oIx (iVar 1) (iC (.int 0))))
  (sSeq (sAsg (ptB (.nm 3)) (iDictZ (iBin oIx (iK c_DEEDS) (iVar 2)) (iSl oSl (iVar 1) (iPart (iC (.int 1))) iNoP)))
  (sSeq (sAsg (ptB (.nm 4)) (iGet1 (iVar 3) (iC (.str ⟨#[115, 104, 101, 101, 116]⟩))))
  (sSeq (sAsg (ptB (.nm 5)) (iBin oIx (iVar 3) (iC (.str ⟨#[109, 97, 110, 121]⟩))))
  (sSeq (sAsg (ptB (.nm 6)) (iGet2 (iVar 3) (iC (.str ⟨#[98, 97, 100]⟩)) (iC (.int 0))))
  (sSeq (sAsg (ptB (.nm 7)) (iMeth "Job" "_refusal" F_Job__refusal (iVar 0) [(iVar 2), (iVar 4), (iVar 5), (iVar 6)]))
  (sSeq (sIf (iTr (iBin oIsNot (iVar 7) (iC .non))) (sRaise "BadDeed" ["reason"] [(iVar 7)]) sNx)
  (sSeq (sDrop (iApp (iFld "Job" "_past" (iVar 0)) (iCall oTup [(iFld "Job" "_sheets" (iVar 0)), (iFld "Job" "_finished" (iVar 0))])))
  (sSeq (sDrop (iApp (iFld "Job" "_lines" (iVar 0)) (iJoin (iC (.str ⟨#[32]⟩)) (iLc (iSeqS (iVar 1)) (ptB (.nm 8)) (fun _ ah => .ok true ah) E1_Job_do [8]))))
  (sIf (iTr (iBin oIs (iVar 4) (iC .non))) (sDrop (iMeth "Job" "_do_to_copies" F_Job__do_to_copies (iVar 0) [(iVar 2), (iVar 5), (iVar 6)])) (sDrop (iMeth "Job" "_do_to_sheet" F_Job__do_to_sheet (iVar 0) [(iVar 2), (iVar 4), (iVar 5), (iVar 6)]))))))))))))
theorem raw_Job_do (M : Mods w K mg) (h_Job__refusal : OkM P w K mg base "Job" "_refusal" 3 ["self", "word", "sheet", "many", "bad"] F_Job__refusal) (h_Job__do_to_copies : OkM P w K mg base "Job" "_do_to_copies" 2 ["self", "word", "many", "bad"] F_Job__do_to_copies) (h_Job__do_to_sheet : OkM P w K mg base "Job" "_do_to_sheet" 2 ["self", "word", "sheet", "many", "bad"] F_Job__do_to_sheet) : OkMX P w K mg base "Job" "do" 4 ["self", "deed"] (iBody 9 B_Job_do) := by
  obtain ⟨f, fd, hm, F, hb⟩ := M.f_Job_do
  refine ⟨f, fd, hm, hb, fn_okX (k := 3) F sc_Job_do fun cdv A outer s H E hr hn tk => ?_⟩
  obtain ⟨fI_BadDeed, fd_BadDeed, iC_BadDeed, tC_BadDeed, bC_BadDeed, FC_BadDeed⟩ := init_BadDeed (P := P) (base := base) M
  have hrJob__refusal := hr.mono (j := 3) (by decide)
  have hrJob__do_to_copies := hr.mono (j := 2) (by decide)
  have hrJob__do_to_sheet := hr.mono (j := 2) (by decide)
  have hu65 := room65 hr
  have hu1 := room1 hr
  exact (s_cons (s_set 2 sc_Job_do.nd (j_ix hu1 (j_var 1) j_int))
  (s_cons (s_set 3 sc_Job_do.nd (j_dictZ rfl (by exact rfl) M.nb_dict (by exact rfl) M.nb_zip (a_cons (j_ix hu1 (M.jc_DEEDS (by exact rfl)) (j_var 2)) (a_cons (j_sl (j_var 1) (j_part j_int) j_noP) a_nil))))
  (s_cons (s_set 4 sc_Job_do.nd (j_get1 hu1 (j_var 3) (j_str ⟨#[115, 104, 101, 101, 116]⟩ (by kernel_rfl))))
  (s_cons (s_set 5 sc_Job_do.nd (j_ix hu1 (j_var 3) (j_str ⟨#[109, 97, 110, 121]⟩ (by kernel_rfl))))
  (s_cons (s_set 6 sc_Job_do.nd (j_get2 hu1 (j_var 3) (j_str ⟨#[98, 97, 100]⟩ (by kernel_rfl)) j_int))
  (s_cons (s_set 7 sc_Job_do.nd (OkM.jd M.c_Job h_Job__refusal hrJob__refusal hn (j_var 0) rfl (a_cons (j_var 2) (a_cons (j_var 4) (a_cons (j_var 5) (a_cons (j_var 6) a_nil))))))
  (s_cons (s_if (t_cmp (j_pc op_isNotA ok_isNot (j_var 7) j_non)) (s_one (s_raise1 M.e_BadDeed.ox iC_BadDeed tC_BadDeed FC_BadDeed (hr.mono (j := 2) (by decide)) bC_BadDeed (by exact rfl) M.g_BadDeed rfl tk (j_var 7))) s_nil)
  (s_cons (s_drop (j_app (j_fld (f := "_past") M.c_Job (j_var 0)) (j_tup (a_cons (j_fld (f := "_sheets") M.c_Job (j_var 0)) (a_cons (j_fld (f := "_finished") M.c_Job (j_var 0)) a_nil)))))
  (s_cons (s_drop (j_app (j_fld (f := "_lines") M.c_Job (j_var 0)) (j_join (j_str ⟨#[32]⟩ (by kernel_rfl)) (j_lc rfl sc_Job_do.nd (i_seqS (j_var 1)) (own := [(("part" : Str), 8)]) (blk_of (by kernel_rfl)) (by decide) (fun _ _ _ _ _ => (g_nm 8 sc_Job_do.nd)) (fun _ _ _ _ _ => c_nil) (fun _ _ _ _ _ => (j_callT call_strA ok_strA (by exact rfl) M.nb_str boot_str (a_cons (j_var 8) a_nil)))))))
  (s_one (s_if (t_cmp (j_pc op_isA ok_is (j_var 4) j_non)) (s_one (s_drop (OkM.jd M.c_Job h_Job__do_to_copies hrJob__do_to_copies hn (j_var 0) rfl (a_cons (j_var 2) (a_cons (j_var 5) (a_cons (j_var 6) a_nil)))))) (s_one (s_drop (OkM.jd M.c_Job h_Job__do_to_sheet hrJob__do_to_sheet hn (j_var 0) rfl (a_cons (j_var 2) (a_cons (j_var 4) (a_cons (j_var 5) (a_cons (j_var 6) a_nil))))))))))))))))))
def F_Job_do : List D → AH → Res D := iBody 9 B_Job_do
def bdX (r : Str) : AX := ⟨"BadDeed", [("reason", .str r)]⟩
theorem eSIfX {t : FT} {s s2 : FS} {env env1 : AE} {ah a1 a2 : AH} {x : AX} (h1 : t env ah = .ok true a1) (h2 : s env a1 = .exc x env1 a2) : sIf t s s2 env ah = .exc x env1 a2 := by unfold sIf; rw [h1, Res.bind_ok, if_pos rfl, h2]
abbrev PR_do : FS := (sSeq (sDrop (iApp (iFld "Job" "_past" (iVar 0)) (iCall oTup [(iFld "Job" "_sheets" (iVar 0)), (iFld "Job" "_finished" (iVar 0))])))
  (sSeq (sDrop (iApp (iFld "Job" "_lines" (iVar 0)) (iJoin (iC (.str ⟨#[32]⟩)) (iLc (iSeqS (iVar 1)) (ptB (.nm 8)) (fun _ ah => .ok true ah) E1_Job_do [8]))))
  (sIf (iTr (iBin oIs (iVar 4) (iC .non))) (sDrop (iMeth "Job" "_do_to_copies" F_Job__do_to_copies (iVar 0) [(iVar 2), (iVar 5), (iVar 6)])) (sDrop (iMeth "Job" "_do_to_sheet" F_Job__do_to_sheet (iVar 0) [(iVar 2), (iVar 4), (iVar 5), (iVar 6)])))))
theorem do_pre {o p l m : Nat} {deed w told sheet many bad r : D} {a : AH} (ob : a[o]? = some (jobO m p l)) (e2 : oIx deed (.int 0) a = .ok w a)
    (e3 : (iDictZ (iBin oIx (iK c_DEEDS) (iVar 2)) (iSl oSl (iVar 1) (iPart (iC (.int 1))) iNoP)) [some (.ref o), some deed, some w, none, none, none, none, none, none] a = .ok told a)
    (e4 : (iGet1 (iVar 3) (iC (.str ⟨#[115, 104, 101, 101, 116]⟩))) [some (.ref o), some deed, some w, some told, none, none, none, none, none] a = .ok sheet a)
    (e5 : (iBin oIx (iVar 3) (iC (.str ⟨#[109, 97, 110, 121]⟩))) [some (.ref o), some deed, some w, some told, some sheet, none, none, none, none] a = .ok many a)
    (e6 : (iGet2 (iVar 3) (iC (.str ⟨#[98, 97, 100]⟩)) (iC (.int 0))) [some (.ref o), some deed, some w, some told, some sheet, some many, none, none, none] a = .ok bad a)
    (e7 : F_Job__refusal [.ref o, w, sheet, many, bad] a = .ok r a) {R : Res (Fl × AE)}
    (h : sSeq (sIf (iTr (iBin oIsNot (iVar 7) (iC .non))) (sRaise "BadDeed" ["reason"] [(iVar 7)]) sNx) PR_do [some (.ref o), some deed, some w, some told, some sheet, some many, some bad, some r, none] a = R) : B_Job_do [some (.ref o), some deed, none, none, none, none, none, none, none] a = R :=
  eSeq (eAsg (eBin (eV rfl) eC e2) rfl) (eSeq (eAsg e3 rfl) (eSeq (eAsg e4 rfl) (eSeq (eAsg e5 rfl) (eSeq (eAsg e6 rfl) (eSeq (eAsg (eMeth (eV rfl) ob rfl (eA (eV rfl) (eA (eV rfl) (eA (eV rfl) (eA (eV rfl) eA0)))) e7) rfl) h)))))
theorem raise_it {o : Nat} {deed w told sheet many bad : D} {r : Str} {a : AH} : sSeq (sIf (iTr (iBin oIsNot (iVar 7) (iC .non))) (sRaise "BadDeed" ["reason"] [(iVar 7)]) sNx) PR_do [some (.ref o), some deed, some w, some told, some sheet, some many, some bad, some (.str r), none] a = .exc (bdX r) [some (.ref o), some deed, some w, some told, some sheet, some many, some bad, some (.str r), none] a :=
  eSeqX (eSIfX (eTr (eBin (eV rfl) eC rfl)) (eRaise (eA (eV rfl) eA0) rfl))
abbrev dStart (s x : Nat) : D := .tup [.str wStart, dI s, dI x]
abbrev dGather : D := .tup [.str wGather, dI 0]
abbrev dFront : D := .tup [.str wFront, dI 0, dI 10000, dI 0]
abbrev dBind : D := .tup [.str wBind, dI 1, dI 2]
def kS : Key := .inr ⟨#[115, 104, 101, 101, 116]⟩
def kM : Key := .inr ⟨#[109, 97, 110, 121]⟩
def kB : Key := .inr ⟨#[98, 97, 100]⟩
theorem strA_of {d : D} {a : AH} (h : (∃ n : Nat, n < 1000000 ∧ d = dI n) ∨ ∃ s : Str, s.length ≤ 13 ∧ d = .str s) : ∃ s : Str, s.length ≤ 13 ∧ oStrA [d] a = .ok (.str s) a := by
  rcases h with ⟨n, hn, rfl⟩ | ⟨s, hs, rfl⟩
  · obtain ⟨h1, h2⟩ := strN (ah := a) hn
    exact ⟨_, h2, h1⟩
  · exact ⟨s, hs, rfl⟩
theorem line_ex {o : Nat} {parts : List D} {w told sheet many bad r : D} {a : AH} (hp : parts.length ≤ 4) (h : ∀ d ∈ parts, (∃ n : Nat, n < 1000000 ∧ d = dI n) ∨ ∃ s : Str, s.length ≤ 13 ∧ d = .str s) :
    ∃ s : Str, (iJoin (iC (.str ⟨#[32]⟩)) (iLc (iSeqS (iVar 1)) (ptB (.nm 8)) (fun _ ah => .ok true ah) E1_Job_do [8])) [some (.ref o), some (.tup parts), some w, some told, some sheet, some many, some bad, some r, none] a = .ok (.str s) a := by
  have cl : ∀ (ps : List D) (acc : List D), ps.length + acc.length ≤ 100 → (∀ d ∈ ps, (∃ n : Nat, n < 1000000 ∧ d = dI n) ∨ ∃ s : Str, s.length ≤ 13 ∧ d = .str s) → ∃ ss : List Str, ss.length = ps.length ∧ (∀ x ∈ ss, x.length ≤ 13) ∧ compL (ptB (.nm 8)) (fun _ ah => .ok true ah) E1_Job_do [some (.ref o), some (.tup parts), some w, some told, some sheet, some many, some bad, some r, none] ps acc a = .ok (acc ++ ss.map D.str) a := by
    intro ps
    induction ps with
    | nil => exact fun acc _ _ => ⟨([] : List Str), rfl, (fun x (hx : x ∈ ([] : List Str)) => absurd hx List.not_mem_nil), by rw [List.map_nil, List.append_nil]; rfl⟩
    | cons d ps ih =>
      intro acc hl hd
      rw [List.length_cons] at hl
      obtain ⟨s, s1, s2⟩ := strA_of (a := a) (hd d List.mem_cons_self)
      obtain ⟨ss, k1, k2, k3⟩ := ih (acc ++ [.str s]) (by rw [List.length_append, List.length_singleton]; omega) fun x hx => hd x (List.mem_cons_of_mem _ hx)
      refine ⟨s :: ss, by rw [List.length_cons, k1, List.length_cons], fun x hx => ?_, ?_⟩
      · rcases List.mem_cons.mp hx with rfl | hx
        · exact s1
        · exact k2 x hx
      · rw [List.append_assoc] at k3
        have e : E1_Job_do [some (.ref o), some (.tup parts), some w, some told, some sheet, some many, some bad, some r, some d] a = .ok (.str s) a := eCall (eA (eV rfl) eA0) s2
        show compL (ptB (.nm 8)) (fun _ ah => .ok true ah) E1_Job_do [some (.ref o), some (.tup parts), some w, some told, some sheet, some many, some bad, some r, none] (d :: ps) acc a = _
        simp only [compL, show ptB (.nm 8) d [some (.ref o), some (.tup parts), some w, some told, some sheet, some many, some bad, some r, none] = some [some (.ref o), some (.tup parts), some w, some told, some sheet, some many, some bad, some r, some d] from rfl, e, Res.nox_ok, Res.bind_ok, if_true]
        rw [if_pos (Nat.lt_of_le_of_lt (show acc.length ≤ 100 by omega) (by rw [sizeLine_eq]; decide))]
        exact k3
  obtain ⟨ss, k1, k2, k3⟩ := cl parts [] (by simp; omega) h
  refine ⟨Txt.join ⟨#[32]⟩ ss, eJoin (a := ⟨#[32]⟩) eC (eLc (eSqT (eV rfl)) k3) ?_⟩
  have sm : (ss.map (fun x => x.length)).sum ≤ ss.length * 13 := by
    clear k3 k1
    induction ss with
    | nil => simp
    | cons x xs ih =>
      have h1 := k2 x List.mem_cons_self
      have h2 := ih fun z hz => k2 z (List.mem_cons_of_mem _ hz)
      rw [List.map_cons, List.sum_cons, List.length_cons, Nat.succ_mul]
      omega
  unfold mJoin
  simp only [seqD, List.nil_append, strsD_map]
  rw [if_pos (by rw [show (⟨#[32]⟩ : Str).length = 1 from rfl]; omega)]
/-- both lists grow -/
theorem push {o p l m k : Nat} {past : List Nat} {parts : List D} {w told sheet many bad : D} {a : AH} (J : Jb o p l m past k a) (hl : past.length ≤ 1000) (hk : k ≤ 1000) (hp : parts.length ≤ 4) (h : ∀ d ∈ parts, (∃ n : Nat, n < 1000000 ∧ d = dI n) ∨ ∃ s : Str, s.length ≤ 13 ∧ d = .str s) :
    ∃ a2, Jb o p l m (past ++ [m]) (k + 1) a2 ∧ a2.length = a.length ∧ (∀ j, j ≠ p → j ≠ l → a2[j]? = a[j]?) ∧ ∀ (fin : FS) (R : Res (Fl × AE)), fin [some (.ref o), some (.tup parts), some w, some told, some sheet, some many, some bad, some .non, none] a2 = R →
      sSeq (sIf (iTr (iBin oIsNot (iVar 7) (iC .non))) (sRaise "BadDeed" ["reason"] [(iVar 7)]) sNx) (sSeq (sDrop (iApp (iFld "Job" "_past" (iVar 0)) (iCall oTup [(iFld "Job" "_sheets" (iVar 0)), (iFld "Job" "_finished" (iVar 0))])))
  (sSeq (sDrop (iApp (iFld "Job" "_lines" (iVar 0)) (iJoin (iC (.str ⟨#[32]⟩)) (iLc (iSeqS (iVar 1)) (ptB (.nm 8)) (fun _ ah => .ok true ah) E1_Job_do [8])))) fin)) [some (.ref o), some (.tup parts), some w, some told, some sheet, some many, some bad, some .non, none] a = R := by
  obtain ⟨ls, l1, l2⟩ := J.li
  have q1 := eApp (fo := iFld "Job" "_past" (iVar 0)) (f := iCall oTup [(iFld "Job" "_sheets" (iVar 0)), (iFld "Job" "_finished" (iVar 0))]) (env := [some (.ref o), some (.tup parts), some w, some told, some sheet, some many, some bad, some .non, none]) (y := .tup [sh m, fin0]) (eFld (eV rfl) J.ob (lk_p m p l)) J.pa (eCall (eA (eFld (eV rfl) J.ob (lk_s m p l)) (eA (eFld (eV rfl) J.ob (lk_f m p l)) eA0)) rfl) J.pa (by unfold pst; rw [List.length_map]; exact Nat.lt_of_le_of_lt hl (by rw [sizeLine_eq]; decide))
  have o1 : (a.set p (.lst (pst past ++ [.tup [sh m, fin0]])))[o]? = some (jobO m p l) := by rw [List.getElem?_set_ne (Ne.symm J.op)]; exact J.ob
  have p1 : (a.set p (.lst (pst past ++ [.tup [sh m, fin0]])))[p]? = some (.lst (pst past ++ [.tup [sh m, fin0]])) := set_at J.pa
  have l3 : (a.set p (.lst (pst past ++ [.tup [sh m, fin0]])))[l]? = some (.lst ls) := by rw [List.getElem?_set_ne J.pl]; exact l2
  obtain ⟨s, hs⟩ := line_ex (o := o) (w := w) (told := told) (sheet := sheet) (many := many) (bad := bad) (r := .non) (a := a.set p (.lst (pst past ++ [.tup [sh m, fin0]]))) hp h
  have q2 := eApp (fo := iFld "Job" "_lines" (iVar 0)) (y := .str s) (eFld (eV rfl) o1 (lk_l m p l)) l3 hs l3 (Nat.lt_of_le_of_lt (Nat.le_trans l1 hk) (by rw [sizeLine_eq]; decide))
  refine ⟨_, ⟨?_, ?_, ⟨ls ++ [.str s], by rw [List.length_append, List.length_singleton]; omega, set_at l3⟩, J.op, J.ol, J.pl⟩, by rw [List.length_set, List.length_set], fun j h1 h2 => ?_, fun fin R hf => eSeq (eSIfF (eTr (eBin (eV rfl) eC rfl)) eNx) (eSeq (eDrop q1) (eSeq (eDrop q2) hf))⟩
  · rw [List.getElem?_set_ne (Ne.symm J.ol)]; exact o1
  · rw [List.getElem?_set_ne (Ne.symm J.pl), p1]; unfold pst; rw [List.map_append]; rfl
  · rw [List.getElem?_set_ne (Ne.symm h2), List.getElem?_set_ne (Ne.symm h1)]
theorem do_start {o p l m k x : Nat} {past : List Nat} {a : AH} (J : Jb o p l m past k a) (hx : x ≤ 10000) (hk : k ≤ 1000) (hp : past.length < 60) : ∃ a', F_Job_do [.ref o, dStart 0 x] a = .ok .non a' ∧ Jb o p l (m + x) (past ++ [m]) (k + 1) a' ∧ Fr o p l a a' := by
  have rf := ref_start J hx
  unfold dRes at rf
  rw [if_pos hp] at rf
  obtain ⟨a2, J2, n2, f2, go⟩ := push (parts := [.str wStart, dI 0, dI x]) (w := .str wStart) (told := .dk [kS, kM] [dI 0, dI x]) (sheet := dI 0) (many := dI x) (bad := dI 0) J (by omega) hk (by show 3 ≤ 4; decide) (fun d hd => by
    simp only [List.mem_cons, List.not_mem_nil, or_false] at hd
    rcases hd with rfl | rfl | rfl
    · exact .inr ⟨_, by decide, rfl⟩
    · exact .inl ⟨0, by decide, rfl⟩
    · exact .inl ⟨x, by omega, rfl⟩)
  refine ⟨a2.set o (jobO (m + x) p l), eBodyN (do_pre (told := .dk [kS, kM] [dI 0, dI x]) J.ob rfl rfl rfl rfl rfl rf (go _ _ (eSIfF (eTr (eBin (eV rfl) eC rfl)) (eDrop (eMeth (eV rfl) J2.ob rfl (eA (eV rfl) (eA (eV rfl) (eA (eV rfl) (eA (eV rfl) eA0)))) (sheet_eq J2.ob)))))), ⟨set_at J2.ob, by rw [List.getElem?_set_ne J.op]; exact J2.pa, ?_, J.op, J.ol, J.pl⟩, by rw [List.length_set, n2]; exact Nat.le_refl _, fun j _ h1 h2 h3 => by rw [List.getElem?_set_ne (Ne.symm h1)]; exact f2 j h2 h3⟩
  obtain ⟨ls, l1, l2⟩ := J2.li
  exact ⟨ls, l1, by rw [List.getElem?_set_ne J.ol]; exact l2⟩
theorem do_full {o p l m k x : Nat} {past : List Nat} {a : AH} (J : Jb o p l m past k a) (hx : x ≤ 10000) (hp : ¬ past.length < 60) : ∃ e, F_Job_do [.ref o, dStart 0 x] a = .exc (bdX tmS) e a := by
  have rf := ref_start J hx
  unfold dRes at rf
  rw [if_neg hp] at rf
  exact ⟨_, eBodyX (do_pre (told := .dk [kS, kM] [dI 0, dI x]) J.ob rfl rfl rfl rfl rfl rf raise_it)⟩
theorem do_gather {o p l m k : Nat} {past : List Nat} {a : AH} (J : Jb o p l m past k a) (hk : k ≤ 1000) (hp : past.length < 60) : ∃ a', F_Job_do [.ref o, dGather] a = .ok .non a' ∧ Jb o p l m (past ++ [m]) (k + 1) a' ∧ Fr o p l a a' := by
  have rf := ref_gather J
  unfold dRes at rf
  rw [if_pos hp] at rf
  obtain ⟨a2, J2, n2, f2, go⟩ := push (parts := [.str wGather, dI 0]) (w := .str wGather) (told := .dk [kM] [dI 0]) (sheet := .non) (many := dI 0) (bad := dI 0) J (by omega) hk (by decide) (fun d hd => by
    simp only [List.mem_cons, List.not_mem_nil, or_false] at hd
    rcases hd with rfl | rfl
    · exact .inr ⟨_, by decide, rfl⟩
    · exact .inl ⟨0, by decide, rfl⟩)
  exact ⟨a2, eBodyN (do_pre (told := .dk [kM] [dI 0]) J.ob rfl rfl rfl rfl rfl rf (go _ _ (eSIfT (eTr (eBin (eV rfl) eC rfl)) (eDrop (eMeth (eV rfl) J2.ob rfl (eA (eV rfl) (eA (eV rfl) (eA (eV rfl) eA0))) (copies_eq J2.ob)))))), J2, by rw [n2]; exact Nat.le_refl _, fun j _ h1 h2 h3 => f2 j h2 h3⟩
theorem do_gfull {o p l m k : Nat} {past : List Nat} {a : AH} (J : Jb o p l m past k a) (hp : ¬ past.length < 60) : ∃ e, F_Job_do [.ref o, dGather] a = .exc (bdX tmS) e a := by
  have rf := ref_gather J
  unfold dRes at rf
  rw [if_neg hp] at rf
  exact ⟨_, eBodyX (do_pre (told := .dk [kM] [dI 0]) J.ob rfl rfl rfl rfl rfl rf raise_it)⟩
theorem do_s1 {o p l m k : Nat} {past : List Nat} {a : AH} (J : Jb o p l m past k a) : ∃ e, F_Job_do [.ref o, dStart 1 1] a = .exc (bdX nsS) e a :=
  ⟨_, eBodyX (do_pre (told := .dk [kS, kM] [dI 1, dI 1]) J.ob rfl rfl rfl rfl rfl (ref_sheet J) raise_it)⟩
theorem do_fr {o p l m k : Nat} {past : List Nat} {a : AH} (J : Jb o p l m past k a) (h : m < 10000) : ∃ e, F_Job_do [.ref o, dFront] a = .exc (bdX neS') e a :=
  ⟨_, eBodyX (do_pre (told := .dk [kS, kM, kB] [dI 0, dI 10000, dI 0]) J.ob rfl rfl rfl rfl rfl (ref_front J h) raise_it)⟩
theorem do_bi {o p l m k : Nat} {past : List Nat} {a : AH} (J : Jb o p l m past k a) : ∃ e, F_Job_do [.ref o, dBind] a = .exc (bdX baS) e a :=
  ⟨_, eBodyX (do_pre (told := .dk [kM, kB] [dI 1, dI 2]) J.ob rfl rfl rfl rfl rfl ref_bind raise_it)⟩
theorem sc__law_told : FnScope ["job", "deed", "e"] ["job", "deed"] (defScope s__law_told) := ⟨rfl, rfl, rfl, by decide +kernel, rfl, by decide +kernel, by decide +kernel⟩
def B__law_told : FS :=
  (sSeq (sTryAs 2 [("BadDeed", true)] (sDrop (iMethX "Job" "do" F_Job_do (iVar 0) [(iVar 1)])) (fun a dd nm => (sRet (iXf a dd nm 2 "reason" "BadDeed"))))
  (sRet (iC (.str ⟨#[]⟩))))
theorem raw__law_told (M : Mods w K mg) (h_Job_do : OkMX P w K mg base "Job" "do" 4 ["self", "deed"] F_Job_do) : Ok1 P w K mg base "_law_told" 5 ["job", "deed"] (iBody 3 B__law_told) := by
  obtain ⟨f, fd, F, hm, hb⟩ := M.f__law_told
  refine ⟨f, fd, hm, F.kp, hb, fn_ok (k := 4) F sc__law_told fun cdv A outer s H E hr hn => ?_⟩
  have hrJob_do := hr.mono (j := 4) (by decide)
  have hu65 := room65 hr
  have hu1 := room1 hr
  exact (s_cons (s_tryAs (i := 2) sc__law_told.nd ⟨by exact rfl, by decide, .inl M.g_BadDeed⟩ takes0 (ms_cons M.x_BadDeed_BadDeed ms_nil) (fun W1 pn1 xe1 tk1 po1 => (s_one (s_drop (OkMX.jd M.c_Job h_Job_do hrJob_do hn tk1 (j_var 0) rfl (a_cons (j_var 1) a_nil))))) (fun a dd oe nm pn hz hf => (s_one (s_ret (j_xf (i := 2) hz hf M.e_BadDeed (by decide))))))
  (s_one (s_ret (j_str ⟨#[]⟩ (by kernel_rfl)))))
def F__law_told : List D → AH → Res D := iBody 3 B__law_told
theorem told_exc {o p l m k : Nat} {past : List Nat} {deed : D} {r : Str} {a : AH} (J : Jb o p l m past k a) (h : ∃ e, F_Job_do [.ref o, deed] a = .exc (bdX r) e a) : F__law_told [.ref o, deed] a = .ok (.str r) (a ++ [.gone]) := by
  obtain ⟨e, hc⟩ := h
  refine eBodyR (env1 := [some (.ref o), some deed, none]) (eSeqR (eTry (x := bdX r) (env1 := [some (.ref o), some deed, none]) (eDropX (eMethXx (eV rfl) J.ob rfl (eA (eV rfl) eA0) hc)) rfl fun a1 dd => ?_))
  show tidyR 2 a.length (sRet (iXf a1 dd "BadDeed" 2 "reason" "BadDeed") _ (a ++ [.xd a1 dd (bdX r)])) = _
  rw [eRet (eXf (v := .str r) rfl (lastX_snoc _ _ _ _) rfl)]
  show Res.ok _ ((a ++ [AO.xd a1 dd (bdX r)]).set a.length .gone) = _
  rw [set_last]
  rfl
theorem told_ok {o p l m k : Nat} {past : List Nat} {deed : D} {a a' : AH} (J : Jb o p l m past k a) (h : F_Job_do [.ref o, deed] a = .ok .non a') : F__law_told [.ref o, deed] a = .ok (.str ⟨#[]⟩) a' :=
  eBodyR (eSeq (eTryOk (eDrop (eMethX (eV rfl) J.ob rfl (eA (eV rfl) eA0) h))) (eRet eC))
theorem Jb.keep {o p l m k : Nat} {past : List Nat} {a a' : AH} (J : Jb o p l m past k a) (h : ∀ j, j < a.length → a'[j]? = a[j]?) : Jb o p l m past k a' := by
  have lt : ∀ {j : Nat} {q : AO}, a[j]? = some q → a'[j]? = some q := fun e => by rw [h _ (List.getElem?_eq_some_iff.mp e).1]; exact e
  obtain ⟨ls, l1, l2⟩ := J.li
  exact ⟨lt J.ob, lt J.pa, ⟨ls, l1, lt l2⟩, J.op, J.ol, J.pl⟩
theorem Jb.gone {o p l m k : Nat} {past : List Nat} {a : AH} (J : Jb o p l m past k a) : Jb o p l m past k (a ++ [.gone]) := J.keep fun j hj => List.getElem?_append_left hj
theorem Fr.gone {o p l : Nat} {a : AH} : Fr o p l a (a ++ [.gone]) := ⟨by rw [List.length_append]; omega, fun j hj _ _ _ => List.getElem?_append_left hj⟩
theorem Fr.trans {o p l : Nat} {a b c : AH} (h : Fr o p l a b) (g : Fr o p l b c) : Fr o p l a c := ⟨Nat.le_trans h.1 g.1, fun j hj h1 h2 h3 => (g.2 j (Nat.lt_of_lt_of_le hj h.1) h1 h2 h3).trans (h.2 j hj h1 h2 h3)⟩
theorem tl_start {o p l m k x : Nat} {past : List Nat} {a : AH} (J : Jb o p l m past k a) (hx : x ≤ 10000) (hk : k ≤ 1000) (hp : past.length < 60) : ∃ a', F__law_told [.ref o, dStart 0 x] a = .ok (.str ⟨#[]⟩) a' ∧ Jb o p l (m + x) (past ++ [m]) (k + 1) a' ∧ Fr o p l a a' := by
  obtain ⟨a', h1, h2, h3⟩ := do_start J hx hk hp
  exact ⟨a', told_ok J h1, h2, h3⟩
theorem tl_full {o p l m k x : Nat} {past : List Nat} {a : AH} (J : Jb o p l m past k a) (hx : x ≤ 10000) (hp : ¬ past.length < 60) : F__law_told [.ref o, dStart 0 x] a = .ok (.str tmS) (a ++ [.gone]) := told_exc J (do_full J hx hp)
theorem sc_Job_undo : FnScope ["self"] ["self"] (defScope s_Job_undo) := ⟨rfl, rfl, rfl, by decide +kernel, rfl, by decide +kernel, by decide +kernel⟩
def B_Job_undo : FS :=
  (sSeq (sIf (iTr (iBin oEq (iCall oLen [(iFld "Job" "_past" (iVar 0))]) (iC (.int 0)))) (sRet (iC (.bl false))) sNx)
  (sSeq (sSetF2 "Job" "_sheets" "Job" "_finished" (iVar 0) (iVar 0) (iPop0 (iFld "Job" "_past" (iVar 0))))
  (sSeq (sDrop (iApp (iFld "Job" "_lines" (iVar 0)) (iC (.str ⟨#[117, 110, 100, 111]⟩))))
  (sRet (iC (.bl true))))))
theorem raw_Job_undo (M : Mods w K mg) : OkM P w K mg base "Job" "undo" 1 ["self"] (iBody 1 B_Job_undo) := by
  obtain ⟨f, fd, hm, F, hb⟩ := M.f_Job_undo
  refine ⟨f, fd, hm, hb, fn_ok (k := 0) F sc_Job_undo fun cdv A outer s H E hr hn => ?_⟩
  have hu65 := room65 hr
  have hu1 := room1 hr
  exact (s_cons (s_if (t_cmp (j_pc (op_eqA hr.units) ok_eq (j_callB call_lenA ok_len (by exact rfl) M.nb_len boot_len (a_cons (j_fld (f := "_past") M.c_Job (j_var 0)) a_nil)) j_int)) (s_one (s_ret j_bl)) s_nil)
  (s_cons (s_setF2 (f1 := "_sheets") (f2 := "_finished") rfl M.c_Job M.c_Job (j_var 0) (j_var 0) (j_pop0 (j_fld (f := "_past") M.c_Job (j_var 0))))
  (s_cons (s_drop (j_app (j_fld (f := "_lines") M.c_Job (j_var 0)) (j_str ⟨#[117, 110, 100, 111]⟩ (by kernel_rfl))))
  (s_one (s_ret j_bl)))))
def F_Job_undo : List D → AH → Res D := iBody 1 B_Job_undo
theorem setF_at {C f : Str} {n : Nat} {fs : List (Str × D)} {d : D} {a : AH} (h : a[n]? = some (.ins C fs)) (hl : fs.length < 999) : setF C f (.ref n) d a = some (a.set n (.ins C (putA f d fs))) := by
  unfold setF
  simp only [h]
  rw [if_pos (by first | exact ⟨rfl, hl⟩ | exact ⟨trivial, hl⟩)]
theorem eSetF2 {C1 f1 C2 f2 : Str} {fo fp f : FE} {env : AE} {ah a1 a2 a3 a4 a5 : AH} {x y o1 p1 : D} (h1 : f env ah = .ok (.tup [x, y]) a1) (h2 : fo env a1 = .ok o1 a2) (h3 : setF C1 f1 o1 x a2 = some a3) (h4 : fp env a3 = .ok p1 a4) (h5 : setF C2 f2 p1 y a4 = some a5) : sSetF2 C1 f1 C2 f2 fo fp f env ah = .ok (.nx, env) a5 := by
  unfold sSetF2
  rw [h1, Res.bind_ok]
  simp only
  rw [h2, Res.bind_ok]
  simp only [h3]
  rw [h4, Res.bind_ok]
  simp only [h5]
theorem undo_no {o p l m k : Nat} {a : AH} (J : Jb o p l m [] k a) : F_Job_undo [.ref o] a = .ok (.bl false) a :=
  eBodyR (eSeqR (eSIfT (eTr (eBin (eCall (eA (eFld (eV rfl) J.ob (lk_p m p l)) eA0) (len_ref J.pa)) (eN 0) eqN)) (eRet eC)))
theorem undo_yes {o p l m k x : Nat} {ps : List Nat} {a : AH} (J : Jb o p l m (ps ++ [x]) k a) (hk : k ≤ 1000) : ∃ a', F_Job_undo [.ref o] a = .ok (.bl true) a' ∧ Jb o p l x ps (k + 1) a' ∧ Fr o p l a a' := by
  obtain ⟨ls, l1, l2⟩ := J.li
  have t1 : (iTr (iBin oEq (iCall oLen [(iFld "Job" "_past" (iVar 0))]) (iC (.int 0)))) [some (.ref o)] a = .ok false a := eTr (eBin (eCall (eA (eFld (eV rfl) J.ob (lk_p m p l)) eA0) (len_ref J.pa)) (eN 0) (by rw [eqN]; unfold pst; rw [List.length_map, List.length_append, decide_eq_false (by simp)]))
  have pp : oPop0 (.ref p) a = .ok (.tup [sh x, fin0]) (a.set p (.lst (pst ps))) := by
    unfold oPop0
    simp only [J.pa]
    have e : (pst (ps ++ [x]))[(pst (ps ++ [x])).length - 1]? = some (.tup [sh x, fin0]) := by unfold pst; simp
    rw [e]
    simp only
    congr 2
    unfold pst
    simp
  have o1 : (a.set p (.lst (pst ps)))[o]? = some (jobO m p l) := by rw [List.getElem?_set_ne (Ne.symm J.op)]; exact J.ob
  have g1 := setF_at (C := "Job") (f := "_sheets") (d := sh x) o1 (by show 5 < 999; decide)
  rw [pt_s] at g1
  have o2 : ((a.set p (.lst (pst ps))).set o (jobO x p l))[o]? = some (jobO x p l) := set_at o1
  have g2 := setF_at (C := "Job") (f := "_finished") (d := fin0) o2 (by show 5 < 999; decide)
  rw [pt_f, set_eq o2] at g2
  have c2 := eSetF2 (C1 := "Job") (f1 := "_sheets") (C2 := "Job") (f2 := "_finished") (fo := iVar 0) (fp := iVar 0) (f := iPop0 (iFld "Job" "_past" (iVar 0))) (env := [some (.ref o)]) (ah := a) (by unfold iPop0; rw [eFld (eV rfl) J.ob (lk_p m p l), Res.bind_ok]; exact pp) (eV rfl) g1 (eV rfl) g2
  have l3 : ((a.set p (.lst (pst ps))).set o (jobO x p l))[l]? = some (.lst ls) := by rw [List.getElem?_set_ne J.ol, List.getElem?_set_ne J.pl]; exact l2
  have c3 := eApp (fo := iFld "Job" "_lines" (iVar 0)) (f := iC (.str ⟨#[117, 110, 100, 111]⟩)) (env := [some (.ref o)]) (eFld (eV rfl) o2 (lk_l x p l)) l3 eC l3 (Nat.lt_of_le_of_lt (Nat.le_trans l1 hk) (by rw [sizeLine_eq]; decide))
  refine ⟨_, eBodyR (eSeq (eSIfF t1 eNx) (eSeq c2 (eSeq (eDrop c3) (eRet eC)))), ⟨?_, ?_, ⟨ls ++ [.str ⟨#[117, 110, 100, 111]⟩], by rw [List.length_append, List.length_singleton]; omega, set_at l3⟩, J.op, J.ol, J.pl⟩, by rw [List.length_set, List.length_set, List.length_set]; exact Nat.le_refl _, fun j _ h1 h2 h3 => ?_⟩
  · rw [List.getElem?_set_ne (Ne.symm J.ol)]; exact o2
  · rw [List.getElem?_set_ne (Ne.symm J.pl), List.getElem?_set_ne J.op]; exact set_at J.pa
  · rw [List.getElem?_set_ne (Ne.symm h3), List.getElem?_set_ne (Ne.symm h1), List.getElem?_set_ne (Ne.symm h2)]
theorem sc_Job_counts : FnScope ["self"] ["self"] (defScope s_Job_counts) := ⟨rfl, rfl, rfl, by decide +kernel, rfl, by decide +kernel, by decide +kernel⟩
def B_Job_counts : FS :=
  (sRet (iFld "Job" "_sheets" (iVar 0)))
theorem raw_Job_counts (M : Mods w K mg) : OkM P w K mg base "Job" "counts" 1 ["self"] (iBody 1 B_Job_counts) := by
  obtain ⟨f, fd, hm, F, hb⟩ := M.f_Job_counts
  refine ⟨f, fd, hm, hb, fn_ok (k := 0) F sc_Job_counts fun cdv A outer s H E hr hn => ?_⟩
  have hu65 := room65 hr
  have hu1 := room1 hr
  exact (s_one (s_ret (j_fld (f := "_sheets") M.c_Job (j_var 0))))
def F_Job_counts : List D → AH → Res D := iBody 1 B_Job_counts
theorem counts_eq {o p l m k : Nat} {past : List Nat} {a : AH} (J : Jb o p l m past k a) : F_Job_counts [.ref o] a = .ok (sh m) a := eBodyR (eRet (eFld (eV rfl) J.ob (lk_s m p l)))
theorem sc_law : FnScope ["script", "box", "job", "amounts", "k", "many", "told"] ["script"] (defScope s_law) := ⟨rfl, rfl, rfl, by decide +kernel, rfl, by decide +kernel, by decide +kernel⟩
abbrev L1_law : FS := (sSeq (sAsg (ptB (.nm 5)) (iDef F__law_draw [(iVar 1), (iC (.int 50))]))
  (sSeq (sAsg (ptB (.nm 6)) (iDef F__law_told [(iVar 2), (iCall oTup [(iC (.str ⟨#[115, 116, 97, 114, 116]⟩)), (iC (.int 0)), (iVar 5)])]))
  (sSeq (sIf (iTr (iBin oNe (iVar 6) (iBin oIx (iCall oLst [(iC (.str ⟨#[]⟩)), (iC (.str ⟨#[116, 111, 111, 32, 109, 97, 110, 121, 32, 100, 101, 101, 100, 115]⟩))]) (iCall oInt [(iBin oGe (iVar 4) (iC (.int 60)))])))) (sRet (iC (.bl false))) sNx)
  (sIf (iTr (iBin oEq (iVar 6) (iC (.str ⟨#[]⟩)))) (sDrop (iApp (iVar 3) (iBin oAdd (iBin oIx (iVar 3) (iUn oNeg (iC (.int 1)))) (iVar 5)))) sNx))))
abbrev L2_law : FS := (sIf (bOr (iTr (iBin oIsNot (iMeth "Job" "undo" F_Job_undo (iVar 2) []) (iC (.bl true)))) (iTr (iBin oNe (iMeth "Job" "counts" F_Job_counts (iVar 2) []) (iCall oTup [(iCall oTup [(iBin oIx (iVar 3) (iBin oSub (iBin oSub (iCall oLen [(iVar 3)]) (iC (.int 2))) (iCall oInt [(iVar 4)]))), (iC (.int 0)), (iC (.int 0)), (iC (.int 0)), (iC (.int 0))])])))) (sRet (iC (.bl false))) sNx)
def B_law : FS :=
  (sSeq (sAsg (ptB (.nm 1)) (iCall oLstM [(iDef F__law_digits [(iVar 0), (iC (.int 0)), (iC (.int 20))]), (iC (.int 0))]))
  (sSeq (sAsg (ptB (.nm 2)) (iNew "Job" F_Job___init__ [(iC (.int 1)), (iC (.int 5))]))
  (sSeq (sAsg (ptB (.nm 3)) (iCall oLstM [(iC (.int 0))]))
  (sSeq (sFor (iRange1 [(iBin oAdd (iC (.int 57)) (iDef F__law_draw [(iVar 1), (iC (.int 7))]))]) (ptB (.nm 4)) L1_law)
  (sSeq (sIf (bOr (iTr (iBin oNe (iDef F__law_told [(iVar 2), (iCall oTup [(iC (.str ⟨#[115, 116, 97, 114, 116]⟩)), (iC (.int 1)), (iC (.int 1))])]) (iC (.str ⟨#[110, 111, 32, 115, 104, 101, 101, 116]⟩)))) (bOr (iTr (iBin oNe (iDef F__law_told [(iVar 2), (iCall oTup [(iC (.str ⟨#[102, 114, 111, 110, 116]⟩)), (iC (.int 0)), (iC (.int 10000)), (iC (.int 0))])]) (iC (.str ⟨#[110, 111, 116, 32, 101, 110, 111, 117, 103, 104]⟩)))) (iTr (iBin oNe (iDef F__law_told [(iVar 2), (iCall oTup [(iC (.str ⟨#[98, 105, 110, 100]⟩)), (iC (.int 1)), (iC (.int 2))])]) (iC (.str ⟨#[98, 97, 100]⟩)))))) (sRet (iC (.bl false))) sNx)
  (sSeq (sIf (bAnd (iTr (iBin oEq (iCall oLen [(iVar 3)]) (iC (.int 61)))) (bOr (bNot (iTru (iMeth "Job" "undo" F_Job_undo (iVar 2) []))) (bOr (iTr (iBin oNe (iDef F__law_told [(iVar 2), (iCall oTup [(iC (.str ⟨#[103, 97, 116, 104, 101, 114]⟩)), (iC (.int 0))])]) (iC (.str ⟨#[]⟩)))) (bOr (iTr (iBin oNe (iDef F__law_told [(iVar 2), (iCall oTup [(iC (.str ⟨#[103, 97, 116, 104, 101, 114]⟩)), (iC (.int 0))])]) (iC (.str ⟨#[116, 111, 111, 32, 109, 97, 110, 121, 32, 100, 101, 101, 100, 115]⟩)))) (bNot (iTru (iMeth "Job" "undo" F_Job_undo (iVar 2) []))))))) (sRet (iC (.bl false))) sNx)
  (sSeq (sIf (iTr (iBin oEq (iCall oLen [(iVar 3)]) (iC (.int 61)))) (sDrop (iPop0 (iVar 3))) sNx)
  (sSeq (sFor (iRange1 [(iBin oSub (iCall oLen [(iVar 3)]) (iC (.int 1)))]) (ptB (.nm 4)) L2_law)
  (sRet (iAnd (iBin oIs (iMeth "Job" "undo" F_Job_undo (iVar 2) []) (iC (.bl false))) (iBin oEq (iMeth "Job" "counts" F_Job_counts (iVar 2) []) (iCall oTup [(iCall oTup [(iC (.int 0)), (iC (.int 0)), (iC (.int 0)), (iC (.int 0)), (iC (.int 0))])]))))))))))))
theorem raw_law (M : Mods w K mg) (h__law_digits : Ok1 P w K mg base "_law_digits" 2 ["script", "first", "last"] F__law_digits) (h_Job___init__ : OkM P w K mg base "Job" "__init__" 1 ["self", "sheets", "copies"] F_Job___init__) (h__law_draw : Ok1 P w K mg base "_law_draw" 1 ["box", "many"] F__law_draw) (h__law_told : Ok1 P w K mg base "_law_told" 5 ["job", "deed"] F__law_told) (h_Job_undo : OkM P w K mg base "Job" "undo" 1 ["self"] F_Job_undo) (h_Job_counts : OkM P w K mg base "Job" "counts" 1 ["self"] F_Job_counts) : Ok1 P w K mg base "law" 6 ["script"] (iBody 7 B_law) := by
  obtain ⟨f, fd, F, hm, hb⟩ := M.f_law
  refine ⟨f, fd, hm, F.kp, hb, fn_ok (k := 5) F sc_law fun cdv A outer s H E hr hn => ?_⟩
  have hr_law_digits := hr.mono (j := 2) (by decide)
  have hrJob___init__ := hr.mono (j := 2) (by decide)
  have hr_law_draw := hr.mono (j := 1) (by decide)
  have hr_law_told := hr.mono (j := 5) (by decide)
  have hrJob_undo := hr.mono (j := 1) (by decide)
  have hrJob_counts := hr.mono (j := 1) (by decide)
  have hu65 := room65 hr
  have hu1 := room1 hr
  exact (s_cons (s_set 1 sc_law.nd (j_lstM (a_cons (h__law_digits.jd hr_law_digits hn (by exact rfl) rfl (a_cons (j_var 0) (a_cons j_int (a_cons j_int a_nil)))) (a_cons j_int a_nil))))
  (s_cons (s_set 2 sc_law.nd (OkM.new M.c_Job h_Job___init__ hrJob___init__ hn (by exact rfl) M.g_Job rfl (a_cons j_int (a_cons j_int a_nil))))
  (s_cons (s_set 3 sc_law.nd (j_lstM (a_cons j_int a_nil)))
  (s_cons (s_for PassesOwn.never rfl (i_range1 (by exact rfl) M.nb_range (a_cons (j_bin op_addA ok_add j_int (h__law_draw.jd hr_law_draw hn (by exact rfl) rfl (a_cons (j_var 1) (a_cons j_int a_nil)))) a_nil)) (g_nm 4 sc_law.nd) (s_cons (s_set 5 sc_law.nd (h__law_draw.jd hr_law_draw hn (by exact rfl) rfl (a_cons (j_var 1) (a_cons j_int a_nil))))
  (s_cons (s_set 6 sc_law.nd (h__law_told.jd hr_law_told hn (by exact rfl) rfl (a_cons (j_var 2) (a_cons (j_tup (a_cons (j_str ⟨#[115, 116, 97, 114, 116]⟩ (by kernel_rfl)) (a_cons j_int (a_cons (j_var 5) a_nil)))) a_nil))))
  (s_cons (s_if (t_cmp (j_pc (op_neA hr.units) ok_ne (j_var 6) (j_ix hu1 (j_lst (a_cons (j_str ⟨#[]⟩ (by kernel_rfl)) (a_cons (j_str ⟨#[116, 111, 111, 32, 109, 97, 110, 121, 32, 100, 101, 101, 100, 115]⟩ (by kernel_rfl)) a_nil))) (j_callT call_int1 ok_int (by exact rfl) M.nb_int boot_int (a_cons (j_cmp (j_pc op_geA ok_cmp (j_var 4) j_int)) a_nil))))) (s_one (s_ret j_bl)) s_nil)
  (s_one (s_if (t_cmp (j_pc (op_eqA hr.units) ok_eq (j_var 6) (j_str ⟨#[]⟩ (by kernel_rfl)))) (s_one (s_drop (j_app (j_var 3) (j_bin op_addA ok_add (j_ix hu1 (j_var 3) (j_un un_neg ok_neg j_int)) (j_var 5))))) s_nil))))))
  (s_cons (s_if (w_or (t_cmp (j_pc (op_neA hr.units) ok_ne (h__law_told.jd hr_law_told hn (by exact rfl) rfl (a_cons (j_var 2) (a_cons (j_tup (a_cons (j_str ⟨#[115, 116, 97, 114, 116]⟩ (by kernel_rfl)) (a_cons j_int (a_cons j_int a_nil)))) a_nil))) (j_str ⟨#[110, 111, 32, 115, 104, 101, 101, 116]⟩ (by kernel_rfl)))) (w_or (t_cmp (j_pc (op_neA hr.units) ok_ne (h__law_told.jd hr_law_told hn (by exact rfl) rfl (a_cons (j_var 2) (a_cons (j_tup (a_cons (j_str ⟨#[102, 114, 111, 110, 116]⟩ (by kernel_rfl)) (a_cons j_int (a_cons j_int (a_cons j_int a_nil))))) a_nil))) (j_str ⟨#[110, 111, 116, 32, 101, 110, 111, 117, 103, 104]⟩ (by kernel_rfl)))) (w_or1 (t_cmp (j_pc (op_neA hr.units) ok_ne (h__law_told.jd hr_law_told hn (by exact rfl) rfl (a_cons (j_var 2) (a_cons (j_tup (a_cons (j_str ⟨#[98, 105, 110, 100]⟩ (by kernel_rfl)) (a_cons j_int (a_cons j_int a_nil)))) a_nil))) (j_str ⟨#[98, 97, 100]⟩ (by kernel_rfl))))))).pt (s_one (s_ret j_bl)) s_nil)
  (s_cons (s_if (w_and (t_cmp (j_pc (op_eqA hr.units) ok_eq (j_callB call_lenA ok_len (by exact rfl) M.nb_len boot_len (a_cons (j_var 3) a_nil)) j_int)) (w_and1 (w_or (t_not (t_tru (OkM.jd0 M.c_Job h_Job_undo hrJob_undo hn (j_var 2) rfl))) (w_or (t_cmp (j_pc (op_neA hr.units) ok_ne (h__law_told.jd hr_law_told hn (by exact rfl) rfl (a_cons (j_var 2) (a_cons (j_tup (a_cons (j_str ⟨#[103, 97, 116, 104, 101, 114]⟩ (by kernel_rfl)) (a_cons j_int a_nil))) a_nil))) (j_str ⟨#[]⟩ (by kernel_rfl)))) (w_or (t_cmp (j_pc (op_neA hr.units) ok_ne (h__law_told.jd hr_law_told hn (by exact rfl) rfl (a_cons (j_var 2) (a_cons (j_tup (a_cons (j_str ⟨#[103, 97, 116, 104, 101, 114]⟩ (by kernel_rfl)) (a_cons j_int a_nil))) a_nil))) (j_str ⟨#[116, 111, 111, 32, 109, 97, 110, 121, 32, 100, 101, 101, 100, 115]⟩ (by kernel_rfl)))) (w_or1 (t_not (t_tru (OkM.jd0 M.c_Job h_Job_undo hrJob_undo hn (j_var 2) rfl))))))).pt)).pt (s_one (s_ret j_bl)) s_nil)
  (s_cons (s_if (t_cmp (j_pc (op_eqA hr.units) ok_eq (j_callB call_lenA ok_len (by exact rfl) M.nb_len boot_len (a_cons (j_var 3) a_nil)) j_int)) (s_one (s_drop (j_pop0 (j_var 3)))) s_nil)
  (s_cons (s_for PassesOwn.never rfl (i_range1 (by exact rfl) M.nb_range (a_cons (j_bin op_sub ok_sub (j_callB call_lenA ok_len (by exact rfl) M.nb_len boot_len (a_cons (j_var 3) a_nil)) j_int) a_nil)) (g_nm 4 sc_law.nd) (s_one (s_if (w_or (t_cmp (j_pc op_isNotA ok_isNot (OkM.jd0 M.c_Job h_Job_undo hrJob_undo hn (j_var 2) rfl) j_bl)) (w_or1 (t_cmp (j_pc (op_neA hr.units) ok_ne (OkM.jd0 M.c_Job h_Job_counts hrJob_counts hn (j_var 2) rfl) (j_tup (a_cons (j_tup (a_cons (j_ix hu1 (j_var 3) (j_bin op_sub ok_sub (j_bin op_sub ok_sub (j_callB call_lenA ok_len (by exact rfl) M.nb_len boot_len (a_cons (j_var 3) a_nil)) j_int) (j_callT call_int1 ok_int (by exact rfl) M.nb_int boot_int (a_cons (j_var 4) a_nil)))) (a_cons j_int (a_cons j_int (a_cons j_int (a_cons j_int a_nil)))))) a_nil)))))).pt (s_one (s_ret j_bl)) s_nil)))
  (s_one (s_ret (j_and (j_cmp (j_pc op_isA ok_is (OkM.jd0 M.c_Job h_Job_undo hrJob_undo hn (j_var 2) rfl) j_bl)) (j_one (j_cmp (j_pc (op_eqA hr.units) ok_eq (OkM.jd0 M.c_Job h_Job_counts hrJob_counts hn (j_var 2) rfl) (j_tup (a_cons (j_tup (a_cons j_int (a_cons j_int (a_cons j_int (a_cons j_int (a_cons j_int a_nil)))))) a_nil))))))))))))))))
def F_law : List D → AH → Res D := iBody 7 B_law
structure Ne4 (b o p l r : Nat) : Prop where
  bo : b ≠ o
  bp : b ≠ p
  bl : b ≠ l
  br : b ≠ r
  ro : r ≠ o
  rp : r ≠ p
  rl : r ≠ l
structure LS (b o p l r m : Nat) (past : List Nat) (k : Nat) (a : AH) : Prop where
  j : Jb o p l m past k a
  x : Box b a
  am : a[r]? = some (.lst ((past ++ [m]).map dI))
theorem Box.fr {b o p l r : Nat} {a a' : AH} (N : Ne4 b o p l r) (f : Fr o p l a a') (h : Box b a) : Box b a' := by
  obtain ⟨ds, n, z1, z2⟩ := h
  exact ⟨ds, n, z1, by rw [f.2 b (List.getElem?_eq_some_iff.mp z2).1 N.bo N.bp N.bl]; exact z2⟩
theorem am_fr {b o p l r : Nat} {a a' : AH} {q : AO} (N : Ne4 b o p l r) (f : Fr o p l a a') (h : a[r]? = some q) : a'[r]? = some q := by
  rw [f.2 r (List.getElem?_eq_some_iff.mp h).1 N.ro N.rp N.rl]; exact h
theorem Jb.upd {b o p l r m k : Nat} {past : List Nat} {a a' : AH} (N : Ne4 b o p l r) (J : Jb o p l m past k a) (u : Upd b a a') : Jb o p l m past k a' := by
  obtain ⟨ls, l1, l2⟩ := J.li
  exact ⟨(u.2 o (Ne.symm N.bo)).trans J.ob, (u.2 p (Ne.symm N.bp)).trans J.pa, ⟨ls, l1, (u.2 l (Ne.symm N.bl)).trans l2⟩, J.op, J.ol, J.pl⟩
theorem Jb.setr {b o p l r m k : Nat} {past : List Nat} {a : AH} {q : AO} (N : Ne4 b o p l r) (J : Jb o p l m past k a) : Jb o p l m past k (a.set r q) := by
  obtain ⟨ls, l1, l2⟩ := J.li
  exact ⟨by rw [List.getElem?_set_ne N.ro]; exact J.ob, by rw [List.getElem?_set_ne N.rp]; exact J.pa, ⟨ls, l1, by rw [List.getElem?_set_ne N.rl]; exact l2⟩, J.op, J.ol, J.pl⟩
theorem l1_step {b o p l r m k i : Nat} {past : List Nat} {S e5 e6 : Option D} {a : AH} (N : Ne4 b o p l r) (L : LS b o p l r m past k a) (hi : past.length = min i 60) (h70 : i < 70) (hm : m ≤ 50 * past.length) (hk : k ≤ i) (hh : (past ++ [m]).head? = some 0) (hy : ∀ y ∈ past, y ≤ 3000) :
    ∃ past' m' k' f5 f6 a', L1_law [S, some (.ref b), some (.ref o), some (.ref r), some (dI i), e5, e6] a = .ok (.nx, [S, some (.ref b), some (.ref o), some (.ref r), some (dI i), f5, f6]) a' ∧ LS b o p l r m' past' k' a' ∧ past'.length = min (i + 1) 60 ∧ m' ≤ 50 * past'.length ∧ k' ≤ i + 1 ∧ (past' ++ [m']).head? = some 0 ∧ ∀ y ∈ past', y ≤ 3000 := by
  obtain ⟨q, a1, hq, d1, b1, u1⟩ := draw_up 50 L.x (by decide)
  have J1 := L.j.upd N u1
  have m1 : a1[r]? = some (.lst ((past ++ [m]).map dI)) := (u1.2 r (Ne.symm N.br)).trans L.am
  have c1 : (sAsg (ptB (.nm 5)) (iDef F__law_draw [(iVar 1), (iC (.int 50))])) [S, some (.ref b), some (.ref o), some (.ref r), some (dI i), e5, e6] a = .ok (.nx, [S, some (.ref b), some (.ref o), some (.ref r), some (dI i), some (dI q), e6]) a1 := eAsg (eDef (eA (eV rfl) (eA eC eA0)) d1) rfl
  by_cases hp : past.length < 60
  · obtain ⟨a2, t, J2, f2⟩ := tl_start (x := q) J1 (by omega) (by omega) hp
    have m2 := am_fr N f2 m1
    have b2 := Box.fr N f2 b1
    have ige : ¬ 60 ≤ i := by omega
    have c2 : (sAsg (ptB (.nm 6)) (iDef F__law_told [(iVar 2), (iCall oTup [(iC (.str ⟨#[115, 116, 97, 114, 116]⟩)), (iC (.int 0)), (iVar 5)])])) [S, some (.ref b), some (.ref o), some (.ref r), some (dI i), some (dI q), e6] a1 = .ok (.nx, [S, some (.ref b), some (.ref o), some (.ref r), some (dI i), some (dI q), some (.str ⟨#[]⟩)]) a2 := eAsg (eDef (eA (eV rfl) (eA (x := dStart 0 q) (eCall (eA eC (eA (eN 0) (eA (eV rfl) eA0))) rfl) eA0)) t) rfl
    have ix : (iBin oIx (iCall oLst [(iC (.str ⟨#[]⟩)), (iC (.str ⟨#[116, 111, 111, 32, 109, 97, 110, 121, 32, 100, 101, 101, 100, 115]⟩))]) (iCall oInt [(iBin oGe (iVar 4) (iC (.int 60)))])) [S, some (.ref b), some (.ref o), some (.ref r), some (dI i), some (dI q), some (.str ⟨#[]⟩)] a2 = .ok (.str ⟨#[]⟩) a2 := eBin (eCall (eA eC (eA eC eA0)) lst2) (eCall (eA (x := .bl false) (eBin (eV rfl) (eN 60) (by rw [geN, decide_eq_false ige])) eA0) rfl) rfl
    have c3 := eApp (fo := iVar 3) (f := iBin oAdd (iBin oIx (iVar 3) (iUn oNeg (iC (.int 1)))) (iVar 5)) (env := [S, some (.ref b), some (.ref o), some (.ref r), some (dI i), some (dI q), some (.str ⟨#[]⟩)]) (y := dI (m + q)) (eV rfl) m2 (eBin (eBin (eV rfl) (eUn eC rfl) (ix_last (d := dI m) m2 (by simp))) (eV rfl) addN) m2 (by rw [List.length_map, List.length_append, List.length_singleton]; exact Nat.lt_of_le_of_lt (show past.length + 1 ≤ 100 by omega) (by rw [sizeLine_eq]; decide))
    refine ⟨past ++ [m], m + q, k + 1, _, _, _, eSeq c1 (eSeq c2 (eSeq (eSIfF (eTr (eBin (eV rfl) ix (by rw [neS, decide_eq_true rfl]; rfl))) eNx) (eSIfT (eTr (eBin (eV rfl) eC (by rw [eqS, decide_eq_true rfl]))) (eDrop c3)))), ⟨J2.setr N, b2.set (Ne.symm N.br), ?_⟩, by rw [List.length_append, List.length_singleton]; omega, by rw [List.length_append, List.length_singleton]; omega, by omega, ?_, fun y hy2 => ?_⟩
    · rw [List.getElem?_set_self (List.getElem?_eq_some_iff.mp m2).1, List.map_append (l₁ := past ++ [m])]; rfl
    · cases past with
      | nil => exact hh
      | cons y ys => exact hh
    · rcases List.mem_append.mp hy2 with z | z
      · exact hy y z
      · rw [List.mem_singleton.mp z]; omega
  · have t := tl_full (x := q) J1 (by omega) hp
    have ige : 60 ≤ i := by omega
    have m2 := am_fr N (Fr.gone (a := a1)) m1
    have b2 := Box.fr N (Fr.gone (a := a1)) b1
    have c2 : (sAsg (ptB (.nm 6)) (iDef F__law_told [(iVar 2), (iCall oTup [(iC (.str ⟨#[115, 116, 97, 114, 116]⟩)), (iC (.int 0)), (iVar 5)])])) [S, some (.ref b), some (.ref o), some (.ref r), some (dI i), some (dI q), e6] a1 = .ok (.nx, [S, some (.ref b), some (.ref o), some (.ref r), some (dI i), some (dI q), some (.str tmS)]) (a1 ++ [.gone]) := eAsg (eDef (eA (eV rfl) (eA (x := dStart 0 q) (eCall (eA eC (eA (eN 0) (eA (eV rfl) eA0))) rfl) eA0)) t) rfl
    have ix : (iBin oIx (iCall oLst [(iC (.str ⟨#[]⟩)), (iC (.str ⟨#[116, 111, 111, 32, 109, 97, 110, 121, 32, 100, 101, 101, 100, 115]⟩))]) (iCall oInt [(iBin oGe (iVar 4) (iC (.int 60)))])) [S, some (.ref b), some (.ref o), some (.ref r), some (dI i), some (dI q), some (.str tmS)] (a1 ++ [.gone]) = .ok (.str tmS) (a1 ++ [.gone]) := eBin (eCall (eA eC (eA eC eA0)) lst2) (eCall (eA (x := .bl true) (eBin (eV rfl) (eN 60) (by rw [geN, decide_eq_true ige])) eA0) rfl) rfl
    exact ⟨past, m, k, _, _, _, eSeq c1 (eSeq c2 (eSeq (eSIfF (eTr (eBin (eV rfl) ix (by rw [neS, decide_eq_true rfl]; rfl))) eNx) (eSIfF (eTr (eBin (eV rfl) eC (by rw [eqS, decide_eq_false (by decide)]))) eNx))), ⟨J1.gone, b2, m2⟩, by omega, hm, by omega, hh, hy⟩
theorem sh_C (m : Nat) : sh m = (Cod.tup 4 (Cod.tup 8 Cod.nat)).e [[m, 0, 0, 0, 0]] := rfl
theorem ne_sh {m n : Nat} {a : AH} (h1 : m < 100000) (h : m = n) : oNe (sh m) (sh n) a = .ok (.bl false) a := by
  subst h
  have v : (Cod.tup 4 (Cod.tup 8 Cod.nat)).val [[m, 0, 0, 0, 0]] := by
    simp only [Cod.tup, Cod.nat]
    simp
    omega
  have := Cod.ne (ah := a) (Cod.tup 4 (Cod.tup 8 Cod.nat)) v v
  rw [decide_eq_true rfl] at this
  exact this
theorem tl_gather {o p l m k : Nat} {past : List Nat} {a : AH} (J : Jb o p l m past k a) (hk : k ≤ 1000) (hp : past.length < 60) : ∃ a', F__law_told [.ref o, dGather] a = .ok (.str ⟨#[]⟩) a' ∧ Jb o p l m (past ++ [m]) (k + 1) a' ∧ Fr o p l a a' := by
  obtain ⟨a', h1, h2, h3⟩ := do_gather J hk hp
  exact ⟨a', told_ok J h1, h2, h3⟩
/-- the three refused deeds -/
theorem c5_ok {b o p l r m k : Nat} {past : List Nat} {S e4 e5 e6 : Option D} {a : AH} (N : Ne4 b o p l r) (L : LS b o p l r m past k a) (hm : m < 10000) :
    ∃ a', (sIf (bOr (iTr (iBin oNe (iDef F__law_told [(iVar 2), (iCall oTup [(iC (.str ⟨#[115, 116, 97, 114, 116]⟩)), (iC (.int 1)), (iC (.int 1))])]) (iC (.str ⟨#[110, 111, 32, 115, 104, 101, 101, 116]⟩)))) (bOr (iTr (iBin oNe (iDef F__law_told [(iVar 2), (iCall oTup [(iC (.str ⟨#[102, 114, 111, 110, 116]⟩)), (iC (.int 0)), (iC (.int 10000)), (iC (.int 0))])]) (iC (.str ⟨#[110, 111, 116, 32, 101, 110, 111, 117, 103, 104]⟩)))) (iTr (iBin oNe (iDef F__law_told [(iVar 2), (iCall oTup [(iC (.str ⟨#[98, 105, 110, 100]⟩)), (iC (.int 1)), (iC (.int 2))])]) (iC (.str ⟨#[98, 97, 100]⟩)))))) (sRet (iC (.bl false))) sNx) [S, some (.ref b), some (.ref o), some (.ref r), e4, e5, e6] a = .ok (.nx, [S, some (.ref b), some (.ref o), some (.ref r), e4, e5, e6]) a' ∧ LS b o p l r m past k a' := by
  have J1 := L.j.gone
  have J2 := J1.gone
  have t1 := told_exc L.j (do_s1 L.j)
  have t2 := told_exc J1 (do_fr J1 hm)
  have t3 := told_exc J2 (do_bi J2)
  exact ⟨_, eSIfF (eOrF (eTr (eBin (eDef (eA (eV rfl) (eA (x := dStart 1 1) (eCall (eA eC (eA (eN 1) (eA (eN 1) eA0))) rfl) eA0)) t1) eC (by rw [show (.str nsS : D) = .str ⟨#[110, 111, 32, 115, 104, 101, 101, 116]⟩ from rfl, neS, decide_eq_true rfl]; rfl))) (eOrF (eTr (eBin (eDef (eA (eV rfl) (eA (x := dFront) (eCall (eA eC (eA (eN 0) (eA (eN 10000) (eA (eN 0) eA0)))) rfl) eA0)) t2) eC (by rw [show (.str neS' : D) = .str ⟨#[110, 111, 116, 32, 101, 110, 111, 117, 103, 104]⟩ from rfl, neS, decide_eq_true rfl]; rfl))) (eTr (eBin (eDef (eA (eV rfl) (eA (x := dBind) (eCall (eA eC (eA (eN 1) (eA (eN 2) eA0))) rfl) eA0)) t3) eC (by rw [show (.str baS : D) = .str ⟨#[98, 97, 100]⟩ from rfl, neS, decide_eq_true rfl]; rfl))))) eNx, J2.gone, Box.fr N ((Fr.gone.trans Fr.gone).trans Fr.gone) L.x, am_fr N ((Fr.gone.trans Fr.gone).trans Fr.gone) L.am⟩
/-- sixty deeds: undone, done, refused, undone -/
theorem c6_ok {b o p l r m k : Nat} {past : List Nat} {S e4 e5 e6 : Option D} {a : AH} (N : Ne4 b o p l r) (L : LS b o p l r m past k a) (hk : k ≤ 100) (hp : past.length ≤ 60) (hh : (past ++ [m]).head? = some 0) (hy : ∀ y ∈ past ++ [m], y ≤ 3000) :
    ∃ past' m' k' a', sSeq (sIf (bAnd (iTr (iBin oEq (iCall oLen [(iVar 3)]) (iC (.int 61)))) (bOr (bNot (iTru (iMeth "Job" "undo" F_Job_undo (iVar 2) []))) (bOr (iTr (iBin oNe (iDef F__law_told [(iVar 2), (iCall oTup [(iC (.str ⟨#[103, 97, 116, 104, 101, 114]⟩)), (iC (.int 0))])]) (iC (.str ⟨#[]⟩)))) (bOr (iTr (iBin oNe (iDef F__law_told [(iVar 2), (iCall oTup [(iC (.str ⟨#[103, 97, 116, 104, 101, 114]⟩)), (iC (.int 0))])]) (iC (.str ⟨#[116, 111, 111, 32, 109, 97, 110, 121, 32, 100, 101, 101, 100, 115]⟩)))) (bNot (iTru (iMeth "Job" "undo" F_Job_undo (iVar 2) []))))))) (sRet (iC (.bl false))) sNx)
      (sIf (iTr (iBin oEq (iCall oLen [(iVar 3)]) (iC (.int 61)))) (sDrop (iPop0 (iVar 3))) sNx) [S, some (.ref b), some (.ref o), some (.ref r), e4, e5, e6] a = .ok (.nx, [S, some (.ref b), some (.ref o), some (.ref r), e4, e5, e6]) a' ∧ LS b o p l r m' past' k' a' ∧ k' ≤ 110 ∧ past'.length ≤ 60 ∧ (past' ++ [m']).head? = some 0 ∧ ∀ y ∈ past' ++ [m'], y ≤ 3000 := by
  have ln : ∀ {a2 : AH}, a2[r]? = some (.lst ((past ++ [m]).map dI)) → (iTr (iBin oEq (iCall oLen [(iVar 3)]) (iC (.int 61)))) [S, some (.ref b), some (.ref o), some (.ref r), e4, e5, e6] a2 = .ok (decide (past.length + 1 = 61)) a2 := fun h => eTr (eBin (eCall (eA (eV rfl) eA0) (len_ref h)) (eN 61) (by rw [eqN, List.length_map, List.length_append, List.length_singleton]))
  by_cases c : past.length = 60
  · obtain ⟨ps, x, rfl⟩ : ∃ ps x, past = ps ++ [x] := by
      rcases List.eq_nil_or_concat past with z | ⟨ps, x, z⟩
      · rw [z] at c; simp at c
      · exact ⟨ps, x, by rw [z, List.concat_eq_append]⟩
    rw [List.length_append, List.length_singleton] at c
    have l1 := ln L.am
    rw [decide_eq_true (by rw [List.length_append, List.length_singleton]; omega)] at l1
    obtain ⟨a1, u1, J1, f1⟩ := undo_yes L.j (by omega)
    obtain ⟨a2, g2, J2, f2⟩ := tl_gather J1 (by omega) (by omega)
    have g3 := told_exc J2 (do_gfull J2 (by rw [List.length_append, List.length_singleton]; omega))
    obtain ⟨a4, u4, J4, f4⟩ := undo_yes J2.gone (by omega)
    have F := ((f1.trans f2).trans Fr.gone).trans f4
    have m4 := am_fr N F L.am
    have l4 := ln m4
    rw [decide_eq_true (by rw [List.length_append, List.length_singleton]; omega)] at l4
    have dg : ∀ {env : AE} {aa : AH}, (iCall oTup [(iC (.str ⟨#[103, 97, 116, 104, 101, 114]⟩)), (iC (.int 0))]) env aa = .ok dGather aa := eCall (eA eC (eA (eN 0) eA0)) rfl
    have pp : (iPop0 (iVar 3)) [S, some (.ref b), some (.ref o), some (.ref r), e4, e5, e6] a4 = .ok (dI m) (a4.set r (.lst ((ps ++ [x]).map dI))) := by
      unfold iPop0
      rw [eV rfl, Res.bind_ok]
      unfold oPop0
      simp only [m4]
      have e : ((ps ++ [x] ++ [m]).map dI)[((ps ++ [x] ++ [m]).map dI).length - 1]? = some (dI m) := by simp
      rw [e]
      simp only
      congr 2
      simp
    refine ⟨ps, x, k + 1 + 1 + 1, _, eSeq (eSIfF (eAndT l1 (eOrF (eNotT (b := true) (eTru (eMeth (eV rfl) L.j.ob rfl eA0 u1) rfl)) (eOrF (eTr (eBin (eDef (eA (eV rfl) (eA dg eA0)) g2) eC (by rw [neS, decide_eq_true rfl]; rfl))) (eOrF (eTr (eBin (eDef (eA (eV rfl) (eA dg eA0)) g3) eC (by rw [show (.str tmS : D) = .str ⟨#[116, 111, 111, 32, 109, 97, 110, 121, 32, 100, 101, 101, 100, 115]⟩ from rfl, neS, decide_eq_true rfl]; rfl))) (eNotT (b := true) (eTru (eMeth (eV rfl) J2.gone.ob rfl eA0 u4) rfl)))))) eNx) (eSIfT l4 (eDrop pp)), ⟨J4.setr N, (Box.fr N F L.x).set (Ne.symm N.br), by rw [List.getElem?_set_self (List.getElem?_eq_some_iff.mp m4).1]⟩, by omega, by omega, ?_, fun y hy2 => hy y (List.mem_append_left _ hy2)⟩
    cases ps with
    | nil => simp at c
    | cons z zs => exact hh
  · have l1 := ln L.am
    rw [decide_eq_false (by omega)] at l1
    exact ⟨past, m, k, a, eSeq (eSIfF (eAndF l1) eNx) (eSIfF l1 eNx), L, by omega, hp, hh, hy⟩
theorem l2_step {b o p l r m k i v : Nat} {ps AM : List Nat} {S e5 e6 : Option D} {a : AH} (N : Ne4 b o p l r) (J : Jb o p l m (ps ++ [v]) k a) (hk : k ≤ 1000) (ha : a[r]? = some (.lst (AM.map dI))) (hn : i + 2 ≤ AM.length) (hv : AM[AM.length - 2 - i]? = some v) (hs : v < 100000) :
    ∃ a', L2_law [S, some (.ref b), some (.ref o), some (.ref r), some (dI i), e5, e6] a = .ok (.nx, [S, some (.ref b), some (.ref o), some (.ref r), some (dI i), e5, e6]) a' ∧ Jb o p l v ps (k + 1) a' ∧ a'[r]? = some (.lst (AM.map dI)) := by
  obtain ⟨a1, u1, J1, f1⟩ := undo_yes J hk
  have m1 := am_fr N f1 ha
  have tp : (iCall oTup [(iCall oTup [(iBin oIx (iVar 3) (iBin oSub (iBin oSub (iCall oLen [(iVar 3)]) (iC (.int 2))) (iCall oInt [(iVar 4)]))), (iC (.int 0)), (iC (.int 0)), (iC (.int 0)), (iC (.int 0))])]) [S, some (.ref b), some (.ref o), some (.ref r), some (dI i), e5, e6] a1 = .ok (sh v) a1 :=
    eCall (eA (eCall (eA (eBin (eV rfl) (eBin (eBin (eCall (eA (eV rfl) eA0) (len_ref m1)) (eN 2) (subN (by rw [List.length_map]; omega))) (eCall (eA (eV rfl) eA0) rfl) (subN (b := i) (by rw [List.length_map]; omega))) (ix_ref (i := AM.length - 2 - i) (d := dI v) m1 (by rw [List.getElem?_map, hv]; rfl) |> fun z => by rw [List.length_map]; exact z)) (eA (eN 0) (eA (eN 0) (eA (eN 0) (eA (eN 0) eA0))))) rfl) eA0) rfl
  exact ⟨a1, eSIfF (eOrF (eTr (eBin (eMeth (eV rfl) J.ob rfl eA0 u1) eC rfl)) (eTr (eBin (eMeth (eV rfl) J1.ob rfl eA0 (counts_eq J1)) tp (ne_sh hs rfl)))) eNx, J1, m1⟩
theorem eNew {C : Str} {F : List D → AH → Res D} {fs : List FE} {env : AE} {ah a1 a2 : AH} {ds : List D} (h1 : iArgs fs env ah = .ok ds a1) (h2 : F (.ref a1.length :: ds) (a1 ++ [.ins C []]) = .ok .non a2) : iNew C F fs env ah = .ok (.ref a1.length) a2 := by
  unfold iNew
  rw [h1, Res.bind_ok, h2]
theorem law_true (ns : List Int) (ah : AH) : ∃ a', F_law [.lst (ns.map D.int)] ah = .ok (.bl true) a' := by
  obtain ⟨ds, u, dg, dl⟩ := digits_ex ns ah 20 (by decide)
  have bx : Box (ah ++ u).length (ah ++ u ++ [.lst [.lst (ds.map D.int), dI 0]]) := ⟨ds, 0, dl, by simp⟩
  have c0 : (sAsg (ptB (.nm 1)) (iCall oLstM [(iDef F__law_digits [(iVar 0), (iC (.int 0)), (iC (.int 20))]), (iC (.int 0))])) [some (.lst (ns.map D.int)), none, none, none, none, none, none] ah = .ok (.nx, [some (.lst (ns.map D.int)), some (.ref (ah ++ u).length), none, none, none, none, none]) (ah ++ u ++ [.lst [.lst (ds.map D.int), dI 0]]) :=
    eAsg (eCall (eA (eDef (eA (eV rfl) (eA eC (eA eC eA0))) dg) (eA eC eA0)) lstM2) rfl
  have lb : (ah ++ u ++ [AO.lst [.lst (ds.map D.int), dI 0]]).length = (ah ++ u).length + 1 := by rw [List.length_append (as := ah ++ u)]; rfl
  generalize hS : D.lst (ns.map D.int) = S at *
  generalize hbb : (ah ++ u).length = b at *
  generalize ah ++ u ++ [AO.lst [.lst (ds.map D.int), dI 0]] = A at *
  have c1 : (sAsg (ptB (.nm 2)) (iNew "Job" F_Job___init__ [(iC (.int 1)), (iC (.int 5))])) [some S, some (.ref b), none, none, none, none, none] A = .ok (.nx, [some S, some (.ref b), some (.ref A.length), none, none, none, none]) (A ++ [jobO 0 (A.length + 1) (A.length + 2), .lst [], .lst []]) := eAsg (eNew (eA (eN 1) (eA (eN 5) eA0)) init_eq) rfl
  have c2 : (sAsg (ptB (.nm 3)) (iCall oLstM [(iC (.int 0))])) [some S, some (.ref b), some (.ref A.length), none, none, none, none] (A ++ [jobO 0 (A.length + 1) (A.length + 2), .lst [], .lst []]) = .ok (.nx, [some S, some (.ref b), some (.ref A.length), some (.ref (A.length + 3)), none, none, none]) (A ++ [jobO 0 (A.length + 1) (A.length + 2), .lst [], .lst [], .lst [dI 0]]) := eAsg (okd (eCall (z := .ref (A.length + 3)) (eA (eN 0) eA0) (show oLstM [dI 0] (A ++ [jobO 0 (A.length + 1) (A.length + 2), .lst [], .lst []]) = .ok (.ref (A.length + 3)) (A ++ [jobO 0 (A.length + 1) (A.length + 2), .lst [], .lst [], .lst [dI 0]]) by
    unfold oLstM
    rw [if_pos (small (by simp)), List.append_assoc, List.length_append]
    rfl)) rfl) rfl
  have N : Ne4 b A.length (A.length + 1) (A.length + 2) (A.length + 3) := ⟨by omega, by omega, by omega, by omega, by omega, by omega, by omega⟩
  have L0 : LS b A.length (A.length + 1) (A.length + 2) (A.length + 3) 0 [] 0 (A ++ [jobO 0 (A.length + 1) (A.length + 2), .lst [], .lst [], .lst [dI 0]]) :=
    ⟨⟨by simp, by simp; rfl, ⟨[], Nat.le_refl _, by simp⟩, by omega, by omega, by omega⟩, by
      obtain ⟨es, n, z1, z2⟩ := bx
      exact ⟨es, n, z1, by rw [List.getElem?_append_left (List.getElem?_eq_some_iff.mp z2).1]; exact z2⟩, by simp⟩
  generalize A ++ [jobO 0 (A.length + 1) (A.length + 2), .lst [], .lst []] = A2 at *
  generalize A ++ [jobO 0 (A.length + 1) (A.length + 2), .lst [], .lst [], .lst [dI 0]] = A3 at *
  generalize A.length + 3 = r at *
  generalize A.length + 2 = l at *
  generalize A.length + 1 = p at *
  generalize A.length = o at *
  obtain ⟨q, a4, hq, d4, b4, u4⟩ := draw_up 7 L0.x (by decide)
  have L4 : LS b o p l r 0 [] 0 a4 := ⟨L0.j.upd N u4, b4, (u4.2 r (Ne.symm N.br)).trans L0.am⟩
  obtain ⟨env5, a5, lp, past, m, k, e4, e5, e6, rfl, L5, i1, i2, i3, i4, i5⟩ := forL_inv (g := ptB (.nm 4)) (body := L1_law) (ds := (List.range (57 + q)).map dI) (k := 0)
    (I := fun i env a => ∃ past m k e4 e5 e6, env = [some S, some (.ref b), some (.ref o), some (.ref r), e4, e5, e6] ∧ LS b o p l r m past k a ∧ past.length = min i 60 ∧ m ≤ 50 * past.length ∧ k ≤ i ∧ (past ++ [m]).head? = some 0 ∧ ∀ y ∈ past, y ≤ 3000)
    (env := [some S, some (.ref b), some (.ref o), some (.ref r), none, none, none]) (ah := a4) ⟨[], 0, 0, none, none, none, rfl, L4, rfl, Nat.le_refl _, Nat.le_refl _, rfl, fun y h => absurd h List.not_mem_nil⟩ (fun i d env a hd ⟨past, m, k, e4, e5, e6, he, L, i1, i2, i3, i4, i5⟩ => by
      subst he
      rw [Nat.zero_add] at i1 i3 ⊢
      rw [List.getElem?_map] at hd
      obtain ⟨i', hi', rfl⟩ := Option.map_eq_some_iff.mp hd
      have hir := (List.getElem?_eq_some_iff.mp hi').1
      rw [List.length_range] at hir
      rw [List.getElem?_range hir] at hi'
      obtain rfl : i = i' := Option.some.inj hi'
      obtain ⟨past', m', k', f5, f6, a', s1, s2, s3, s4, s5, s6, s7⟩ := l1_step (S := some S) (e5 := e5) (e6 := e6) N L i1 (by omega) i2 i3 i4 i5
      exact ⟨_, .nx, _, a', rfl, .inl rfl, s1, past', m', k', some (dI i), f5, f6, rfl, s2, s3, s4, s5, s6, s7⟩)
  rw [List.length_map, List.length_range, Nat.zero_add] at i1 i3
  have c3 : (sFor (iRange1 [(iBin oAdd (iC (.int 57)) (iDef F__law_draw [(iVar 1), (iC (.int 7))]))]) (ptB (.nm 4)) L1_law) [some S, some (.ref b), some (.ref o), some (.ref r), none, none, none] A3 = .ok (.nx, [some S, some (.ref b), some (.ref o), some (.ref r), e4, e5, e6]) a5 := eFor (eRg1N (n := 57 + q) (eBin (eN 57) (eDef (eA (eV rfl) (eA eC eA0)) d4) addN) (by omega)) lp
  obtain ⟨a6, c5, L6⟩ := c5_ok (S := some S) (e4 := e4) (e5 := e5) (e6 := e6) N L5 (by omega)
  obtain ⟨P, M, k7, a7, c6, L7, j1, j2, j3, j4⟩ := c6_ok (S := some S) (e4 := e4) (e5 := e5) (e6 := e6) N L6 (by omega) (by omega) i4 (fun y hy => by
    rcases List.mem_append.mp hy with z | z
    · exact i5 y z
    · rw [List.mem_singleton.mp z]; omega)
  have aml : (P ++ [M]).length = P.length + 1 := by rw [List.length_append, List.length_singleton]
  obtain ⟨env8, a8, lp2, k8, g4, rfl, J8, k8l, m8⟩ := forL_inv (g := ptB (.nm 4)) (body := L2_law) (ds := (List.range P.length).map dI) (k := 0)
    (I := fun i env a => ∃ k g4, env = [some S, some (.ref b), some (.ref o), some (.ref r), g4, e5, e6] ∧ Jb o p l ((P ++ [M]).getD (P.length - i) 0) ((P ++ [M]).take (P.length - i)) k a ∧ k ≤ 110 + i ∧ a[r]? = some (.lst ((P ++ [M]).map dI)))
    (env := [some S, some (.ref b), some (.ref o), some (.ref r), e4, e5, e6]) (ah := a7) ⟨k7, e4, rfl, by
      rw [Nat.sub_zero, List.getD_eq_getElem?_getD, List.getElem?_append_right (Nat.le_refl _), Nat.sub_self, List.take_left]
      exact L7.j, by omega, L7.am⟩ (fun i d env a hd ⟨k, g4, he, J, kl, ma⟩ => by
      subst he
      rw [Nat.zero_add] at J kl ⊢
      rw [List.getElem?_map] at hd
      obtain ⟨i', hi', rfl⟩ := Option.map_eq_some_iff.mp hd
      have hir := (List.getElem?_eq_some_iff.mp hi').1
      rw [List.length_range] at hir
      rw [List.getElem?_range hir] at hi'
      obtain rfl : i = i' := Option.some.inj hi'
      have hlt : P.length - i - 1 < (P ++ [M]).length := by omega
      have ge : (P ++ [M])[P.length - i - 1]? = some ((P ++ [M]).getD (P.length - i - 1) 0) := by rw [List.getD_eq_getElem?_getD, List.getElem?_eq_getElem hlt]; rfl
      have tk : (P ++ [M]).take (P.length - i) = (P ++ [M]).take (P.length - i - 1) ++ [(P ++ [M]).getD (P.length - i - 1) 0] := by
        rw [show P.length - i = (P.length - i - 1) + 1 by omega, List.take_succ, Nat.add_sub_cancel, ge]
        rfl
      rw [tk] at J
      obtain ⟨a', s1, s2, s3⟩ := l2_step (S := some S) (e5 := e5) (e6 := e6) (i := i) N J (by omega) ma (by omega) (by rw [aml, show P.length + 1 - 2 - i = P.length - i - 1 by omega]; exact ge) (by
        have := j4 _ (List.mem_of_getElem? ge)
        omega)
      exact ⟨_, .nx, _, a', rfl, .inl rfl, s1, k + 1, some (dI i), rfl, by rw [show P.length - (i + 1) = P.length - i - 1 by omega]; exact s2, by omega, s3⟩)
  rw [List.length_map, List.length_range, Nat.zero_add, Nat.sub_self, List.take_zero] at J8
  have m0 : (P ++ [M]).getD 0 0 = 0 := by
    cases P with
    | nil => simpa using j3
    | cons y ys => simpa using j3
  rw [m0] at J8
  have c8 : (sFor (iRange1 [(iBin oSub (iCall oLen [(iVar 3)]) (iC (.int 1)))]) (ptB (.nm 4)) L2_law) [some S, some (.ref b), some (.ref o), some (.ref r), e4, e5, e6] a7 = .ok (.nx, [some S, some (.ref b), some (.ref o), some (.ref r), g4, e5, e6]) a8 := eFor (eRg1N (n := P.length) (eBin (eCall (eA (eV rfl) eA0) (len_ref L7.am)) (eN 1) (by rw [List.length_map, aml, subN (by omega)]; rfl)) (by omega)) lp2
  have fin : (iAnd (iBin oIs (iMeth "Job" "undo" F_Job_undo (iVar 2) []) (iC (.bl false))) (iBin oEq (iMeth "Job" "counts" F_Job_counts (iVar 2) []) (iCall oTup [(iCall oTup [(iC (.int 0)), (iC (.int 0)), (iC (.int 0)), (iC (.int 0)), (iC (.int 0))])]))) [some S, some (.ref b), some (.ref o), some (.ref r), g4, e5, e6] a8 = .ok (.bl true) a8 :=
    eAnd1 (eBin (eMeth (eV rfl) J8.ob rfl eA0 (undo_no J8)) eC rfl) (eBin (eMeth (eV rfl) J8.ob rfl eA0 (counts_eq J8)) (eCall (eA (x := row 0) (eCall (eA (eN 0) (eA (eN 0) (eA (eN 0) (eA (eN 0) (eA (eN 0) eA0))))) rfl) eA0) rfl) rfl)
  have sq : ∀ {s1 s2 s3 : FS} {env env1 : AE} {a a1 : AH} {R : Res (Fl × AE)}, sSeq s1 s2 env a = .ok (.nx, env1) a1 → s3 env1 a1 = R → sSeq s1 (sSeq s2 s3) env a = R := fun {s1 s2 s3 env env1 a a1 R} h1 h2 => by
    unfold sSeq at h1 ⊢
    revert h1
    cases s1 env a with
    | ok r0 a0 =>
      obtain ⟨fl, e0⟩ := r0
      cases fl with
      | nx => intro h1; rw [Res.bind_ok] at h1 ⊢; simp only at h1 ⊢; rw [h1, Res.bind_ok]; exact h2
      | _ => intro h1; rw [Res.bind_ok] at h1; cases h1
    | exc x e0 a0 => intro h1; cases h1
    | bad => intro h1; cases h1
  exact ⟨a8, eBodyR (eSeq c0 (eSeq c1 (eSeq c2 (eSeq c3 (eSeq c5 (sq c6 (eSeq c8 (eRet fin))))))))⟩
end K26
end
set_option maxHeartbeats 1500000
noncomputable section
namespace K26
open PySem PySem.Spec PyProof.Rows L2 DL
variable {P : Program} {w : World} {K : PySem.W.Frag} {mg : Str → Option Value} {base : Heap}
def kv_DEEDS : List (Str × List Lit) := [(⟨#[115, 116, 97, 114, 116]⟩, [.str ⟨#[115, 104, 101, 101, 116]⟩, .str ⟨#[109, 97, 110, 121]⟩]), (⟨#[102, 114, 111, 110, 116]⟩, [.str ⟨#[115, 104, 101, 101, 116]⟩, .str ⟨#[109, 97, 110, 121]⟩, .str ⟨#[98, 97, 100]⟩]), (⟨#[98, 97, 99, 107]⟩, [.str ⟨#[115, 104, 101, 101, 116]⟩, .str ⟨#[109, 97, 110, 121]⟩, .str ⟨#[98, 97, 100]⟩]), (⟨#[102, 111, 108, 100]⟩, [.str ⟨#[115, 104, 101, 101, 116]⟩, .str ⟨#[109, 97, 110, 121]⟩, .str ⟨#[98, 97, 100]⟩]), (⟨#[103, 97, 116, 104, 101, 114]⟩, [.str ⟨#[109, 97, 110, 121]⟩]), (⟨#[98, 105, 110, 100]⟩, [.str ⟨#[109, 97, 110, 121]⟩, .str ⟨#[98, 97, 100]⟩])]
def kv_SOURCES : List (Str × Lit) := [(⟨#[102, 114, 111, 110, 116]⟩, .int 0), (⟨#[98, 97, 99, 107]⟩, .int 1), (⟨#[102, 111, 108, 100]⟩, .int 2)]
def fnL : List He.DefD := [mkD "_law_cell" s__law_cell, mkD "_law_digits" s__law_digits, mkM "Job" "__init__" s_Job___init__, mkD "_law_draw" s__law_draw, mkM "Job" "gatherable" s_Job_gatherable, mkM "Job" "_has_enough" s_Job__has_enough, mkM "Job" "_refusal" s_Job__refusal, mkD "_changed" s__changed, mkM "Job" "_do_to_copies" s_Job__do_to_copies, mkM "Job" "_do_to_sheet" s_Job__do_to_sheet, mkM "Job" "do" s_Job_do, mkD "_law_told" s__law_told, mkM "Job" "undo" s_Job_undo, mkM "Job" "counts" s_Job_counts, mkD "law" s_law, mkI "BadDeed" si_BadDeed]
def faL : List He.Fa := [.glo "_law_cell", .glo "_law_digits", .glo "_law_draw", .glo "_changed", .glo "_law_told", .glo "law", .free "dict", .free "enumerate", .free "int", .free "len", .free "min", .free "range", .free "str", .free "tuple", .free "zip", .int "MOST_IN_DEED" 10000, .int "MOST_DEEDS" 60, .glo "DEEDS", .int "UNPRINTED" 0, .int "FOLDED" 3, .int "SPOILED" 4, .glo "SOURCES", .glo "BadDeed", .glo "Job"]
def tsL : List He.Tab := [(fun K => He.ga K "DEEDS", kv_DEEDS.map (·.1)), (fun K => He.ga K "SOURCES", kv_SOURCES.map (·.1))]
def exL (K : PySem.W.Frag) : Bool := noLst K && (tabTB K "DEEDS" kv_DEEDS && (tabB K "SOURCES" kv_SOURCES && ((clsB K (He.ga K "BadDeed") ["reason"] && (decide (PySem.W.findIn K (.ref (He.ga K "BadDeed")) "__init__" = some (some (.ref (He.ma K (He.ga K "BadDeed") "__init__")))) && decide (PySem.W.typeIn K (.ref (He.ma K (He.ga K "BadDeed") "__init__")) = some (.type "function")))) && (decide (PySem.W.exmOne K (.ref (He.ga K "BadDeed")) (.ref (He.ga K "BadDeed")) = some true) && (jobB K (He.ga K "Job") ["_wanted", "_sheets", "_finished", "_past", "_lines"] && (methB K (He.ga K "Job") "__init__" && (methB K (He.ga K "Job") "gatherable" && (methB K (He.ga K "Job") "_has_enough" && (methB K (He.ga K "Job") "_refusal" && (methB K (He.ga K "Job") "_do_to_copies" && (methB K (He.ga K "Job") "_do_to_sheet" && (methB K (He.ga K "Job") "do" && (methB K (He.ga K "Job") "undo" && (methB K (He.ga K "Job") "counts" && true))))))))))))))
abbrev RR : PySem.W.OpenRow := PySem.W.OpenLaw.row PySem.Challenge.rw_gathersheets_k26_many_deeds
abbrev hkL : PySem.W.Hook := He.hookX 6 faL fnL tsL [] exL
def obL (s : PySem.W.SharedT) := He.obsX 6 faL fnL tsL [] exL (HandSHeadRun.getT s)
theorem obL_eq (s : PySem.W.SharedT) : obL s = hkL.obs s.abs := He.obsX_eq (HandSHeadRun.getT_eq s)
def names0 : List PySem.Str := ["_wall", "BinderError", "BadDeed", "MOST_IN_DEED", "MOST_DEEDS", "DEEDS", "UNPRINTED", "FOLDED", "SPOILED", "SOURCES", "Job", "_changed", "_law_cell", "_law_digits", "_law_draw", "_law_told"]
def namesL : List PySem.Str := names0
theorem runL (w : World) : HandSHeadRun.RunEq RR (PySem.W.view RR.prog [19]) hkL obL 6000 namesL w := by
  refine PySem.W.byRow2 "special-get-raises" (P := fun w => HandSHeadRun.RunEq RR (PySem.W.view RR.prog [19]) hkL obL 6000 namesL w) (fun w os => ?_) (fun w os => ?_) w <;> kernel_rfl
theorem mods_of {h : Heap} (c : He.SaysX faL fnL tsL [] exL w h K) (X : K.In h) (G : h.Ns mainGlobals mg) : Mods w K mg where
  nb_dict := free_at c X G 6 rfl
  nb_enumerate := free_at c X G 7 rfl
  nb_int := free_at c X G 8 rfl
  nb_len := free_at c X G 9 rfl
  nb_min := free_at c X G 10 rfl
  nb_range := free_at c X G 11 rfl
  nb_str := free_at c X G 12 rfl
  nb_tuple := free_at c X G 13 rfl
  nb_zip := free_at c X G 14 rfl
  k_MOST_IN_DEED := kon_int c X G 15 rfl
  k_MOST_DEEDS := kon_int c X G 16 rfl
  k_DEEDS := kon_tabT (kvs := kv_DEEDS) c X G 17 0 rfl rfl (He.ba (He.ba c.more).2).1
  k_UNPRINTED := kon_int c X G 18 rfl
  k_FOLDED := kon_int c X G 19 rfl
  k_SPOILED := kon_int c X G 20 rfl
  k_SOURCES := kon_tab (kvs := kv_SOURCES) c X G 21 1 rfl rfl (He.ba (He.ba (He.ba c.more).2).2).1
  g_BadDeed := He.glo_ok X G (c.t.d.fact 22 rfl)
  e_BadDeed := clsB_ok (He.ba (He.ba (He.ba (He.ba (He.ba c.more).2).2).2).1).1
  i_BadDeed := by
    obtain ⟨fd, F⟩ := init_at c 15 rfl
    exact ⟨_, fd, of_decide_eq_true (He.ba (He.ba (He.ba (He.ba (He.ba (He.ba c.more).2).2).2).1).2).1, of_decide_eq_true (He.ba (He.ba (He.ba (He.ba (He.ba (He.ba c.more).2).2).2).1).2).2, F, F.binds fun _ _ _ _ _ _ us hl => match us, hl with | [_, _], _ => rfl⟩
  x_BadDeed_BadDeed := of_decide_eq_true (He.ba (He.ba (He.ba (He.ba (He.ba c.more).2).2).2).2).1
  g_Job := He.glo_ok X G (c.t.d.fact 23 rfl)
  c_Job := jobB_ok (He.ba (He.ba (He.ba (He.ba (He.ba (He.ba c.more).2).2).2).2).2).1
  f__law_cell := by
    obtain ⟨f, fd, F, hm⟩ := def_at c X G 0 0 rfl rfl
    exact ⟨f, fd, F, hm, F.binds fun _ _ _ _ _ _ us hl => match us, hl with | [_, _], _ => rfl⟩
  f__law_digits := by
    obtain ⟨f, fd, F, hm⟩ := def_at c X G 1 1 rfl rfl
    exact ⟨f, fd, F, hm, F.binds fun _ _ _ _ _ _ us hl => match us, hl with | [_, _, _], _ => rfl⟩
  f_Job___init__ := by
    obtain ⟨fd, F⟩ := meth_at c 2 rfl
    exact ⟨_, fd, methB_ok (He.ba (He.ba (He.ba (He.ba (He.ba (He.ba (He.ba c.more).2).2).2).2).2).2).1, F, F.binds fun _ _ _ _ _ _ us hl => match us, hl with | [_, _, _], _ => rfl⟩
  f__law_draw := by
    obtain ⟨f, fd, F, hm⟩ := def_at c X G 3 2 rfl rfl
    exact ⟨f, fd, F, hm, F.binds fun _ _ _ _ _ _ us hl => match us, hl with | [_, _], _ => rfl⟩
  f_Job_gatherable := by
    obtain ⟨fd, F⟩ := meth_at c 4 rfl
    exact ⟨_, fd, methB_ok (He.ba (He.ba (He.ba (He.ba (He.ba (He.ba (He.ba (He.ba c.more).2).2).2).2).2).2).2).1, F, F.binds fun _ _ _ _ _ _ us hl => match us, hl with | [_], _ => rfl⟩
  f_Job__has_enough := by
    obtain ⟨fd, F⟩ := meth_at c 5 rfl
    exact ⟨_, fd, methB_ok (He.ba (He.ba (He.ba (He.ba (He.ba (He.ba (He.ba (He.ba (He.ba c.more).2).2).2).2).2).2).2).2).1, F, F.binds fun _ _ _ _ _ _ us hl => match us, hl with | [_, _, _, _], _ => rfl⟩
  f_Job__refusal := by
    obtain ⟨fd, F⟩ := meth_at c 6 rfl
    exact ⟨_, fd, methB_ok (He.ba (He.ba (He.ba (He.ba (He.ba (He.ba (He.ba (He.ba (He.ba (He.ba c.more).2).2).2).2).2).2).2).2).2).1, F, F.binds fun _ _ _ _ _ _ us hl => match us, hl with | [_, _, _, _, _], _ => rfl⟩
  f__changed := by
    obtain ⟨f, fd, F, hm⟩ := def_at c X G 7 3 rfl rfl
    exact ⟨f, fd, F, hm, F.binds fun _ _ _ _ _ _ us hl => match us, hl with | [_, _], _ => rfl⟩
  f_Job__do_to_copies := by
    obtain ⟨fd, F⟩ := meth_at c 8 rfl
    exact ⟨_, fd, methB_ok (He.ba (He.ba (He.ba (He.ba (He.ba (He.ba (He.ba (He.ba (He.ba (He.ba (He.ba c.more).2).2).2).2).2).2).2).2).2).2).1, F, F.binds fun _ _ _ _ _ _ us hl => match us, hl with | [_, _, _, _], _ => rfl⟩
  f_Job__do_to_sheet := by
    obtain ⟨fd, F⟩ := meth_at c 9 rfl
    exact ⟨_, fd, methB_ok (He.ba (He.ba (He.ba (He.ba (He.ba (He.ba (He.ba (He.ba (He.ba (He.ba (He.ba (He.ba c.more).2).2).2).2).2).2).2).2).2).2).2).1, F, F.binds fun _ _ _ _ _ _ us hl => match us, hl with | [_, _, _, _, _], _ => rfl⟩
  f_Job_do := by
    obtain ⟨fd, F⟩ := meth_at c 10 rfl
    exact ⟨_, fd, methB_ok (He.ba (He.ba (He.ba (He.ba (He.ba (He.ba (He.ba (He.ba (He.ba (He.ba (He.ba (He.ba (He.ba c.more).2).2).2).2).2).2).2).2).2).2).2).2).1, F, F.binds fun _ _ _ _ _ _ us hl => match us, hl with | [_, _], _ => rfl⟩
  f__law_told := by
    obtain ⟨f, fd, F, hm⟩ := def_at c X G 11 4 rfl rfl
    exact ⟨f, fd, F, hm, F.binds fun _ _ _ _ _ _ us hl => match us, hl with | [_, _], _ => rfl⟩
  f_Job_undo := by
    obtain ⟨fd, F⟩ := meth_at c 12 rfl
    exact ⟨_, fd, methB_ok (He.ba (He.ba (He.ba (He.ba (He.ba (He.ba (He.ba (He.ba (He.ba (He.ba (He.ba (He.ba (He.ba (He.ba c.more).2).2).2).2).2).2).2).2).2).2).2).2).2).1, F, F.binds fun _ _ _ _ _ _ us hl => match us, hl with | [_], _ => rfl⟩
  f_Job_counts := by
    obtain ⟨fd, F⟩ := meth_at c 13 rfl
    exact ⟨_, fd, methB_ok (He.ba (He.ba (He.ba (He.ba (He.ba (He.ba (He.ba (He.ba (He.ba (He.ba (He.ba (He.ba (He.ba (He.ba (He.ba c.more).2).2).2).2).2).2).2).2).2).2).2).2).2).2).1, F, F.binds fun _ _ _ _ _ _ us hl => match us, hl with | [_], _ => rfl⟩
  f_law := by
    obtain ⟨f, fd, F, hm⟩ := def_at c X G 14 5 rfl rfl
    exact ⟨f, fd, F, hm, F.binds fun _ _ _ _ _ _ us hl => match us, hl with | [_], _ => rfl⟩
theorem law_ok (M : Mods w K mg) : Ok1 P w K mg base "law" 6 ["script"] F_law := by
  have o__law_cell : Ok1 P w K mg base "_law_cell" 1 ["script", "k"] F__law_cell := raw__law_cell M
  have o__law_digits : Ok1 P w K mg base "_law_digits" 2 ["script", "first", "last"] F__law_digits := raw__law_digits M o__law_cell
  have o_Job___init__ : OkM P w K mg base "Job" "__init__" 1 ["self", "sheets", "copies"] F_Job___init__ := raw_Job___init__ M
  have o__law_draw : Ok1 P w K mg base "_law_draw" 1 ["box", "many"] F__law_draw := raw__law_draw M
  have o_Job_gatherable : OkM P w K mg base "Job" "gatherable" 1 ["self"] F_Job_gatherable := raw_Job_gatherable M
  have o_Job__has_enough : OkM P w K mg base "Job" "_has_enough" 2 ["self", "word", "sheet", "many"] F_Job__has_enough := raw_Job__has_enough M o_Job_gatherable
  have o_Job__refusal : OkM P w K mg base "Job" "_refusal" 3 ["self", "word", "sheet", "many", "bad"] F_Job__refusal := raw_Job__refusal M o_Job__has_enough
  have o__changed : Ok1 P w K mg base "_changed" 1 ["counts", "changes"] F__changed := raw__changed M
  have o_Job__do_to_copies : OkM P w K mg base "Job" "_do_to_copies" 2 ["self", "word", "many", "bad"] F_Job__do_to_copies := raw_Job__do_to_copies M o__changed
  have o_Job__do_to_sheet : OkM P w K mg base "Job" "_do_to_sheet" 2 ["self", "word", "sheet", "many", "bad"] F_Job__do_to_sheet := raw_Job__do_to_sheet M o__changed
  have o_Job_do : OkMX P w K mg base "Job" "do" 4 ["self", "deed"] F_Job_do := raw_Job_do M o_Job__refusal o_Job__do_to_copies o_Job__do_to_sheet
  have o__law_told : Ok1 P w K mg base "_law_told" 5 ["job", "deed"] F__law_told := raw__law_told M o_Job_do
  have o_Job_undo : OkM P w K mg base "Job" "undo" 1 ["self"] F_Job_undo := raw_Job_undo M
  have o_Job_counts : OkM P w K mg base "Job" "counts" 1 ["self"] F_Job_counts := raw_Job_counts M
  have o_law : Ok1 P w K mg base "law" 6 ["script"] F_law := raw_law M o__law_digits o_Job___init__ o__law_draw o__law_told o_Job_undo o_Job_counts
  exact o_law
theorem law_at (w : World) (mg : Str → Option Value) (h : Heap) (Y : hkL.says w h) (G : h.Ns mainGlobals mg) : ∃ K : PySem.W.Frag, K.In h ∧ noLst K = true ∧ ∀ b : Heap, K.In b → b.Ns mainGlobals mg → Ok1 PySem.Challenge.rw_gathersheets_k26_many_deeds.prog w K mg b (HandSHeadRun.topDef RR.prog 19).name 6 ["script"] F_law := by
  obtain ⟨K, X, c⟩ := Y
  refine ⟨K, X, (He.ba c.more).1, fun b _ _ => ?_⟩
  have e : (HandSHeadRun.topDef RR.prog 19).name = ("law" : Str) := by kernel_rfl
  rw [e]
  exact law_ok (mods_of c X G)
end K26
end
open PySem PySem.W PySem.Calls PyProof.Rows
set_option maxHeartbeats 0 in
theorem PySem.Challenge.cw_gathersheets_k26_many_deeds_holds : PySem.Challenge.rw_gathersheets_k26_many_deeds.Holds := by
  w_on; o_law
  refine HandSHeadRun.head_any (r := OpenLaw.row PySem.Challenge.rw_gathersheets_k26_many_deeds) (q := view (OpenLaw.row PySem.Challenge.rw_gathersheets_k26_many_deeds).prog [19]) (H := K26.hkL) (ob := K26.obL) (M := 6000) (loose := K26.namesL) (d := HandSHeadRun.topDef (OpenLaw.row PySem.Challenge.rw_gathersheets_k26_many_deeds).prog 19) (kwd := []) K26.obL_eq
    (by kernel_rfl) (fun s => by kernel_rfl) K26.runL (by kernel_rfl) (by kernel_rfl) (by kernel_rfl) (by rfl) (by first | assumption | decide +kernel) (by decide +kernel) ⟨rfl, rfl, rfl, rfl, rfl, by decide +kernel⟩ ?hw ?hc
  case hw => w_witness2
  case hc => exact DL.walk_law (l := PySem.Challenge.rw_gathersheets_k26_many_deeds) (n := 63) (k := 6) (ps := ["script"]) (F := K26.F_law) rfl (by decide) (by kernel_rfl) ⟨rfl, by decide, by decide⟩ rfl K26.law_at fun ns => K26.law_true ns []
