import PyProof.Rows.All
import Wide.All
import OpenK.AllK
import Wide.FinOn
import HandS.ForMost
import HandS.Walk
import HandS.IsInst
import HandS.TupAny
import HandS.Deep
import HandS.Lambda
import HandS.EndTab
import KE.KDictKeyed
import KE.KDictDisplayH
import HandS.Conv
import KE.GoesEnum
import HandS.RevRange
import HandS.Style
import HandS.TupMul
import HandS.Exc
import HandS.ExcOwn
import HandS.WordsExc
import HandS.TryOnly
import HandS.ExcInit
import KE.RegKTryMore
import HandS.SortKw
import KE.SortKeyHeap
import KE.KNestM
import HandS.SortInts
import HandS.TupSets
import KE.DataCmp
import HandS.SetFor
import HandS.Strs
import HandS.WideBits
import HandS.NoneIn
import HandS.SortRule
import HandS.Flt
import HandS.GenList
import HandS.GenYield
import HandS.Zip
import KE.GoesMore
import HandS.Rev
import HandS.More
import HandS.Iter
import KE.KMinBuiltin
import HandS.TupLen
import KE.KDictCopyH
import KE.KRevSl
import PySem.Challenge.RW_sortcuts_k42_extreme_places_by_all_order
set_option linter.all false
set_option Elab.async false
set_option maxRecDepth 100000
set_option maxHeartbeats 4000000
set_option autoImplicit false
namespace L2
namespace DL
open PySem PySem.Spec PyProof.Rows

/-! ### data and heaps -/
/-- the tables of code objects, with the names of what they hold -/
class LabW where
  w : Option World
class Lab extends LabW where
  T : List (Addr × Str)
  gd : Prop
/-- where a repr may be written, none is under way -/
abbrev GdOk [Lab] (A : Around) : Prop := Lab.gd → A.guards = some []
def TB [Lab] (H : Hp) : Prop := LamX.Tabs Lab.T H
abbrev NT (o : HO) : Prop := ∀ ps, o ≠ .tbl ps
/-- all but the tables stay -/
structure Same (H H' : Hp) : Prop where
  h : ∀ b o, H b = some o → NT o → H' b = some o
  k : ∀ b, H b ≠ none → H' b ≠ none
theorem Same.refl (H : Hp) : Same H H := ⟨fun _ _ e _ => e, fun _ h => h⟩
theorem Same.trans {H H1 H2 : Hp} (a : Same H H1) (b : Same H1 H2) : Same H H2 := ⟨fun q o e n => b.h q o (a.h q o e n) n, fun q h => b.k q (a.k q h)⟩
theorem Same.free {H H' : Hp} {q : Addr} (s : Same H H') (h : H' q = none) : H q = none := Classical.byContradiction fun z => s.k q z h
theorem Same.of {H H' : Hp} (s : L2.Same H H') : Same H H' := ⟨fun b o e _ => s b o e, fun b h z => h (s.free z)⟩
theorem nt_lst {xs : List V} : NT (.lst xs) := fun _ h => nomatch h
theorem nt_tup {xs : List V} : NT (.tup xs) := fun _ h => nomatch h
theorem nt_frz {o : Obj} {u : HO} : NT (.frz o u) := fun _ h => nomatch h
theorem nt_dK {x} : NT (.dK x) := fun _ h => nomatch h
theorem nt_xd {x} : NT (.xd x) := fun _ h => nomatch h
theorem same_new {H : Hp} {p : Addr} (h : H p = none) (o : HO) : L2.Same H (upd H p o) := fun b x e => by rw [upd_ne (ne_of_none e h)]; exact e
theorem TB.ext [Lab] {H H' : Hp} (t : TB H) (s : L2.Same H H') : TB H' := LamX.Tabs.ext t s
theorem TB.ne [Lab] {H : Hp} (t : TB H) {p : Addr} {xs : List V} (h : H p = some (.lst xs)) (o : HO) : TB (upd H p o) := fun q hq => by
  obtain ⟨ps, a, b, c⟩ := t q hq
  refine ⟨ps, ?_, b, fun pos cv e => ?_⟩
  · rw [upd_ne (fun z => by rw [z, h] at a; cases a)]; exact a
  · obtain ⟨c0, e1, e2⟩ := c pos cv e
    exact ⟨c0, e1, by rw [upd_ne (fun z => by rw [z, h] at e2; unfold LamX.CodeO at e2; cases e2)]; exact e2⟩
theorem same_sqT {K : PySem.W.Frag} {H H' : Hp} {a : Addr} {xs : List V} (e : Same H H') (h : SqT K H a xs) : SqT K H' a xs := by
  rcases h with (h | ⟨o, h⟩) | h
  · exact .inl (.inl (e.h _ _ h nt_tup))
  · exact .inl (.inr ⟨o, e.h _ _ h nt_frz⟩)
  · exact .inr h
/-- a list that is read: tracked, frozen, or a plain one of the module's -/
def LsR (K : PySem.W.Frag) (H : Hp) (a : Addr) (xs : List V) : Prop := Rd H a (.lst xs) ∨ ∃ (its : List Value) (n : Nat), K.lookup a = some { cls := .type "list", data := .seq its.toArray n } ∧ xs.length ≤ sizeLine ∧ Vals xs its
theorem LsR.sq {K : PySem.W.Frag} {H : Hp} {a : Addr} {xs : List V} (h : LsR K H a xs) : SqL K H a xs := by
  rcases h with h | ⟨its, n, h, z, r⟩
  · exact .inl h
  · exact .inr ⟨_, its.toArray, n, h, rfl, rfl, rfl, by rw [List.size_toArray, ← r.length]; exact z, by simpa using r⟩
theorem LsR.isL {X : Cx} {pins : List (Addr × Obj)} {σ : St} {H : Hp} {s : Shared} {a : Addr} {xs : List V} (h : LsR X.K H a xs) (I : Inv X pins σ H s) : xs.length ≤ sizeLine ∧ ∃ (its : List Value) (n : Nat), Vals xs its ∧ s.heap.get? a = some { cls := .type "list", data := .seq its.toArray n } := by
  rcases h with h | ⟨its, n, h, z, r⟩
  · exact h.ok I.hok
  · exact ⟨z, its, n, r, I.kIn a _ h⟩
section
variable [LabW]
/-- the dict at a is this object -/
def DnO (a : Addr) (o : Obj) : HO := .ext fun h => h.get? a = some o
/-- its entries: the keys nested tuples, each by its place -/
structure DnF (w : Option World) (a : Addr) (o : Obj) (xs : List (NestedKey × Addr × V)) : Prop where
  hd : (a == sysModules) = false
  nd : (xs.map (·.1)).Nodup
  ex : o.ExactDict
  es : ∃ (w' : World) (es : Array DictEntry) (ep : Nat), w = some w' ∧ o.data = .dict es ep ∧ Paired (fun (x : NestedKey × Addr × V) (e : DictEntry) => e.hash = x.1.hash w' ∧ e.key = .ref x.2.1 ∧ RelV x.2.2 e.val) xs es.toList
  dp : ∀ x ∈ xs, x.1.depth ≤ 8
mutual
inductive DD (K : PySem.W.Frag) (H : Hp) : V → PyData → Prop
  | non : DD K H .non .none
  | bl (b : Bool) : DD K H (.bl b) (.bool b)
  | int (i : Int) : DD K H (.int i) (.int i)
  | str (x : Str) : DD K H (.str x) (.str x)
  | lst {a : Addr} {xs : List V} {ds : List PyData} : LsR K H a xs → DDs K H xs ds → DD K H (.ref a) (.list ds)
  | tup {a : Addr} {xs : List V} {ds : List PyData} : SqT K H a xs → DDs K H xs ds → DD K H (.ref a) (.tuple ds)
  | dct {a : Addr} : H a = some (.dK []) → DD K H (.ref a) (.dict [])
  | dcn {a : Addr} {o : Obj} {xs : List (NestedKey × Addr × V)} {kvs : List (PyData × PyData)} : H a = some (DnO a o) → DnF LabW.w a o xs → DDk K H xs kvs → DD K H (.ref a) (.dict kvs)
inductive DDs (K : PySem.W.Frag) (H : Hp) : List V → List PyData → Prop
  | nil : DDs K H [] []
  | cons {v : V} {vs : List V} {d : PyData} {ds : List PyData} : DD K H v d → DDs K H vs ds → DDs K H (v :: vs) (d :: ds)
inductive DDk (K : PySem.W.Frag) (H : Hp) : List (NestedKey × Addr × V) → List (PyData × PyData) → Prop
  | nil : DDk K H [] []
  | cons {k : NestedKey} {a : Addr} {v : V} {xs : List (NestedKey × Addr × V)} {kd vd : PyData} {kvs : List (PyData × PyData)} : k.data = kd → DD K H (.ref a) kd → DD K H v vd → DDk K H xs kvs → DDk K H ((k, a, v) :: xs) ((kd, vd) :: kvs)
end
theorem nt_exo {φ : Heap → Prop} : NT (.ext φ) := fun _ h => nomatch h
theorem same_rd {H H' : Hp} {a : Addr} {u : HO} (e : Same H H') (h : Rd H a u) (n : NT u) : Rd H' a u := by
  rcases h with h | ⟨o, h⟩
  · exact .inl (e.h _ _ h n)
  · exact .inr ⟨o, e.h _ _ h nt_frz⟩
theorem same_ls {K : PySem.W.Frag} {H H' : Hp} {a : Addr} {xs : List V} (e : Same H H') (h : LsR K H a xs) : LsR K H' a xs := h.imp (fun z => same_rd e z nt_lst) id
mutual
theorem DD.dp {K : PySem.W.Frag} {Z : Hp} : ∀ (d : PyData) (v : V), d.hasDict = false → DD K Z v d → Dp K Z v d
  | .none, _, _, h => by cases h; exact .non
  | .bool b, _, _, h => by cases h; exact .bl b
  | .int i, _, _, h => by cases h; exact .int i
  | .str x, _, _, h => by cases h; exact .str x
  | .list ds, _, n, h => by
    cases h with
    | lst hs ha => exact .lst hs.sq (DDs.dp ds _ n ha)
  | .tuple ds, _, n, h => by
    cases h with
    | tup hs ha => exact .tup hs (DDs.dp ds _ n ha)
  | .dict _, _, n, h => by cases n
theorem DDs.dp {K : PySem.W.Frag} {Z : Hp} : ∀ (ds : List PyData) (vs : List V), PyData.hasDictAll ds = false → DDs K Z vs ds → DpAll K Z vs ds
  | [], _, _, h => by cases h; exact .nil
  | d :: ds, _, n, h => by
    rw [PyData.hasDictAll, Bool.or_eq_false_iff] at n
    cases h with
    | cons h1 h2 => exact .cons (DD.dp d _ n.1 h1) (DDs.dp ds _ n.2 h2)
end
mutual
theorem dd_mono {K : PySem.W.Frag} {Z Z' : Hp} (s : Same Z Z') : ∀ (d : PyData) (v : V), DD K Z v d → DD K Z' v d
  | .none, _, h => by cases h; exact .non
  | .bool b, _, h => by cases h; exact .bl b
  | .int i, _, h => by cases h; exact .int i
  | .str x, _, h => by cases h; exact .str x
  | .list ds, _, h => by
    cases h with
    | lst hs ha => exact .lst (same_ls s hs) (dds_mono s ds _ ha)
  | .tuple ds, _, h => by
    cases h with
    | tup hs ha => exact .tup (same_sqT s hs) (dds_mono s ds _ ha)
  | .dict kvs, _, h => by
    cases h with
    | dct e => exact .dct (s.h _ _ e nt_dK)
    | dcn e hf hk => exact .dcn (s.h _ _ e nt_exo) hf (ddk_mono s kvs _ hk)
theorem dds_mono {K : PySem.W.Frag} {Z Z' : Hp} (s : Same Z Z') : ∀ (ds : List PyData) (vs : List V), DDs K Z vs ds → DDs K Z' vs ds
  | [], _, h => by cases h; exact .nil
  | d :: ds, _, h => by
    cases h with
    | cons h1 h2 => exact .cons (dd_mono s d _ h1) (dds_mono s ds _ h2)
theorem ddk_mono {K : PySem.W.Frag} {Z Z' : Hp} (s : Same Z Z') : ∀ (kvs : List (PyData × PyData)) (xs : List (NestedKey × Addr × V)), DDk K Z xs kvs → DDk K Z' xs kvs
  | [], _, h => by cases h; exact .nil
  | (kd, vd) :: kvs, _, h => by
    cases h with
    | cons h0 h1 h2 h3 => exact .cons h0 (dd_mono s kd _ h1) (dd_mono s vd _ h2) (ddk_mono s kvs _ h3)
end
theorem DDm {K : PySem.W.Frag} {Z Z' : Hp} {v : V} {d : PyData} (h : DD K Z v d) (s : Same Z Z') : DD K Z' v d := dd_mono s d v h
theorem DDsm {K : PySem.W.Frag} {Z Z' : Hp} {vs : List V} {ds : List PyData} (h : DDs K Z vs ds) (s : Same Z Z') : DDs K Z' vs ds := dds_mono s ds vs h
theorem dds_len {K : PySem.W.Frag} {Z : Hp} : ∀ {vs : List V} {ds : List PyData}, DDs K Z vs ds → vs.length = ds.length
  | _, [], h => by cases h; rfl
  | _, d :: ds, h => by
    cases h with
    | cons h1 h2 => rw [List.length_cons, List.length_cons, dds_len h2]
theorem dds_get {K : PySem.W.Frag} {Z : Hp} : ∀ {vs : List V} {ds : List PyData} {i : Nat} {d : PyData}, DDs K Z vs ds → ds[i]? = some d → ∃ v, vs[i]? = some v ∧ DD K Z v d
  | _, [], _, _, h, e => by simp at e
  | _, d :: ds, 0, _, h, e => by
    cases h with
    | cons h1 h2 => simp at e; subst e; exact ⟨_, rfl, h1⟩
  | _, d :: ds, i + 1, _, h, e => by
    cases h with
    | cons h1 h2 =>
      obtain ⟨v, e1, e2⟩ := dds_get (i := i) h2 (by simpa using e)
      exact ⟨v, by simpa using e1, e2⟩
theorem dds_get' {K : PySem.W.Frag} {Z : Hp} {vs : List V} {ds : List PyData} {i : Nat} {v : V} (h : DDs K Z vs ds) (e : vs[i]? = some v) : ∃ d, ds[i]? = some d ∧ DD K Z v d := by
  have hl := dds_len h
  obtain ⟨hi, _⟩ := List.getElem?_eq_some_iff.mp e
  obtain ⟨w, e1, e2⟩ := dds_get h (List.getElem?_eq_getElem (show i < ds.length by omega))
  rw [e] at e1
  cases e1
  exact ⟨_, List.getElem?_eq_getElem (show i < ds.length by omega), e2⟩
theorem dds_app {K : PySem.W.Frag} {Z : Hp} : ∀ {vs : List V} {ds : List PyData} {ws : List V} {es : List PyData}, DDs K Z vs ds → DDs K Z ws es → DDs K Z (vs ++ ws) (ds ++ es)
  | _, [], _, _, h, g => by cases h; exact g
  | _, d :: ds, _, _, h, g => by
    cases h with
    | cons h1 h2 => exact .cons h1 (dds_app h2 g)
theorem dds_take {K : PySem.W.Frag} {Z : Hp} : ∀ (n : Nat) {vs : List V} {ds : List PyData}, DDs K Z vs ds → DDs K Z (vs.take n) (ds.take n)
  | 0, _, _, _ => .nil
  | n + 1, _, [], h => by cases h; exact .nil
  | n + 1, _, d :: ds, h => by
    cases h with
    | cons h1 h2 => exact .cons h1 (dds_take n h2)
theorem dds_drop {K : PySem.W.Frag} {Z : Hp} : ∀ (n : Nat) {vs : List V} {ds : List PyData}, DDs K Z vs ds → DDs K Z (vs.drop n) (ds.drop n)
  | 0, _, _, h => h
  | n + 1, _, [], h => by cases h; exact .nil
  | n + 1, _, d :: ds, h => by
    cases h with
    | cons h1 h2 => exact dds_drop n h2
theorem dds_erase {K : PySem.W.Frag} {Z : Hp} : ∀ (n : Nat) {vs : List V} {ds : List PyData}, DDs K Z vs ds → DDs K Z (vs.eraseIdx n) (ds.eraseIdx n)
  | _, _, [], h => by cases h; exact .nil
  | 0, _, d :: ds, h => by
    cases h with
    | cons h1 h2 => exact h2
  | n + 1, _, d :: ds, h => by
    cases h with
    | cons h1 h2 => exact .cons h1 (dds_erase n h2)
theorem dds_set {K : PySem.W.Frag} {Z : Hp} {v : V} {d : PyData} (hv : DD K Z v d) : ∀ (n : Nat) {vs : List V} {ds : List PyData}, DDs K Z vs ds → DDs K Z (vs.set n v) (ds.set n d)
  | _, _, [], h => by cases h; exact .nil
  | 0, _, _ :: ds, h => by
    cases h with
    | cons h1 h2 => exact .cons hv h2
  | n + 1, _, _ :: ds, h => by
    cases h with
    | cons h1 h2 => exact .cons h1 (dds_set hv n h2)

end
variable [Lab]
/-! ### slots as data -/
inductive DV where
  | fr (d : PyData) | ow (ds : List PyData) | rf (ds : List PyData) | dk (kvs : List (PyData × PyData))
abbrev DEnv := List (Option DV)
def ownish : DV → Bool
  | .fr _ => false
  | _ => true
structure Fm where
  Z0 : Hp
  G : Hp
  P : Addr → Prop
  W : Str → Option Addr → St → Hp → Prop
abbrev W0 : Str → Option Addr → St → Hp → Prop := fun _ _ _ _ => False
def SlotOk (K : PySem.W.Frag) (F : Fm) (Z H : Hp) (σ : St) (i : Nat) : DV → Prop
  | .fr d => ∃ v, σ[i]? = some (some v) ∧ DD K Z v d
  | .ow ds => ∃ p xs, σ[i]? = some (some (.ref p)) ∧ ¬ F.P p ∧ F.G p = none ∧ Z p = none ∧ H p = some (.lst xs) ∧ DDs K Z xs ds
  | .rf ds => ∃ p xs, σ[i]? = some (some (.ref p)) ∧ F.P p ∧ H p = some (.lst xs) ∧ DDs K Z xs ds
  | .dk kvs => ∃ p o xs, σ[i]? = some (some (.ref p)) ∧ ¬ F.P p ∧ F.G p = none ∧ Z p = none ∧ H p = some (DnO p o) ∧ DnF LabW.w p o xs ∧ DDk K Z xs kvs
structure Rel (K : PySem.W.Frag) (F : Fm) (Z H : Hp) (σ : St) (env : DEnv) : Prop where
  z0 : Same F.Z0 Z
  zh : Same Z H
  gh : Same F.G H
  nw : ∀ q, Z q ≠ none → F.Z0 q ≠ none ∨ (F.G q = none ∧ ¬ F.P q)
  pp : ∀ q, F.P q → H q ≠ none ∧ Z q = none ∧ F.G q = none
  len : env.length = σ.length
  sl : ∀ (i : Nat) (dv : DV), env[i]? = some (some dv) → SlotOk K F Z H σ i dv
  inj : ∀ (i j : Nat) (di dj : DV) (p : Addr), env[i]? = some (some di) → env[j]? = some (some dj) → ownish di = true → ownish dj = true → σ[i]? = some (some (.ref p)) → σ[j]? = some (some (.ref p)) → i = j
  tb : TB H
/-- q is no owned slot's list -/
def Fre (σ : St) (env : DEnv) (q : Addr) : Prop := ∀ (i : Nat) (dv : DV), env[i]? = some (some dv) → ownish dv = true → σ[i]? ≠ some (some (V.ref q))
/-- one step of an expression: only owned slots' lists may change -/
structure Stp (σ : St) (env : DEnv) (Z H : Hp) (env' : DEnv) (Z' H' : Hp) : Prop where
  z : Same Z Z'
  h : ∀ q o, H q = some o → NT o → Fre σ env q → H' q = some o
  n : ∀ q, Z' q ≠ none → Z q = none → H q ≠ none → ¬ Fre σ env q
  o : ∀ (i : Nat) (dv : DV), env'[i]? = some (some dv) → ownish dv = true → ∃ dv0, env[i]? = some (some dv0) ∧ ownish dv0 = true
  k : ∀ q, H q ≠ none → H' q ≠ none
theorem Stp.new {σ : St} {env env' : DEnv} {Z H Z' H' : Hp} (s : Stp σ env Z H env' Z' H') {q : Addr} (h : H' q = none) : H q = none :=
  Classical.byContradiction fun z => s.k q z h
theorem Stp.refl {σ : St} {env : DEnv} {Z H : Hp} : Stp σ env Z H env Z H :=
  ⟨Same.refl Z, fun _ _ e _ _ => e, fun _ a b => absurd b a, fun _ dv e o => ⟨dv, e, o⟩, fun _ h => h⟩
theorem Stp.fre {σ : St} {env env' : DEnv} {Z H Z' H' : Hp} (s : Stp σ env Z H env' Z' H') {q : Addr} (f : Fre σ env q) : Fre σ env' q := fun i dv e o => by
  obtain ⟨dv0, e0, o0⟩ := s.o i dv e o
  exact f i dv0 e0 o0
theorem Stp.trans {σ : St} {e0 e1 e2 : DEnv} {Z0 H0 Z1 H1 Z2 H2 : Hp} (a : Stp σ e0 Z0 H0 e1 Z1 H1) (b : Stp σ e1 Z1 H1 e2 Z2 H2) : Stp σ e0 Z0 H0 e2 Z2 H2 := by
  refine ⟨a.z.trans b.z, fun q o e n f => b.h q o (a.h q o e n f) n (a.fre f), fun q h2 h0 hh f => ?_, fun i dv e o => ?_, fun q h => b.k q (a.k q h)⟩
  · by_cases hz : Z1 q = none
    · have h1 : H1 q ≠ none := a.k q hh
      exact b.n q h2 hz h1 (a.fre f)
    · exact a.n q hz h0 hh f
  · obtain ⟨d1, x, y⟩ := b.o i dv e o
    exact a.o i d1 x y
/-- what only lays new things -/
structure Grow (Z H Z' H' : Hp) : Prop where
  z : Same Z Z'
  zh : Same Z' H'
  h : Same H H'
  t : TB H → TB H'
  n : ∀ q, Z' q ≠ none → Z q ≠ none ∨ H q = none
theorem Grow.refl {Z H : Hp} (s : Same Z H) : Grow Z H Z H := ⟨Same.refl Z, s, Same.refl H, id, fun _ h => .inl h⟩
theorem Grow.trans {Z H Z1 H1 Z2 H2 : Hp} (a : Grow Z H Z1 H1) (b : Grow Z1 H1 Z2 H2) : Grow Z H Z2 H2 := by
  refine ⟨a.z.trans b.z, b.zh, a.h.trans b.h, fun t => b.t (a.t t), fun q h => ?_⟩
  rcases b.n q h with h | h
  · exact a.n q h
  · exact .inr (a.h.free h)
theorem Grow.stp {σ : St} {env : DEnv} {Z H Z' H' : Hp} (g : Grow Z H Z' H') : Stp σ env Z H env Z' H' := by
  refine ⟨g.z, fun q o e n _ => g.h.h q o e n, fun q h1 h2 h3 _ => ?_, fun _ dv e o => ⟨dv, e, o⟩, fun q hq hz => hq (g.h.free hz)⟩
  rcases g.n q h1 with h | h
  · exact h h2
  · exact h3 h
theorem Rel.grow {K : PySem.W.Frag} {F : Fm} {Z H Z' H' : Hp} {σ : St} {env : DEnv} (r : Rel K F Z H σ env) (g : Grow Z H Z' H') : Rel K F Z' H' σ env := by
  have keepn : ∀ p, Z p = none → H p ≠ none → Z' p = none := fun p hz hp => by
    cases hq : Z' p with
    | none => rfl
    | some o =>
      rcases g.n p (by rw [hq]; simp) with h | h
      · exact absurd hz h
      · exact absurd h hp
  refine ⟨r.z0.trans g.z, g.zh, r.gh.trans g.h, fun q h => ?_, fun q hq => ?_, r.len, fun i dv e => ?_, r.inj, g.t r.tb⟩
  · rcases g.n q h with h | h
    · exact r.nw q h
    · refine .inr ⟨r.gh.free h, fun hp => (r.pp q hp).1 h⟩
  · obtain ⟨a, b, c⟩ := r.pp q hq
    exact ⟨g.h.k q a, keepn q b a, c⟩
  · have s := r.sl i dv e
    cases dv with
    | fr d =>
      obtain ⟨v, e1, e2⟩ := s
      exact ⟨v, e1, DDm e2 g.z⟩
    | ow ds =>
      obtain ⟨p, xs, e1, e2, e3, e4, e5, e6⟩ := s
      exact ⟨p, xs, e1, e2, e3, keepn p e4 (by rw [e5]; simp), g.h.h _ _ e5 nt_lst, DDsm e6 g.z⟩
    | rf ds =>
      obtain ⟨p, xs, e1, e2, e5, e6⟩ := s
      exact ⟨p, xs, e1, e2, g.h.h _ _ e5 nt_lst, DDsm e6 g.z⟩
    | dk kvs =>
      obtain ⟨p, o, xs, e1, e2, e3, e4, e5, e6, e7⟩ := s
      exact ⟨p, o, xs, e1, e2, e3, keepn p e4 (by rw [e5]; simp), g.h.h _ _ e5 nt_exo, e6, ddk_mono g.z _ _ e7⟩
theorem same_upd2 {Z H : Hp} (s : Same Z H) (p : Addr) (o : HO) : Same (upd Z p o) (upd H p o) := by
  refine ⟨fun b x e n => ?_, fun b e => ?_⟩
  · by_cases hb : b = p
    · subst hb; rw [upd_same] at e ⊢; exact e
    · rw [upd_ne hb] at e ⊢; exact s.h b x e n
  · by_cases hb : b = p
    · subst hb; rw [upd_same]; simp
    · rw [upd_ne hb] at e ⊢; exact s.k b e
/-- a new frozen object -/
theorem grow_new {Z H : Hp} (s : Same Z H) {p : Addr} (h : H p = none) (o : HO) : Grow Z H (upd Z p o) (upd H p o) := by
  have hz : Z p = none := s.free h
  refine ⟨.of (same_new hz o), same_upd2 s p o, .of (same_new h o), fun t => t.ext (same_new h o), fun q hq => ?_⟩
  by_cases hb : q = p
  · subst hb; exact .inr h
  · rw [upd_ne hb] at hq; exact .inl hq
/-- what a callee may do to the list at p -/
structure Pok (Z H : Hp) (p : Addr) (Z' H' : Hp) : Prop where
  z : Same Z Z'
  zh : Same Z' H'
  h : ∀ q o, q ≠ p → H q = some o → NT o → H' q = some o
  k : ∀ q, q ≠ p → H q ≠ none → H' q ≠ none
  t : TB H → TB H'
  n : ∀ q, Z' q ≠ none → Z q ≠ none ∨ H q = none
theorem new_tup {K : PySem.W.Frag} {Z H : Hp} (s : Same Z H) {p : Addr} (h : H p = none) {xs : List V} {ds : List PyData} (a : DDs K Z xs ds) : DD K (upd Z p (.tup xs)) (.ref p) (.tuple ds) :=
  .tup (SqT.of upd_same) (DDsm a (grow_new s h (.tup xs)).z)
theorem new_lst {K : PySem.W.Frag} {Z H : Hp} (s : Same Z H) {p : Addr} (h : H p = none) {xs : List V} {ds : List PyData} (a : DDs K Z xs ds) : DD K (upd Z p (.lst xs)) (.ref p) (.list ds) :=
  .lst (.inl (Rd.of upd_same)) (DDsm a (grow_new s h (.lst xs)).z)

/-! ### reading a slot -/
def rdF (i : Nat) (env : DEnv) : Option (PyData × DEnv) := match env[i]? with
  | some (some (.fr d)) => some (d, env)
  | some (some (.ow ds)) => some (.list ds, env.set i (some (.fr (.list ds))))
  | some (some (.dk kvs)) => some (.dict kvs, env.set i (some (.fr (.dict kvs))))
  | _ => none
/-- the data that stands in a slot, whatever its kind -/
def rdB (i : Nat) (env : DEnv) : Option PyData := match env[i]? with
  | some (some (.fr d)) => some d
  | some (some (.ow ds)) => some (.list ds)
  | some (some (.rf ds)) => some (.list ds)
  | some (some (.dk kvs)) => some (.dict kvs)
  | _ => none
theorem get_set_some {env : DEnv} {i j : Nat} {x : Option DV} {dv : DV} (h : (env.set i x)[j]? = some (some dv)) : (j = i ∧ x = some dv) ∨ (j ≠ i ∧ env[j]? = some (some dv)) := by
  by_cases e : i = j
  · subst e
    by_cases hl : i < env.length
    · rw [List.getElem?_set_self hl] at h
      exact .inl ⟨rfl, Option.some.inj h⟩
    · rw [List.getElem?_eq_none (by rw [List.length_set]; omega)] at h
      cases h
  · rw [List.getElem?_set_ne e] at h
    exact .inr ⟨fun z => e z.symm, h⟩
theorem Rel.freezeG {K : PySem.W.Frag} {F : Fm} {Z H : Hp} {σ : St} {env : DEnv} {i : Nat} {dv0 : DV} {p : Addr} {u : HO} {d : PyData} (r : Rel K F Z H σ env) (e : env[i]? = some (some dv0)) (hown : ownish dv0 = true) (e1 : σ[i]? = some (some (.ref p))) (e2 : ¬ F.P p) (e3 : F.G p = none) (e4 : Z p = none) (e5 : H p = some u) (hd : DD K (upd Z p u) (.ref p) d) :
    ∃ Z' v, Rel K F Z' H σ (env.set i (some (.fr d))) ∧ Stp σ env Z H (env.set i (some (.fr d))) Z' H ∧ σ[i]? = some (some v) ∧ DD K Z' v d := by
  have hZ : Same Z (upd Z p u) := .of (same_new e4 _)
  refine ⟨upd Z p u, .ref p, ⟨r.z0.trans hZ, ⟨fun b x q n => ?_, fun b q => ?_⟩, r.gh, fun q hq => ?_, fun q hq => ?_, by rw [List.length_set]; exact r.len, fun j dv ej => ?_, fun j k dj dk q ej ek oj ok sj sk => ?_, r.tb⟩, ⟨hZ, fun _ _ q _ _ => q, fun q h1 h2 _ f => ?_, fun j dv ej oj => ?_, fun _ h => h⟩, e1, hd⟩
  · by_cases hb : b = p
    · subst hb; rw [upd_same] at q; cases q; exact e5
    · rw [upd_ne hb] at q; exact r.zh.h b x q n
  · by_cases hb : b = p
    · subst hb; rw [e5]; simp
    · rw [upd_ne hb] at q; exact r.zh.k b q
  · by_cases hb : q = p
    · subst hb; exact .inr ⟨e3, e2⟩
    · rw [upd_ne hb] at hq; exact r.nw q hq
  · obtain ⟨a, b, c⟩ := r.pp q hq
    refine ⟨a, ?_, c⟩
    rw [upd_ne (show q ≠ p from fun z => e2 (by rw [← z]; exact hq))]; exact b
  · rcases get_set_some ej with ⟨rfl, ex⟩ | ⟨hne, ex⟩
    · cases ex
      exact ⟨.ref p, e1, hd⟩
    · have s := r.sl j dv ex
      cases dv with
      | fr d => obtain ⟨v, a, b⟩ := s; exact ⟨v, a, DDm b hZ⟩
      | ow es =>
        obtain ⟨p', xs', a1, a2, a3, a4, a5, a6⟩ := s
        have hp : p' ≠ p := fun z => hne (r.inj j i _ _ p ex e rfl hown (z ▸ a1) e1)
        exact ⟨p', xs', a1, a2, a3, by rw [upd_ne hp]; exact a4, a5, DDsm a6 hZ⟩
      | rf es =>
        obtain ⟨p', xs', a1, a2, a5, a6⟩ := s
        exact ⟨p', xs', a1, a2, a5, DDsm a6 hZ⟩
      | dk es =>
        obtain ⟨p', o', xs', a1, a2, a3, a4, a5, a6, a7⟩ := s
        have hp : p' ≠ p := fun z => hne (r.inj j i _ _ p ex e rfl hown (z ▸ a1) e1)
        exact ⟨p', o', xs', a1, a2, a3, by rw [upd_ne hp]; exact a4, a5, a6, ddk_mono hZ _ _ a7⟩
  · rcases get_set_some ej with ⟨rfl, ex⟩ | ⟨_, ex⟩
    · cases ex; cases oj
    · rcases get_set_some ek with ⟨rfl, ey⟩ | ⟨_, ey⟩
      · cases ey; cases ok
      · exact r.inj j k dj dk q ex ey oj ok sj sk
  · by_cases hb : q = p
    · subst hb; exact f i _ e hown e1
    · rw [upd_ne hb] at h1; exact h1 h2
  · rcases get_set_some ej with ⟨rfl, ex⟩ | ⟨_, ex⟩
    · cases ex; cases oj
    · exact ⟨dv, ex, oj⟩
theorem Rel.freeze {K : PySem.W.Frag} {F : Fm} {Z H : Hp} {σ : St} {env : DEnv} {i : Nat} {ds : List PyData} (r : Rel K F Z H σ env) (e : env[i]? = some (some (.ow ds))) :
    ∃ Z' v, Rel K F Z' H σ (env.set i (some (.fr (.list ds)))) ∧ Stp σ env Z H (env.set i (some (.fr (.list ds)))) Z' H ∧ σ[i]? = some (some v) ∧ DD K Z' v (.list ds) := by
  obtain ⟨p, xs, e1, e2, e3, e4, e5, e6⟩ := r.sl i _ e
  exact r.freezeG e rfl e1 e2 e3 e4 e5 (.lst (.inl (Rd.of upd_same)) (DDsm e6 (.of (same_new e4 _))))
theorem Rel.freezeK {K : PySem.W.Frag} {F : Fm} {Z H : Hp} {σ : St} {env : DEnv} {i : Nat} {kvs : List (PyData × PyData)} (r : Rel K F Z H σ env) (e : env[i]? = some (some (.dk kvs))) :
    ∃ Z' v, Rel K F Z' H σ (env.set i (some (.fr (.dict kvs)))) ∧ Stp σ env Z H (env.set i (some (.fr (.dict kvs)))) Z' H ∧ σ[i]? = some (some v) ∧ DD K Z' v (.dict kvs) := by
  obtain ⟨p, o, xs, e1, e2, e3, e4, e5, e6, e7⟩ := r.sl i _ e
  exact r.freezeG e rfl e1 e2 e3 e4 e5 (.dcn upd_same e6 (ddk_mono (.of (same_new e4 _)) _ _ e7))
theorem Rel.rdF {K : PySem.W.Frag} {F : Fm} {Z H : Hp} {σ : St} {env env' : DEnv} {i : Nat} {d : PyData} (r : Rel K F Z H σ env) (h : DL.rdF i env = some (d, env')) :
    ∃ Z' v, Rel K F Z' H σ env' ∧ Stp σ env Z H env' Z' H ∧ σ[i]? = some (some v) ∧ DD K Z' v d := by
  unfold DL.rdF at h
  split at h
  · rename_i d' e
    cases h
    obtain ⟨v, e1, e2⟩ := r.sl i _ e
    exact ⟨Z, v, r, Stp.refl, e1, e2⟩
  · rename_i ds e
    cases h
    exact r.freeze e
  · rename_i kvs e
    cases h
    exact r.freezeK e
  · cases h
/-- what a slot's list is at this moment -/
theorem Rel.rdB {K : PySem.W.Frag} {F : Fm} {Z H : Hp} {σ : St} {env : DEnv} {i : Nat} {d : PyData} (r : Rel K F Z H σ env) (h : DL.rdB i env = some d) : ∃ v, σ[i]? = some (some v) ∧ DD K H v d := by
  unfold DL.rdB at h
  split at h
  · rename_i d' e
    cases h
    obtain ⟨v, e1, e2⟩ := r.sl i _ e
    exact ⟨v, e1, DDm e2 r.zh⟩
  · rename_i ds e
    cases h
    obtain ⟨p, xs, e1, e2, e3, e4, e5, e6⟩ := r.sl i _ e
    exact ⟨.ref p, e1, .lst (.inl (Rd.of e5)) (DDsm e6 r.zh)⟩
  · rename_i ds e
    cases h
    obtain ⟨p, xs, e1, e2, e5, e6⟩ := r.sl i _ e
    exact ⟨.ref p, e1, .lst (.inl (Rd.of e5)) (DDsm e6 r.zh)⟩
  · rename_i kvs e
    cases h
    obtain ⟨p, o, xs, e1, e2, e3, e4, e5, e6, e7⟩ := r.sl i _ e
    exact ⟨.ref p, e1, .dcn e5 e6 (ddk_mono r.zh _ _ e7)⟩
  · cases h
end DL
end L2

set_option Elab.async false
set_option maxRecDepth 100000
set_option maxHeartbeats 4000000
set_option autoImplicit false
namespace L2
namespace DL
open PySem PySem.Spec PyProof.Rows
variable [Lab]
abbrev lim : Nat := 100000
theorem lim_le : lim ≤ sizeLine := by decide
/-! ### readings -/
def tD (K : PySem.W.Frag) (F : Fm) (f : DEnv → Option (PyData × DEnv)) : TE := fun σ H Q => ∃ Z env d env', Rel K F Z H σ env ∧ f env = some (d, env') ∧ ∀ v Z' H', Rel K F Z' H' σ env' → Stp σ env Z H env' Z' H' → DD K Z' v d → Q v H'
def tDT (K : PySem.W.Frag) (F : Fm) (f : DEnv → Option (Bool × DEnv)) : TT := fun σ H Q => ∃ Z env d env', Rel K F Z H σ env ∧ f env = some (d, env') ∧ ∀ Z' H', Rel K F Z' H' σ env' → Stp σ env Z H env' Z' H' → Q d H'
def tDA (K : PySem.W.Frag) (F : Fm) (f : DEnv → Option (List PyData × DEnv)) : TA := fun σ H Q => ∃ Z env ds env', Rel K F Z H σ env ∧ f env = some (ds, env') ∧ ∀ vs Z' H', Rel K F Z' H' σ env' → Stp σ env Z H env' Z' H' → DDs K Z' vs ds → Q vs H'
def tDN (K : PySem.W.Frag) (F : Fm) (f : DEnv → Option (List PyData × DEnv)) : TE := fun σ H Q => ∃ Z env ds env', Rel K F Z H σ env ∧ f env = some (ds, env') ∧ ∀ p xs Z' H', Rel K F Z' H' σ env' → Stp σ env Z H env' Z' H' → H p = none → Z' p = none → H' p = some (.lst xs) → DDs K Z' xs ds → Q (.ref p) H'
def PD (X : Cx) (F : Fm) (e : Expr) (f : DEnv → Option (PyData × DEnv)) : Prop := PE X e (tD X.K F f)
def PN (X : Cx) (F : Fm) (e : Expr) (f : DEnv → Option (List PyData × DEnv)) : Prop := PE X e (tDN X.K F f)
def PDT (X : Cx) (F : Fm) (e : Expr) (f : DEnv → Option (Bool × DEnv)) : Prop := PT X e (tDT X.K F f)
def PDW (X : Cx) (F : Fm) (e : Expr) (f : DEnv → Option (Bool × DEnv)) : Prop := PW X e (tDT X.K F f)
def PDA (X : Cx) (F : Fm) (es : List Expr) (f : DEnv → Option (List PyData × DEnv)) : Prop := PA X es (tDA X.K F f)
theorem pe_imp {X : Cx} {e : Expr} {t t' : TE} (h : PE X e t) (w : ∀ σ H Q, t' σ H Q → t σ H Q) : PE X e t' := ⟨fun pins s σ H Q I q => h.run pins s σ H Q I (w σ H Q q)⟩
theorem pt_imp {X : Cx} {e : Expr} {t t' : TT} (h : PT X e t) (w : ∀ σ H Q, t' σ H Q → t σ H Q) : PT X e t' := ⟨fun pins s σ H Q I q => h.run pins s σ H Q I (w σ H Q q)⟩
theorem pw_imp {X : Cx} {e : Expr} {t t' : TT} (h : PW X e t) (w : ∀ σ H Q, t' σ H Q → t σ H Q) : PW X e t' := ⟨fun wh pins s σ H Q I q => h.run wh pins s σ H Q I (w σ H Q q)⟩
theorem pa_imp {X : Cx} {es : List Expr} {t t' : TA} (h : PA X es t) (w : ∀ σ H Q, t' σ H Q → t σ H Q) : PA X es t' := ⟨fun pos pins s σ H Q I q => h.run pos pins s σ H Q I (w σ H Q q)⟩
theorem ps_imp {X : Cx} {e : Stmt} {t t' : TS} (h : PS X e t) (w : ∀ D σ H, t' D σ H → t D σ H) : PS X e t' := ⟨fun pins s σ H D I q => h.run pins s σ H D I (w D σ H q)⟩
theorem pss_imp {X : Cx} {e : List Stmt} {t t' : TS} (h : PSs X e t) (w : ∀ D σ H, t' D σ H → t D σ H) : PSs X e t' := ⟨fun pins s σ H D I q => h.run pins s σ H D I (w D σ H q)⟩
theorem bnd {α β : Type} {o : Option α} {f : α → Option β} {b : β} (h : o.bind f = some b) : ∃ a, o = some a ∧ f a = some b := Option.bind_eq_some_iff.mp h
theorem mpd {α β : Type} {o : Option α} {f : α → β} {b : β} (h : o.map f = some b) : ∃ a, o = some a ∧ f a = b := Option.map_eq_some_iff.mp h

/-- a temporary list is frozen -/
theorem Rel.frzT {K : PySem.W.Frag} {F : Fm} {Z H H0 Z0 : Hp} {σ : St} {env env0 : DEnv} {p : Addr} {xs : List V} {ds : List PyData} (r0 : Rel K F Z0 H0 σ env0) (r : Rel K F Z H σ env) (s : Stp σ env0 Z0 H0 env Z H) (h0 : H0 p = none) (hz : Z p = none) (hp : H p = some (.lst xs)) (hd : DDs K Z xs ds) :
    Rel K F (upd Z p (.lst xs)) H σ env ∧ Stp σ env0 Z0 H0 env (upd Z p (.lst xs)) H ∧ DD K (upd Z p (.lst xs)) (.ref p) (.list ds) := by
  have hZ : Same Z (upd Z p (.lst xs)) := .of (same_new hz _)
  have fr0 : Fre σ env0 p := fun i dv e o hh => by
    have sl := r0.sl i dv e
    cases dv with
    | fr d => cases o
    | ow es => obtain ⟨p', xs', a1, _, _, _, a5, _⟩ := sl; rw [hh] at a1; cases a1; rw [h0] at a5; cases a5
    | rf es => obtain ⟨p', xs', a1, _, a5, _⟩ := sl; rw [hh] at a1; cases a1; rw [h0] at a5; cases a5
    | dk es => obtain ⟨p', o', xs', a1, _, _, _, a5, _⟩ := sl; rw [hh] at a1; cases a1; rw [h0] at a5; cases a5
  have fr := s.fre fr0
  have np : ¬ F.P p := fun z => (r0.pp p z).1 h0
  have ng : F.G p = none := r0.gh.free h0
  refine ⟨⟨r.z0.trans hZ, ⟨fun b x q n => ?_, fun b q => ?_⟩, r.gh, fun q hq => ?_, fun q hq => ?_, r.len, fun i dv e => ?_, r.inj, r.tb⟩, ⟨s.z.trans hZ, s.h, fun q h1 h2 h3 f => ?_, s.o, s.k⟩, .lst (.inl (Rd.of upd_same)) (DDsm hd hZ)⟩
  · by_cases hb : b = p
    · subst hb; rw [upd_same] at q; cases q; exact hp
    · rw [upd_ne hb] at q; exact r.zh.h b x q n
  · by_cases hb : b = p
    · subst hb; rw [hp]; simp
    · rw [upd_ne hb] at q; exact r.zh.k b q
  · by_cases hb : q = p
    · subst hb; exact .inr ⟨ng, np⟩
    · rw [upd_ne hb] at hq; exact r.nw q hq
  · obtain ⟨a, b, c⟩ := r.pp q hq
    refine ⟨a, ?_, c⟩
    rw [upd_ne (show q ≠ p from fun z => np (by rw [← z]; exact hq))]; exact b
  · have sl := r.sl i dv e
    cases dv with
    | fr d => obtain ⟨v, a, b⟩ := sl; exact ⟨v, a, DDm b hZ⟩
    | ow es =>
      obtain ⟨p', xs', a1, a2, a3, a4, a5, a6⟩ := sl
      have hpp : p' ≠ p := fun z => fr i _ e rfl (z ▸ a1)
      exact ⟨p', xs', a1, a2, a3, by rw [upd_ne hpp]; exact a4, a5, DDsm a6 hZ⟩
    | rf es =>
      obtain ⟨p', xs', a1, a2, a5, a6⟩ := sl
      exact ⟨p', xs', a1, a2, a5, DDsm a6 hZ⟩
    | dk es =>
      obtain ⟨p', o', xs', a1, a2, a3, a4, a5, a6, a7⟩ := sl
      have hpp : p' ≠ p := fun z => fr i _ e rfl (z ▸ a1)
      exact ⟨p', o', xs', a1, a2, a3, by rw [upd_ne hpp]; exact a4, a5, a6, ddk_mono hZ _ _ a7⟩
  · by_cases hb : q = p
    · subst hb; exact h3 h0
    · rw [upd_ne hb] at h1; exact s.n q h1 h2 h3 f

section
variable {X : Cx} {F : Fm} {a b c e : Expr} {es : List Expr} {pos p : Pos} {f g k : DEnv → Option (PyData × DEnv)} {fa : DEnv → Option (List PyData × DEnv)} {ft gt : DEnv → Option (Bool × DEnv)}

/-! ### names and constants -/
theorem pd_name (i : Nat) {x : Str} (hN : X.N[i]? = some x := by rfl) (hv : Vis X.env.scope x := by first | exact Or.inl rfl | exact Or.inr (Or.inl rfl) | exact Or.inr (Or.inr rfl)) (hd : (x == ("__debug__" : Str)) = false := by decide)
    (hcd : (x == ("__classdict__" : Str)) = false := by decide) : PD X F (.Name x pos) (rdF i) :=
  pe_imp (pe_var hN hv hd hcd) fun σ H Q ⟨Z, env, d, env', r, e, q⟩ => by
    obtain ⟨Z', v, r', s', e1, e2⟩ := r.rdF e
    exact ⟨v, e1, q v Z' H r' s' e2⟩
def fC (d : PyData) (env : DEnv) : Option (PyData × DEnv) := some (d, env)
theorem pd_const {v : V} {d : PyData} (h : PE X e (tC v)) (hd : ∀ Z, DD X.K Z v d) : PD X F e (fC d) :=
  pe_imp h fun σ H Q ⟨Z, env, d', env', r, e, q⟩ => by
    cases e
    exact q v Z H r Stp.refl (hd Z)
theorem pd_int {i j} : PD X F (.Constant (.int i) j pos) (fC (.int i)) := pd_const pe_int fun _ => .int i
theorem pd_bl {i j} : PD X F (.Constant (.bool i) j pos) (fC (.bool i)) := pd_const pe_bl fun _ => .bl i
theorem pd_non {j} : PD X F (.Constant .none j pos) (fC .none) := pd_const pe_non fun _ => .non
theorem pd_str {i j} : PD X F (.Constant (.str i) j pos) (fC (.str i)) := pd_const pe_str fun _ => .str i
/-- a global constant -/
theorem pd_glob {x : Str} {v : V} {u : Value} {d : PyData} (hm : X.mg x = some u) (r : RelV v u) (hd : ∀ Z, DD X.K Z v d) (hg : Gl X x := by rfl) (hdb : (x == ("__debug__" : Str)) = false := by decide) : PD X F (.Name x pos) (fC d) :=
  pd_const (pe_glob hg hm r hdb) hd

/-! ### binary operators, comparisons -/
def r2D (K : PySem.W.Frag) (o : PyData → PyData → Option PyData) : R2 := fun x y H Q => ∃ Z a b d, Same Z H ∧ DD K Z x a ∧ DD K Z y b ∧ o a b = some d ∧ ∀ v Z' H', Grow Z H Z' H' → DD K Z' v d → Q v H'
def OpD (X : Cx) (op : Value → Value → Sem Value) (o : PyData → PyData → Option PyData) : Prop := OpR X op (r2D X.K o)
def fBin (o : PyData → PyData → Option PyData) (f g : DEnv → Option (PyData × DEnv)) (env : DEnv) : Option (PyData × DEnv) := (f env).bind fun x => (g x.2).bind fun y => (o x.1 y.1).map fun d => (d, y.2)
theorem bin_read {K : PySem.W.Frag} {o : PyData → PyData → Option PyData} {σ : St} {H : Hp} {Q : VK} (h : tD K F (fBin o f g) σ H Q) : tOp (r2D K o) (tD K F f) (tD K F g) σ H Q := by
  obtain ⟨Z, env, d, env', r, e, q⟩ := h
  obtain ⟨⟨x, e1⟩, h1, h⟩ := bnd e
  obtain ⟨⟨y, e2⟩, h2, h⟩ := bnd h
  obtain ⟨d', h3, h⟩ := mpd h
  cases h
  refine ⟨Z, env, x, e1, r, h1, fun v1 Z1 H1 r1 s1 d1 => ⟨Z1, e1, y, e2, r1, h2, fun v2 Z2 H2 r2 s2 d2 => ?_⟩⟩
  refine ⟨Z2, x, y, d, r2.zh, DDm d1 s2.z, d2, h3, fun v Z' H' gr dd => ?_⟩
  exact q v Z' H' (r2.grow gr) ((s1.trans s2).trans gr.stp) dd
theorem pd_bin {op : Operator} {o : PyData → PyData → Option PyData} (ho : OpD X (binaryOp op) o) (ha : PD X F a f) (hb : PD X F b g) : PD X F (.BinOp a op b pos) (fBin o f g) :=
  pe_imp (pe_op ho ha hb) fun _ _ _ h => bin_read h
theorem pd_cmp {op : CmpOp} {o : PyData → PyData → Option PyData} (ho : OpD X (compareOp op) o) (ha : PD X F a f) (hb : PD X F b g) (hm : behindInMarks op b = false := by first | exact nomark _ | rfl) : PD X F (.Compare a [op] [b] pos) (fBin o f g) :=
  pe_imp (pe_cmpR ho ha hb hm) fun _ _ _ h => bin_read h
/-- the right one a name: its list as it stands -/
def fCmpN (o : PyData → PyData → Option PyData) (f : DEnv → Option (PyData × DEnv)) (i : Nat) (env : DEnv) : Option (PyData × DEnv) := (f env).bind fun x => (rdB i x.2).bind fun y => (o x.1 y).map fun d => (d, x.2)
def scalD : PyData → Bool
  | .none => true
  | .bool _ => true
  | .int _ => true
  | .str _ => true
  | _ => false
theorem DD.scal {K : PySem.W.Frag} {Z Z' : Hp} {v : V} {d : PyData} (h : DD K Z v d) (s : scalD d = true) : DD K Z' v d := by
  cases h with
  | non => exact .non
  | bl b => exact .bl b
  | int i => exact .int i
  | str x => exact .str x
  | lst _ _ => cases s
  | tup _ _ => cases s
  | dct _ => cases s
  | dcn _ _ _ => cases s
theorem pd_cmpN {op : CmpOp} {o : PyData → PyData → Option PyData} (ho : OpD X (compareOp op) o) (hs : ∀ a b d, o a b = some d → scalD d = true) (ha : PD X F a f) (i : Nat) {x : Str} (hm : behindInMarks op (.Name x p) = false := by first | exact nomark _ | rfl)
    (hN : X.N[i]? = some x := by rfl) (hv : Vis X.env.scope x := by first | exact Or.inl rfl | exact Or.inr (Or.inl rfl) | exact Or.inr (Or.inr rfl)) (hd : (x == ("__debug__" : Str)) = false := by decide)
    (hcd : (x == ("__classdict__" : Str)) = false := by decide) : PD X F (.Compare a [op] [.Name x p] pos) (fCmpN o f i) :=
  pe_imp (pe_cmpR ho ha (pe_var hN hv hd hcd) hm) fun σ H Q h => by
    obtain ⟨Z, env, d, env', r, e, q⟩ := h
    obtain ⟨⟨x, e1⟩, h1, h⟩ := bnd e
    obtain ⟨y, h2, h⟩ := bnd h
    obtain ⟨d', h3, h⟩ := mpd h
    cases h
    refine ⟨Z, env, x, e1, r, h1, fun v1 Z1 H1 r1 s1 d1 => ?_⟩
    obtain ⟨v, ev, dv⟩ := r1.rdB h2
    refine ⟨v, ev, H1, x, y, d, Same.refl H1, DDm d1 r1.zh, dv, h3, fun v' Z' H' gr dd => ?_⟩
    have gr' : Grow Z1 H1 Z1 H' := ⟨Same.refl _, r1.zh.trans gr.h, gr.h, gr.t, fun _ z => .inl z⟩
    exact q v' Z1 H' (r1.grow gr') (s1.trans gr'.stp) (dd.scal (hs _ _ _ h3))

/-! ### tests -/
def truthD : PyData → Option Bool
  | .none => some false
  | .bool b => some b
  | .int i => some (i != 0)
  | .str x => if x.length ≤ lim then some (x.length != 0) else none
  | .list xs => some (!xs.isEmpty)
  | .tuple xs => some (!xs.isEmpty)
  | _ => none
theorem truth_ok {K : PySem.W.Frag} {H : Hp} {v : V} {d : PyData} {k : Bool} (h : DD K H v d) (e : truthD d = some k) : TruV K v H k := by
  cases h with
  | non => cases e; exact rfl
  | bl b => cases e; exact rfl
  | int i => cases e; exact rfl
  | str x =>
    change (if x.length ≤ lim then some (x.length != 0) else none) = some k at e
    by_cases hx : x.length ≤ lim
    · rw [if_pos hx] at e
      cases e
      refine ⟨Nat.le_trans hx lim_le, ?_⟩
      by_cases h0 : x.length = 0
      · rw [h0]; rfl
      · have h1 : (x.length != 0) = true := by simpa using h0
        have h2 : (((x.length : Nat) : Int) != 0) = true := by simpa using h0
        rw [h1, h2]
    · rw [if_neg hx] at e
      cases e
  | @lst a xs ds hr ha =>
    cases e
    refine .inl ⟨xs, hr.sq, ?_⟩
    have := dds_len ha
    cases xs <;> cases ds <;> simp_all
  | @tup a xs ds hr ha =>
    cases e
    refine .inr (.inl ⟨xs, hr, ?_⟩)
    have := dds_len ha
    cases xs <;> cases ds <;> simp_all
  | dct _ => cases e
  | dcn _ _ _ => cases e
def fTst (f : DEnv → Option (PyData × DEnv)) (env : DEnv) : Option (Bool × DEnv) := (f env).bind fun x => (truthD x.1).map fun k => (k, x.2)
theorem pdt_val (ha : PD X F a f) (he : ∀ whole, isTrue a X.env whole = (do let v ← whole; standAt a.pos; holding [v] (truthy v)) := by intro _; rfl) : PDT X F a (fTst f) :=
  pt_imp (pt_truth ha he) fun σ H Q h => by
    obtain ⟨Z, env, d, env', r, e, q⟩ := h
    obtain ⟨⟨x, e1⟩, h1, h⟩ := bnd e
    obtain ⟨k, h2, h⟩ := mpd h
    cases h
    exact ⟨Z, env, x, e1, r, h1, fun v Z1 H1 r1 s1 d1 => ⟨d, truth_ok (DDm d1 r1.zh) h2, q Z1 H1 r1 s1⟩⟩
def boolD (o : PyData → PyData → Option Bool) (a b : PyData) : Option PyData := (o a b).map .bool
theorem boolD_scal {o : PyData → PyData → Option Bool} (a b d : PyData) (h : boolD o a b = some d) : scalD d = true := by
  obtain ⟨k, _, rfl⟩ := mpd h
  rfl
def fAnd (f g : DEnv → Option (Bool × DEnv)) (env : DEnv) : Option (Bool × DEnv) := (f env).bind fun x => if x.1 then g x.2 else some (false, x.2)
def fOr (f g : DEnv → Option (Bool × DEnv)) (env : DEnv) : Option (Bool × DEnv) := (f env).bind fun x => if x.1 then some (true, x.2) else g x.2
def fNot (f : DEnv → Option (Bool × DEnv)) (env : DEnv) : Option (Bool × DEnv) := (f env).map fun x => (!x.1, x.2)
variable {rest : List Expr}
theorem pdw_and1 (ha : PDT X F a ft) : PDW X F (.BoolOp .And [a] pos) ft := pw_and1 ha
theorem pdw_or1 (ha : PDT X F a ft) : PDW X F (.BoolOp .Or [a] pos) ft := pw_or1 ha
theorem and_read {K : PySem.W.Frag} {σ : St} {H : Hp} {Q : Bool → Hp → Prop} (h : tDT K F (fAnd ft gt) σ H Q) : tAnd (tDT K F ft) (tDT K F gt) σ H Q := by
  obtain ⟨Z, env, d, env', r, e, q⟩ := h
  obtain ⟨⟨x, e1⟩, h1, h⟩ := bnd e
  refine ⟨Z, env, x, e1, r, h1, fun Z1 H1 r1 s1 => ?_⟩
  cases x with
  | true => exact iteT ⟨Z1, e1, d, env', r1, h, fun Z2 H2 r2 s2 => q Z2 H2 r2 (s1.trans s2)⟩
  | false =>
    cases h
    exact iteF (q Z1 H1 r1 s1)
theorem or_read {K : PySem.W.Frag} {σ : St} {H : Hp} {Q : Bool → Hp → Prop} (h : tDT K F (fOr ft gt) σ H Q) : tOr (tDT K F ft) (tDT K F gt) σ H Q := by
  obtain ⟨Z, env, d, env', r, e, q⟩ := h
  obtain ⟨⟨x, e1⟩, h1, h⟩ := bnd e
  refine ⟨Z, env, x, e1, r, h1, fun Z1 H1 r1 s1 => ?_⟩
  cases x with
  | false => exact iteF ⟨Z1, e1, d, env', r1, h, fun Z2 H2 r2 s2 => q Z2 H2 r2 (s1.trans s2)⟩
  | true =>
    cases h
    exact iteT (q Z1 H1 r1 s1)
theorem pdw_and (ha : PDT X F a ft) (hb : PDW X F (.BoolOp .And (b :: rest) pos) gt) : PDW X F (.BoolOp .And (a :: b :: rest) pos) (fAnd ft gt) := pw_imp (pw_and ha hb) fun _ _ _ h => and_read h
theorem pdw_or (ha : PDT X F a ft) (hb : PDW X F (.BoolOp .Or (b :: rest) pos) gt) : PDW X F (.BoolOp .Or (a :: b :: rest) pos) (fOr ft gt) := pw_imp (pw_or ha hb) fun _ _ _ h => or_read h
theorem pdt_w (h : PDW X F a ft) : PDT X F a ft := h.pt
theorem pdt_not (ha : PDT X F a ft) : PDT X F (.UnaryOp .Not a pos) (fNot ft) := pt_imp (pt_not ha) fun σ H Q h => by
  obtain ⟨Z, env, d, env', r, e, q⟩ := h
  obtain ⟨⟨x, e1⟩, h1, h⟩ := mpd e
  cases h
  exact ⟨Z, env, x, e1, r, h1, fun Z1 H1 r1 s1 => q Z1 H1 r1 s1⟩
/-! ### and, or, not as values of bools; conditional expressions -/
def fAndV (f g : DEnv → Option (PyData × DEnv)) (env : DEnv) : Option (PyData × DEnv) := (f env).bind fun x => match x.1 with
  | .bool true => g x.2
  | .bool false => some (.bool false, x.2)
  | _ => none
def fOrV (f g : DEnv → Option (PyData × DEnv)) (env : DEnv) : Option (PyData × DEnv) := (f env).bind fun x => match x.1 with
  | .bool false => g x.2
  | .bool true => some (.bool true, x.2)
  | _ => none
def fNotV (f : DEnv → Option (PyData × DEnv)) (env : DEnv) : Option (PyData × DEnv) := (f env).bind fun x => match x.1 with
  | .bool b => some (.bool (!b), x.2)
  | _ => none
theorem pd_one {op} (h : PD X F a f) : PD X F (.BoolOp op [a] pos) f := pe_one h
theorem DD.bool_inv {K : PySem.W.Frag} {Z : Hp} {v : V} {k : Bool} (h : DD K Z v (.bool k)) : v = .bl k := by cases h; rfl
theorem DD.int_inv {K : PySem.W.Frag} {Z : Hp} {v : V} {k : Int} (h : DD K Z v (.int k)) : v = .int k := by cases h; rfl
theorem DD.str_inv {K : PySem.W.Frag} {Z : Hp} {v : V} {k : Str} (h : DD K Z v (.str k)) : v = .str k := by cases h; rfl
theorem DD.none_inv {K : PySem.W.Frag} {Z : Hp} {v : V} (h : DD K Z v .none) : v = .non := by cases h; rfl
theorem pd_and (ha : PD X F a f) (hb : PD X F (.BoolOp .And (b :: rest) pos) g) : PD X F (.BoolOp .And (a :: b :: rest) pos) (fAndV f g) := pe_imp (pe_and ha hb) fun σ H Q h => by
  obtain ⟨Z, env, d, env', r, e, q⟩ := h
  obtain ⟨⟨x, e1⟩, h1, h⟩ := bnd e
  refine ⟨Z, env, x, e1, r, h1, fun v Z1 H1 r1 s1 d1 => ?_⟩
  dsimp only at h
  split at h
  · cases d1.bool_inv
    exact ⟨true, rfl, iteT ⟨Z1, e1, d, env', r1, h, fun v2 Z2 H2 r2 s2 d2 => q v2 Z2 H2 r2 (s1.trans s2) d2⟩⟩
  · cases d1.bool_inv
    cases h
    exact ⟨false, rfl, iteF (q _ Z1 H1 r1 s1 (.bl false))⟩
  · cases h
theorem pd_or (ha : PD X F a f) (hb : PD X F (.BoolOp .Or (b :: rest) pos) g) : PD X F (.BoolOp .Or (a :: b :: rest) pos) (fOrV f g) := pe_imp (pe_or ha hb) fun σ H Q h => by
  obtain ⟨Z, env, d, env', r, e, q⟩ := h
  obtain ⟨⟨x, e1⟩, h1, h⟩ := bnd e
  refine ⟨Z, env, x, e1, r, h1, fun v Z1 H1 r1 s1 d1 => ?_⟩
  dsimp only at h
  split at h
  · cases d1.bool_inv
    exact ⟨false, rfl, iteF ⟨Z1, e1, d, env', r1, h, fun v2 Z2 H2 r2 s2 d2 => q v2 Z2 H2 r2 (s1.trans s2) d2⟩⟩
  · cases d1.bool_inv
    cases h
    exact ⟨true, rfl, iteT (q _ Z1 H1 r1 s1 (.bl true))⟩
  · cases h
theorem pd_not (ha : PD X F a f) : PD X F (.UnaryOp .Not a pos) (fNotV f) := pe_imp (pe_not ha) fun σ H Q h => by
  obtain ⟨Z, env, d, env', r, e, q⟩ := h
  obtain ⟨⟨x, e1⟩, h1, h⟩ := bnd e
  refine ⟨Z, env, x, e1, r, h1, fun v Z1 H1 r1 s1 d1 => ?_⟩
  dsimp only at h
  split at h
  · rename_i k
    cases d1.bool_inv
    cases h
    exact ⟨k, rfl, q _ Z1 H1 r1 s1 (.bl _)⟩
  · cases h
def fIf (ft : DEnv → Option (Bool × DEnv)) (f g : DEnv → Option (PyData × DEnv)) (env : DEnv) : Option (PyData × DEnv) := (ft env).bind fun x => if x.1 then f x.2 else g x.2
theorem pd_if (hc : PDT X F c ft) (ha : PD X F a f) (hb : PD X F b g) : PD X F (.IfExp c a b pos) (fIf ft f g) := pe_imp (pe_ifExp hc ha hb) fun σ H Q h => by
  obtain ⟨Z, env, d, env', r, e, q⟩ := h
  obtain ⟨⟨x, e1⟩, h1, h⟩ := bnd e
  refine ⟨Z, env, x, e1, r, h1, fun Z1 H1 r1 s1 => ?_⟩
  cases x with
  | true => exact iteT ⟨Z1, e1, d, env', r1, h, fun v Z2 H2 r2 s2 d2 => q v Z2 H2 r2 (s1.trans s2) d2⟩
  | false => exact iteF ⟨Z1, e1, d, env', r1, h, fun v Z2 H2 r2 s2 d2 => q v Z2 H2 r2 (s1.trans s2) d2⟩

/-! ### argument lists, displays -/
def fNil (env : DEnv) : Option (List PyData × DEnv) := some ([], env)
def fCons (f : DEnv → Option (PyData × DEnv)) (fa : DEnv → Option (List PyData × DEnv)) (env : DEnv) : Option (List PyData × DEnv) := (f env).bind fun x => (fa x.2).map fun y => (x.1 :: y.1, y.2)
theorem pda_nil : PDA X F [] fNil := pa_imp pa_nil fun σ H Q h => by
  obtain ⟨Z, env, d, env', r, e, q⟩ := h
  cases e
  exact q [] Z H r Stp.refl .nil
theorem pda_cons (ha : PD X F e f) (hr : PDA X F es fa) (hs : starEach (e :: es) X.env = (false, eval e X.env) :: starEach es X.env := by rfl) : PDA X F (e :: es) (fCons f fa) := pa_imp (pa_cons ha hr hs) fun σ H Q h => by
  obtain ⟨Z, env, d, env', r, e, q⟩ := h
  obtain ⟨⟨x, e1⟩, h1, h⟩ := bnd e
  obtain ⟨⟨y, e2⟩, h2, h⟩ := mpd h
  cases h
  exact ⟨Z, env, x, e1, r, h1, fun v Z1 H1 r1 s1 d1 => ⟨Z1, e1, y, e2, r1, h2, fun vs Z2 H2 r2 s2 d2 => q (v :: vs) Z2 H2 r2 (s1.trans s2) (.cons (DDm d1 s2.z) d2)⟩⟩
def fTup (fa : DEnv → Option (List PyData × DEnv)) (env : DEnv) : Option (PyData × DEnv) := (fa env).bind fun x => if x.1.length ≤ lim then some (.tuple x.1, x.2) else none
theorem pd_tup {x1} (h : PDA X F es fa) : PD X F (.Tuple es x1 pos) (fTup fa) := pe_imp (pe_tup h) fun σ H Q h => by
  obtain ⟨Z, env, d, env', r, e, q⟩ := h
  obtain ⟨⟨x, e1⟩, h1, h⟩ := bnd e
  dsimp only at h
  split at h
  · rename_i hx
    cases h
    refine ⟨Z, env, x, env', r, h1, fun vs Z1 H1 r1 s1 d1 => ⟨?_, fun p hp => ?_⟩⟩
    · rw [dds_len d1]; exact Nat.le_trans hx lim_le
    · have gr := grow_new r1.zh hp (.tup vs)
      exact q (.ref p) _ _ (r1.grow gr) (s1.trans gr.stp) (new_tup r1.zh hp d1)
  · cases h
def fLst (fa : DEnv → Option (List PyData × DEnv)) (env : DEnv) : Option (List PyData × DEnv) := (fa env).bind fun x => if x.1.length ≤ lim then some x else none
/-- a list laid anew, not frozen -/
theorem grow_own {Z H : Hp} (s : Same Z H) {p : Addr} (h : H p = none) (o : HO) : Grow Z H Z (upd H p o) :=
  ⟨Same.refl Z, s.trans (.of (same_new h o)), .of (same_new h o), fun t => t.ext (same_new h o), fun _ z => .inl z⟩
theorem pn_lst (h : PDA X F es fa) : PN X F (.List es pos) (fLst fa) := pe_imp (pe_lst h) fun σ H Q h => by
  obtain ⟨Z, env, d, env', r, e, q⟩ := h
  obtain ⟨⟨x, e1⟩, h1, h⟩ := bnd e
  dsimp only at h
  split at h
  · rename_i hx
    cases h
    refine ⟨Z, env, d, env', r, h1, fun vs Z1 H1 r1 s1 d1 => ⟨?_, fun p hp => ?_⟩⟩
    · rw [dds_len d1]; exact Nat.le_trans hx lim_le
    · have gr := grow_own r1.zh hp (.lst vs)
      exact q p vs _ _ (r1.grow gr) (s1.trans gr.stp) (s1.new hp) (r1.zh.free hp) upd_same d1
  · cases h
def fFrz (fa : DEnv → Option (List PyData × DEnv)) (env : DEnv) : Option (PyData × DEnv) := (fa env).map fun x => (.list x.1, x.2)
theorem pn_pd (h : PN X F e fa) : PD X F e (fFrz fa) := pe_imp h fun σ H Q h => by
  obtain ⟨Z, env, d, env', r, e, q⟩ := h
  obtain ⟨⟨x, e1⟩, h1, h⟩ := mpd e
  simp only [Prod.mk.injEq] at h
  obtain ⟨rfl, rfl⟩ := h
  refine ⟨Z, env, x, e1, r, h1, fun p xs Z1 H1 r1 s1 hp hz hh dd => ?_⟩
  obtain ⟨a, b, c⟩ := Rel.frzT r r1 s1 hp hz hh dd
  exact q _ _ _ a b c

/-! ### built-in functions -/
def rCD (K : PySem.W.Frag) (o : List PyData → Option PyData) : List V → Hp → VK → Prop := fun vs H Q => ∃ Z ds d, Same Z H ∧ DDs K Z vs ds ∧ o ds = some d ∧ ∀ v Z' H', Grow Z H Z' H' → DD K Z' v d → Q v H'
def CallD (X : Cx) (fn : Value) (o : List PyData → Option PyData) : Prop := CallR X fn (rCD X.K o)
def fCB (o : List PyData → Option PyData) (fa : DEnv → Option (List PyData × DEnv)) (env : DEnv) : Option (PyData × DEnv) := (fa env).bind fun x => (o x.1).map fun d => (d, x.2)
theorem cb_read {K : PySem.W.Frag} {o : List PyData → Option PyData} {σ : St} {H : Hp} {Q : VK} (h : tD K F (fCB o fa) σ H Q) : tCB (rCD K o) (tDA K F fa) σ H Q := by
  obtain ⟨Z, env, d, env', r, e, q⟩ := h
  obtain ⟨⟨x, e1⟩, h1, h⟩ := bnd e
  obtain ⟨d', h2, h⟩ := mpd h
  cases h
  exact ⟨Z, env, x, e1, r, h1, fun vs Z1 H1 r1 s1 d1 => ⟨Z1, x, d, r1.zh, d1, h2, fun v Z' H' gr dd => q v Z' H' (r1.grow gr) (s1.trans gr.stp) dd⟩⟩
variable {x : Str} {id T : String}
theorem pd_callB {o : List PyData → Option PyData} (hc : CallD X (.builtin id) o) (hm : X.mg x = none) (hv : bootBuiltins x = some (.builtin id)) (ha : PDA X F (e :: es) fa) (hg : Gl X x := by rfl) (hn : x ≠ "__name__" := by decide) (hdb : (x == ("__debug__" : Str)) = false := by decide)
    (he : starEach (e :: es) X.env = (false, eval e X.env) :: starEach es X.env := by rfl) (hpl : (backTo pos (starEach es X.env)).any (·.1) = false := by rfl) : PD X F (.Call (.Name x p) (e :: es) [] pos) (fCB o fa) :=
  pe_imp (pe_callB hc hg hm hv ha hn hdb he hpl) fun _ _ _ h => cb_read h
theorem pd_callTy {o : List PyData → Option PyData} (hc : CallD X (.type T) o) (hm : X.mg x = none) (hv : bootBuiltins x = some (.type T)) (ha : PDA X F (e :: es) fa) (hg : Gl X x := by rfl) (hn : x ≠ "__name__" := by decide) (hdb : (x == ("__debug__" : Str)) = false := by decide)
    (he : starEach (e :: es) X.env = (false, eval e X.env) :: starEach es X.env := by rfl) (hpl : (backTo pos (starEach es X.env)).any (·.1) = false := by rfl) : PD X F (.Call (.Name x p) (e :: es) [] pos) (fCB o fa) :=
  pe_imp (pe_callTy hc hg hm hv ha hn hdb he hpl) fun _ _ _ h => cb_read h
end
end DL
end L2

set_option Elab.async false
set_option maxRecDepth 100000
set_option maxHeartbeats 4000000
set_option autoImplicit false
namespace L2
namespace DL
open PySem PySem.Spec PyProof.Rows
variable [Lab]
/-! ### defs, called where no repr is under way -/
structure FnG (P : Program) (w : World) (K : PySem.W.Frag) (mg : Str → Option Value) (base : Heap) (k : Nat) (f : Addr) (fd : FuncData) (ps : List Str) (sp : Sp) : Prop where
  len : ∀ vs H Q E, sp vs H Q E → vs.length = ps.length
  run : ∀ (A : Around) (outer : List Env) (s : Shared) (H : Hp) (args : Args) (us : List Value) (vs : List V) (Q : VK) (E : XK),
    GdOk A → Room k A → Env0 P w K mg base A outer s H → BindsTo s fd args (ps.zip us) → Vals vs us → sp vs H Q E →
    codeAny (model P w) A (.call (.ref f) args) (CR CX0 outer P w H s Q E) s
theorem FnG.mono {P : Program} {w : World} {K : PySem.W.Frag} {mg : Str → Option Value} {base : Heap} {j k : Nat} {f : Addr} {fd : FuncData} {ps : List Str} {sp : Sp}
    (G : FnG P w K mg base j f fd ps sp) (h : j ≤ k) : FnG P w K mg base k f fd ps sp :=
  ⟨G.len, fun A outer s H args us vs Q E hg hr => G.run A outer s H args us vs Q E hg (hr.mono h)⟩
section
variable {P : Program} {w : World} {K : PySem.W.Frag} {mg : Str → Option Value} {base : Heap}
theorem fng_of {x qual : Str} {st : Stmt} {f : Addr} {fd : FuncData} {N ps : List Str} {k : Nat} {sp : Sp} (D : Fun K x qual st f fd) (S : FnScope N ps (defScope st)) (len : ∀ vs H Q E, sp vs H Q E → vs.length = ps.length)
    (hbody : ∀ (cdv : Value) (A : Around) (outer : List Env) (s : Shared) (H : Hp) (vs : List V) (Q : VK) (E : XK), cdv = fd.code → GdOk A →
      Room k (A.deeper (envOfC qual (defScope st) s.heap.objs.size f cdv)) → sp vs H Q E →
      ∃ t, PSs (cxOf CX0 P w K mg base N qual (defScope st) f cdv A outer s H E).nox (defBody st) t ∧ t { nx := fun _ H' => Q .non H', rt := Q } (start N vs) H) :
    FnG P w K mg base (k + 1) f fd ps sp := by
  obtain ⟨oc, od, kV, doc, pm, an, cdv, ct, osl, rfl, lk, hcd⟩ := D.ex
  refine ⟨len, fun A outer s H args us vs Q E hgd hr e0 hb rv hsp => ?_⟩
  have sl := len vs H Q E hsp
  have kin : K.In s.heap := e0.mod.kin.keeps fun b o q => (e0.bs b o q).1
  have nol : s.heap.NoLimit := e0.mod.nolimit.keeps fun b o q => (e0.bs b o q).1
  have kinds : ∀ y ∈ ps.zip us, (defScope st).names.lookup y.1 = some .local ∨
      ((defScope st).names.lookup y.1 = some .cell ∧ ((cellsFrom (s.heap.objs.size + 1) (defScope st).names []).lookup y.1).isSome = true) := by
    rintro ⟨n, z⟩ hy
    rcases S.par n (List.of_mem_zip hy).1 with e | e
    · exact .inl e
    · exact .inr ⟨e, PySem.W.cellsFrom_some _ _ _ (.inl e)⟩
  refine codeAny_call_function hr.depth (kin _ _ lk) rfl S.co S.gen rfl (PySem.W.codeRec_of kin hcd) (hb _ _ _ _ (wpAny_newFunctionEnv_cells S.kind kinds fun env he s1 x1 => ?_))
  subst he
  obtain ⟨t, ht, hq⟩ := hbody cdv A outer s H vs Q E rfl hgd (hr.deeper _) hsp
  have J0 : Inv (cxOf CX0 P w K mg base N qual (defScope st) f cdv A outer s H E) [] (start N vs) H s1 := inv_start S hr.hd e0 sl rv x1
  refine ⟨nol.keeps x1.toInCall.keep, codeAny_func (wpAny_mono (ht.nox.run [] s1 (start N vs) H _ J0 hq) (fun fl s' hs => ?_) fun e s' hs => hs)⟩
  cases fl with
  | ret u => obtain ⟨v, s2, H', J, r1, q⟩ := hs; exact ⟨v, H', J.os, J.bare, J.base, J.hok, r1, q⟩
  | next => obtain ⟨s2, H', J, q⟩ := hs; exact ⟨V.non, H', J.os, J.bare, J.base, J.hok, rfl, q⟩
  | brk => obtain ⟨_, _, _, q⟩ := hs; cases q
  | cont => obtain ⟨_, _, _, q⟩ := hs; cases q
end
section
variable {X : Cx} {F : Fm} {k : Nat} {f : Addr} {fd : FuncData} {ps ks : List Str} {sp : Sp} {x : Str} {p pos : Pos} {e : Expr} {es : List Expr} {t tk : TA} {kws : List Keyword}
theorem run_g {pins : List (Addr × Obj)} {σ : St} {H : Hp} {s : Shared} {Q : VK} {args : Args} {us : List Value} {vs : List V} (G : FnG X.prog X.w X.K X.mg X.base k f fd ps sp) (hg : GdOk X.A) (hr : Room k X.A)
    (hb : BindsTo s fd args (ps.zip us)) (I : Inv X pins σ H s) (rv : Vals vs us) (h : sp vs H Q E0) : wpAny (model X.prog X.w) X.A (call (.ref f) args.pos args.kw) (EP X pins σ Q) X.xe s := by
  refine wpAny_call (codeAny_mono (G.run X.A X.stack s H args us vs Q E0 hg hr I.env0 hb rv h) fun r s' hq => ?_)
  cases r with
  | error z => exact False.elim hq
  | ok fl =>
    cases fl with
    | ret u => exact I.after hq
    | next => cases hq
    | brk => cases hq
    | cont => cases hq
theorem pe_gcall (G : FnG X.prog X.w X.K X.mg X.base k f fd ps sp) (hgd : GdOk X.A) (hr : Room k X.A) (hm : X.mg x = some (.ref f)) (hk : PySem.W.keepIn X.K (.ref f) = true) (hb : Binds X.K fd ps [])
    (ha : PA X (e :: es) t) (hg : Gl X x := by rfl) (hdb : (x == ("__debug__" : Str)) = false := by decide)
    (he : starEach (e :: es) X.env = (false, eval e X.env) :: starEach es X.env := by rfl) (hpl : (backTo pos (starEach es X.env)).any (·.1) = false := by rfl) :
    PE X (.Call (.Name x p) (e :: es) [] pos) (fun σ H Q => t σ H fun vs H1 => sp vs H1 Q E0) := by
  refine ⟨fun pins s σ H Q I h => wpAny_Call_Name_kw (ld_glob I hg hm (PySem.W.callWith_K (h₀ := X.base) I.ok.mod.kin hk (thn (ha.run pos pins s σ H _ I h) ?_) he hpl) hdb)⟩
  rintro us s1 ⟨vs, H1, I1, rv, q⟩
  have hl : us.length = ps.length := by rw [← rv.length]; exact G.len _ _ _ _ q
  refine ⟨I1.kIn, run_g (args := ⟨us, []⟩) (us := us) G hgd hr ?_ I1 rv q⟩
  have := hb s1 us I1.kIn (by rw [List.append_nil]; exact hl)
  rw [List.append_nil] at this
  exact this
variable {g : List Value → List Value → List Value} {gV : List V → List V → List V}
theorem pe_gcallK (G : FnG X.prog X.w X.K X.mg X.base k f fd ps sp) (hgd : GdOk X.A) (hr : Room k X.A) (hm : X.mg x = some (.ref f)) (hk : PySem.W.keepIn X.K (.ref f) = true) (hb : KBinds X.K fd ps ks g gV)
    (ha : PA X (e :: es) t) (hkw : PK X kws tk) (hg : Gl X x := by rfl) (hall : (backToKw pos (keywordEach kws X.env)).all (·.1.isSome) = true := by rfl) (hks : (backToKw pos (keywordEach kws X.env)).filterMap (·.1) = ks := by rfl)
    (hdb : (x == ("__debug__" : Str)) = false := by decide) (he : starEach (e :: es) X.env = (false, eval e X.env) :: starEach es X.env := by rfl)
    (hpl : ((backTo pos (starEach (e :: es) X.env)).any (·.1) || (backToKw pos (keywordEach kws X.env)).any (·.1.isNone)) = false := by rfl) :
    PE X (.Call (.Name x p) (e :: es) kws pos) (fun σ H Q => t σ H fun vs H1 => tk σ H1 fun zs H2 => sp (gV vs zs) H2 Q E0) := by
  refine ⟨fun pins s σ H Q I h => wpAny_Call_Name_kw (ld_glob I hg hm (PySem.W.callWith_KW (h₀ := X.base) I.ok.mod.kin hk hall (thn (ha.run pos pins s σ H _ I h) ?_) hpl he) hdb)⟩
  rintro us s1 ⟨vs, H1, I1, rv, q⟩
  refine thn (hkw.run pos pins s1 σ H1 _ I1 q) ?_
  rintro ws s2 ⟨zs, H2, I2, rz, q2⟩
  have r2 := hb.rel rv rz
  have hl : (g us ws).length = ps.length := by rw [← r2.length]; exact G.len _ _ _ _ q2
  refine ⟨I2.kIn, ?_⟩
  rw [hks]
  exact run_g (args := ⟨us, ks.zip ws⟩) (us := g us ws) G hgd hr (hb.to s2 us ws I2.kIn hl) I2 r2 q2
variable {gU : List Value → List Value} {gW : List V → List V}
theorem pe_gcallK0 (G : FnG X.prog X.w X.K X.mg X.base k f fd ps sp) (hgd : GdOk X.A) (hr : Room k X.A) (hm : X.mg x = some (.ref f)) (hk : PySem.W.keepIn X.K (.ref f) = true)
    (hb : ∀ (s : Shared) (ws : List Value), (gU ws).length = ps.length → BindsTo s fd ⟨[], ks.zip ws⟩ (ps.zip (gU ws))) (hrel : ∀ {zs : List V} {ws : List Value}, Vals zs ws → Vals (gW zs) (gU ws))
    (hkw : PK X kws tk) (hg : Gl X x := by rfl) (hall : (backToKw pos (keywordEach kws X.env)).all (·.1.isSome) = true := by rfl) (hks : (backToKw pos (keywordEach kws X.env)).filterMap (·.1) = ks := by rfl)
    (hdb : (x == ("__debug__" : Str)) = false := by decide)
    (hpl : ((backTo pos (starEach [] X.env)).any (·.1) || (backToKw pos (keywordEach kws X.env)).any (·.1.isNone)) = false := by rfl) :
    PE X (.Call (.Name x p) [] kws pos) (fun σ H Q => tk σ H fun zs H2 => sp (gW zs) H2 Q E0) := by
  refine ⟨fun pins s σ H Q I h => wpAny_Call_Name_kw (ld_glob I hg hm (PySem.W.callWith_KW0 (h₀ := X.base) I.ok.mod.kin hk hall (thn (hkw.run pos pins s σ H _ I h) ?_) hpl) hdb)⟩
  rintro ws s2 ⟨zs, H2, I2, rz, q2⟩
  have r2 := hrel rz
  have hl : (gU ws).length = ps.length := by rw [← r2.length]; exact G.len _ _ _ _ q2
  refine ⟨I2.kIn, ?_⟩
  rw [hks]
  exact run_g (args := ⟨[], ks.zip ws⟩) (us := gU ws) G hgd hr (hb s2 ws hl) I2 r2 q2
end

/-! ### the promises -/
def spF (K : PySem.W.Frag) (n : Nat) (m : List PyData → Option PyData) : Sp := fun vs H Q _ => vs.length = n ∧ ∃ Z ds r, Same Z H ∧ TB H ∧ DDs K Z vs ds ∧ m ds = some r ∧ ∀ v Z' H', Grow Z H Z' H' → DD K Z' v r → Q v H'
def spN (K : PySem.W.Frag) (n : Nat) (m : List PyData → Option (List PyData)) : Sp := fun vs H Q _ => vs.length = n ∧ ∃ Z ds r, Same Z H ∧ TB H ∧ DDs K Z vs ds ∧ m ds = some r ∧ ∀ p xs Z' H', Grow Z H Z' H' → H p = none → Z' p = none → H' p = some (.lst xs) → DDs K Z' xs r → Q (.ref p) H'
def spR (K : PySem.W.Frag) (n : Nat) (m : List PyData → List PyData → Option (PyData × List PyData)) : Sp := fun vs H Q _ => vs.length = n ∧ ∃ Z p ws xs es ds r es', vs = .ref p :: ws ∧ Same Z H ∧ TB H ∧ Z p = none ∧ H p = some (.lst xs) ∧ DDs K Z xs es ∧ DDs K Z ws ds ∧ m es ds = some (r, es') ∧
  ∀ v xs' Z' H', Pok Z H p Z' H' → H' p = some (.lst xs') → DDs K Z' xs' es' → DD K Z' v r → Q v H'
section
variable {X : Cx} {F : Fm} {k n : Nat} {f : Addr} {fd : FuncData} {ps ks : List Str} {x : Str} {p pos : Pos} {e : Expr} {es : List Expr} {kws : List Keyword} {fa fk : DEnv → Option (List PyData × DEnv)}
theorem f_read {m : List PyData → Option PyData} {K : PySem.W.Frag} {σ : St} {H : Hp} {Q : VK} (hn : ∀ ds r, m ds = some r → ds.length = n) (h : tD K F (fCB m fa) σ H Q) : tDA K F fa σ H fun vs H1 => spF K n m vs H1 Q E0 := by
  obtain ⟨Z, env, d, env', r, e, q⟩ := h
  obtain ⟨⟨x, e1⟩, h1, h⟩ := bnd e
  obtain ⟨d', h2, h⟩ := mpd h
  cases h
  exact ⟨Z, env, x, e1, r, h1, fun vs Z1 H1 r1 s1 d1 => ⟨(dds_len d1).trans (hn _ _ h2), Z1, x, d, r1.zh, r1.tb, d1, h2, fun v Z' H' gr dd => q v Z' H' (r1.grow gr) (s1.trans gr.stp) dd⟩⟩
theorem pd_call {m : List PyData → Option PyData} (G : FnG X.prog X.w X.K X.mg X.base k f fd ps (spF X.K n m)) (hn : ∀ ds r, m ds = some r → ds.length = n) (hgd : GdOk X.A) (hr : Room k X.A) (hm : X.mg x = some (.ref f)) (hk : PySem.W.keepIn X.K (.ref f) = true) (hb : Binds X.K fd ps [])
    (ha : PDA X F (e :: es) fa) (hg : Gl X x := by rfl) (hdb : (x == ("__debug__" : Str)) = false := by decide)
    (he : starEach (e :: es) X.env = (false, eval e X.env) :: starEach es X.env := by rfl) (hpl : (backTo pos (starEach es X.env)).any (·.1) = false := by rfl) :
    PD X F (.Call (.Name x p) (e :: es) [] pos) (fCB m fa) :=
  pe_imp (pe_gcall G hgd hr hm hk hb ha hg hdb he hpl) fun _ _ _ h => f_read hn h
def PDK (X : Cx) (F : Fm) (kws : List Keyword) (f : DEnv → Option (List PyData × DEnv)) : Prop := PK X kws (tDA X.K F f)
theorem pk_imp {X : Cx} {es : List Keyword} {t t' : TA} (h : PK X es t) (w : ∀ σ H Q, t' σ H Q → t σ H Q) : PK X es t' := ⟨fun pos pins s σ H Q I q => h.run pos pins s σ H Q I (w σ H Q q)⟩
theorem pdk_nil : PDK X F [] fNil := pk_imp pk_nil fun σ H Q h => by
  obtain ⟨Z, env, d, env', r, e, q⟩ := h
  cases e
  exact q [] Z H r Stp.refl .nil
theorem pdk_cons {g : DEnv → Option (PyData × DEnv)} {nm : Option Str} {kpos : Pos} (ha : PD X F e g) (hr : PDK X F kws fk) : PDK X F (⟨nm, e, kpos⟩ :: kws) (fCons g fk) := pk_imp (pk_cons ha hr) fun σ H Q h => by
  obtain ⟨Z, env, d, env', r, e, q⟩ := h
  obtain ⟨⟨x, e1⟩, h1, h⟩ := bnd e
  obtain ⟨⟨y, e2⟩, h2, h⟩ := mpd h
  cases h
  exact ⟨Z, env, x, e1, r, h1, fun v Z1 H1 r1 s1 d1 => ⟨Z1, e1, y, e2, r1, h2, fun vs Z2 H2 r2 s2 d2 => q (v :: vs) Z2 H2 r2 (s1.trans s2) (.cons (DDm d1 s2.z) d2)⟩⟩
/-- keywords only: gD puts the values in the parameters' order -/
def fCK0 (gD : List PyData → List PyData) (m : List PyData → Option PyData) (fk : DEnv → Option (List PyData × DEnv)) (env : DEnv) : Option (PyData × DEnv) := (fk env).bind fun x => (m (gD x.1)).map fun d => (d, x.2)
theorem pd_callK0 {m : List PyData → Option PyData} {gU : List Value → List Value} {gW : List V → List V} (gD : List PyData → List PyData) (hgD : ∀ (K : PySem.W.Frag) (Z : Hp) (vs : List V) (ds : List PyData), DDs K Z vs ds → DDs K Z (gW vs) (gD ds))
    (G : FnG X.prog X.w X.K X.mg X.base k f fd ps (spF X.K n m)) (hn : ∀ ds r, m ds = some r → ds.length = n) (hgd : GdOk X.A) (hr : Room k X.A) (hm : X.mg x = some (.ref f)) (hk : PySem.W.keepIn X.K (.ref f) = true)
    (hb : ∀ (s : Shared) (ws : List Value), (gU ws).length = ps.length → BindsTo s fd ⟨[], ks.zip ws⟩ (ps.zip (gU ws))) (hrel : ∀ {zs : List V} {ws : List Value}, Vals zs ws → Vals (gW zs) (gU ws))
    (hkw : PDK X F kws fk) (hg : Gl X x := by rfl) (hall : (backToKw pos (keywordEach kws X.env)).all (·.1.isSome) = true := by rfl) (hks : (backToKw pos (keywordEach kws X.env)).filterMap (·.1) = ks := by rfl)
    (hdb : (x == ("__debug__" : Str)) = false := by decide)
    (hpl : ((backTo pos (starEach [] X.env)).any (·.1) || (backToKw pos (keywordEach kws X.env)).any (·.1.isNone)) = false := by rfl) :
    PD X F (.Call (.Name x p) [] kws pos) (fCK0 gD m fk) := pe_imp (pe_gcallK0 G hgd hr hm hk hb hrel hkw hg hall hks hdb hpl) fun σ H Q h => by
  obtain ⟨Z, env, d, env', r, e, q⟩ := h
  obtain ⟨⟨x, e1⟩, h1, h⟩ := bnd e
  obtain ⟨d', h2, h⟩ := mpd h
  cases h
  refine ⟨Z, env, x, e1, r, h1, fun vs Z1 H1 r1 s1 d1 => ?_⟩
  have d2 := hgD _ _ _ _ d1
  exact ⟨(dds_len d2).trans (hn _ _ h2), Z1, gD x, d, r1.zh, r1.tb, d2, h2, fun v Z' H' gr dd => q v Z' H' (r1.grow gr) (s1.trans gr.stp) dd⟩
/-- a def that hands back a new list -/
def fCN (m : List PyData → Option (List PyData)) (fa : DEnv → Option (List PyData × DEnv)) (env : DEnv) : Option (List PyData × DEnv) := (fa env).bind fun x => (m x.1).map fun d => (d, x.2)
theorem pn_call {m : List PyData → Option (List PyData)} (G : FnG X.prog X.w X.K X.mg X.base k f fd ps (spN X.K n m)) (hn : ∀ ds r, m ds = some r → ds.length = n) (hgd : GdOk X.A) (hr : Room k X.A) (hm : X.mg x = some (.ref f)) (hk : PySem.W.keepIn X.K (.ref f) = true) (hb : Binds X.K fd ps [])
    (ha : PDA X F (e :: es) fa) (hg : Gl X x := by rfl) (hdb : (x == ("__debug__" : Str)) = false := by decide)
    (he : starEach (e :: es) X.env = (false, eval e X.env) :: starEach es X.env := by rfl) (hpl : (backTo pos (starEach es X.env)).any (·.1) = false := by rfl) :
    PN X F (.Call (.Name x p) (e :: es) [] pos) (fCN m fa) := pe_imp (pe_gcall G hgd hr hm hk hb ha hg hdb he hpl) fun σ H Q h => by
  obtain ⟨Z, env, d, env', r, e, q⟩ := h
  obtain ⟨⟨x, e1⟩, h1, h⟩ := bnd e
  obtain ⟨d', h2, h⟩ := mpd h
  cases h
  refine ⟨Z, env, x, e1, r, h1, fun vs Z1 H1 r1 s1 d1 => ⟨(dds_len d1).trans (hn _ _ h2), Z1, x, d, r1.zh, r1.tb, d1, h2, fun p xs Z' H' gr hp hz hh dd => ?_⟩⟩
  exact q p xs Z' H' (r1.grow gr) (s1.trans gr.stp) (s1.new hp) hz hh dd
end
end DL
end L2

set_option Elab.async false
set_option maxRecDepth 100000
set_option maxHeartbeats 4000000
set_option autoImplicit false
namespace L2
namespace DL
open PySem PySem.Spec PyProof.Rows
variable [Lab]
/-! ### an owned list changes -/
def rdO (j : Nat) (env : DEnv) : Option (List PyData) := match env[j]? with
  | some (some (.ow ds)) => some ds
  | some (some (.rf ds)) => some ds
  | _ => none
def wrO (j : Nat) (ds : List PyData) (env : DEnv) : DEnv := match env[j]? with
  | some (some (.ow _)) => env.set j (some (.ow ds))
  | some (some (.rf _)) => env.set j (some (.rf ds))
  | _ => env
theorem Pok.keepn {Z H Z' H' : Hp} {p : Addr} (g : Pok Z H p Z' H') {q : Addr} (hz : Z q = none) (hq : H q ≠ none) : Z' q = none := by
  cases hh : Z' q with
  | none => rfl
  | some o =>
    rcases g.n q (by rw [hh]; simp) with h | h
    · exact absurd hz h
    · exact absurd h hq
theorem Pok.keep {Z H Z' H' : Hp} {p : Addr} (g : Pok Z H p Z' H') (hp : H' p ≠ none) {q : Addr} (hq : H q ≠ none) : H' q ≠ none := by
  by_cases e : q = p
  · subst e; exact hp
  · exact g.k q e hq
theorem Pok.grow {Z H Z' H' Z2 H2 : Hp} {p : Addr} (g : Pok Z H p Z' H') (hp : H' p ≠ none) (r : Grow Z' H' Z2 H2) : Pok Z H p Z2 H2 := by
  refine ⟨g.z.trans r.z, r.zh, fun q o e h n => r.h.h q o (g.h q o e h n) n, fun q e h => r.h.k q (g.k q e h), fun t => r.t (g.t t), fun q h => ?_⟩
  rcases r.n q h with h | h
  · exact g.n q h
  · exact .inr (Classical.byContradiction fun z => g.keep hp z h)
theorem Rel.poke0 {K : PySem.W.Frag} {F : Fm} {Z H Z' H' : Hp} {σ : St} {env : DEnv} {p : Addr} (r : Rel K F Z H σ env) (f : Fre σ env p) (ng : F.G p = none) (np : ¬ F.P p) (g : Pok Z H p Z' H') (hp : H' p ≠ none) : Rel K F Z' H' σ env := by
  refine ⟨r.z0.trans g.z, g.zh, ⟨fun q o e n => g.h q o (fun z => by subst z; rw [ng] at e; cases e) (r.gh.h q o e n) n, fun q e => g.keep hp (r.gh.k q e)⟩, fun q h => ?_, fun q hq => ?_, r.len, fun i dv e => ?_, r.inj, g.t r.tb⟩
  · rcases g.n q h with h | h
    · exact r.nw q h
    · exact .inr ⟨r.gh.free h, fun z => (r.pp q z).1 h⟩
  · obtain ⟨a, b, c⟩ := r.pp q hq
    exact ⟨g.keep hp a, g.keepn b a, c⟩
  · have s := r.sl i dv e
    cases dv with
    | fr d => obtain ⟨v, a, b⟩ := s; exact ⟨v, a, DDm b g.z⟩
    | ow ds =>
      obtain ⟨p', xs, e1, e2, e3, e4, e5, e6⟩ := s
      have hne : p' ≠ p := fun z => f i _ e rfl (z ▸ e1)
      exact ⟨p', xs, e1, e2, e3, g.keepn e4 (by rw [e5]; simp), g.h _ _ hne e5 nt_lst, DDsm e6 g.z⟩
    | rf ds =>
      obtain ⟨p', xs, e1, e2, e5, e6⟩ := s
      have hne : p' ≠ p := fun z => f i _ e rfl (z ▸ e1)
      exact ⟨p', xs, e1, e2, g.h _ _ hne e5 nt_lst, DDsm e6 g.z⟩
    | dk ds =>
      obtain ⟨p', o', xs, e1, e2, e3, e4, e5, e6, e7⟩ := s
      have hne : p' ≠ p := fun z => f i _ e rfl (z ▸ e1)
      exact ⟨p', o', xs, e1, e2, e3, g.keepn e4 (by rw [e5]; simp), g.h _ _ hne e5 nt_exo, e6, ddk_mono g.z _ _ e7⟩
theorem Rel.poke {K : PySem.W.Frag} {F : Fm} {Z H : Hp} {σ : St} {env : DEnv} {j : Nat} {es : List PyData} (r : Rel K F Z H σ env) (e : rdO j env = some es) :
    ∃ p xs, σ[j]? = some (some (V.ref p)) ∧ Z p = none ∧ H p = some (.lst xs) ∧ DDs K Z xs es ∧
      ∀ Z' H' xs' es', Pok Z H p Z' H' → H' p = some (.lst xs') → DDs K Z' xs' es' → Rel K F Z' H' σ (wrO j es' env) ∧ Stp σ env Z H (wrO j es' env) Z' H' := by
  have key : ∀ (c : List PyData → DV), (∀ ds, ownish (c ds) = true) → env[j]? = some (some (c es)) → (∀ ds, wrO j ds env = env.set j (some (c ds))) →
      ∀ p xs, σ[j]? = some (some (V.ref p)) → Z p = none → F.G p = none → H p = some (.lst xs) →
      (∀ Z' H' xs' es', Pok Z H p Z' H' → H' p = some (.lst xs') → DDs K Z' xs' es' → SlotOk K F Z' H' σ j (c es')) →
      ∀ Z' H' xs' es', Pok Z H p Z' H' → H' p = some (.lst xs') → DDs K Z' xs' es' → Rel K F Z' H' σ (wrO j es' env) ∧ Stp σ env Z H (wrO j es' env) Z' H' := by
    intro c hc ej hw p xs sj zp gp hp slot Z' H' xs' es' g hp' hd
    have hpn : H' p ≠ none := by rw [hp']; simp
    rw [hw]
    refine ⟨⟨r.z0.trans g.z, g.zh, ⟨fun q o e n => g.h q o (fun z => by subst z; rw [gp] at e; cases e) (r.gh.h q o e n) n, fun q e => g.keep hpn (r.gh.k q e)⟩, fun q h => ?_, fun q hq => ?_, by rw [List.length_set]; exact r.len, fun i dv ei => ?_, fun i k di dk q ei ek oi ok si sk => ?_, g.t r.tb⟩, ⟨g.z, fun q o hq n f => ?_, fun q h1 h2 h3 f => ?_, fun i dv ei oi => ?_, fun q hq => g.keep hpn hq⟩⟩
    · rcases g.n q h with h | h
      · exact r.nw q h
      · exact .inr ⟨r.gh.free h, fun z => (r.pp q z).1 h⟩
    · obtain ⟨a, b, d⟩ := r.pp q hq
      exact ⟨g.keep hpn a, g.keepn b a, d⟩
    · rcases get_set_some ei with ⟨rfl, ex⟩ | ⟨hne, ex⟩
      · cases ex
        exact slot Z' H' xs' es' g hp' hd
      · have s := r.sl i dv ex
        cases dv with
        | fr d => obtain ⟨v, a, b⟩ := s; exact ⟨v, a, DDm b g.z⟩
        | ow ds =>
          obtain ⟨p', ys, e1, e2, e3, e4, e5, e6⟩ := s
          have hn2 : p' ≠ p := fun z => hne (r.inj i j _ _ p ex ej rfl (hc _) (z ▸ e1) sj)
          exact ⟨p', ys, e1, e2, e3, g.keepn e4 (by rw [e5]; simp), g.h _ _ hn2 e5 nt_lst, DDsm e6 g.z⟩
        | rf ds =>
          obtain ⟨p', ys, e1, e2, e5, e6⟩ := s
          have hn2 : p' ≠ p := fun z => hne (r.inj i j _ _ p ex ej rfl (hc _) (z ▸ e1) sj)
          exact ⟨p', ys, e1, e2, g.h _ _ hn2 e5 nt_lst, DDsm e6 g.z⟩
        | dk ds =>
          obtain ⟨p', o', ys, e1, e2, e3, e4, e5, e6, e7⟩ := s
          have hn2 : p' ≠ p := fun z => hne (r.inj i j _ _ p ex ej rfl (hc _) (z ▸ e1) sj)
          exact ⟨p', o', ys, e1, e2, e3, g.keepn e4 (by rw [e5]; simp), g.h _ _ hn2 e5 nt_exo, e6, ddk_mono g.z _ _ e7⟩
    · have old : ∀ (i : Nat) (dv : DV), (env.set j (some (c es')))[i]? = some (some dv) → ownish dv = true → ∃ d0, env[i]? = some (some d0) ∧ ownish d0 = true := fun i dv ei oi => by
        rcases get_set_some ei with ⟨rfl, ex⟩ | ⟨hne, ex⟩
        · exact ⟨_, ej, hc _⟩
        · exact ⟨dv, ex, oi⟩
      obtain ⟨d1, a1, b1⟩ := old i di ei oi
      obtain ⟨d2, a2, b2⟩ := old k dk ek ok
      exact r.inj i k d1 d2 q a1 a2 b1 b2 si sk
    · exact g.h q o (fun z => f j _ ej (hc _) (by rw [z]; exact sj)) hq n
    · rcases g.n q h1 with h | h
      · exact h h2
      · exact h3 h
    · rcases get_set_some ei with ⟨rfl, ex⟩ | ⟨hne, ex⟩
      · exact ⟨_, ej, hc _⟩
      · exact ⟨dv, ex, oi⟩
  unfold rdO at e
  split at e
  · rename_i ds ej
    cases e
    obtain ⟨p, xs, e1, e2, e3, e4, e5, e6⟩ := r.sl j _ ej
    exact ⟨p, xs, e1, e4, e5, e6, key .ow (fun _ => rfl) ej (fun ds => by unfold wrO; rw [ej]) p xs e1 e4 e3 e5 fun Z' H' xs' es' g hp' hd => ⟨p, xs', e1, e2, e3, g.keepn e4 (by rw [e5]; simp), hp', hd⟩⟩
  · rename_i ds ej
    cases e
    obtain ⟨p, xs, e1, e2, e5, e6⟩ := r.sl j _ ej
    obtain ⟨a, b, d⟩ := r.pp p e2
    exact ⟨p, xs, e1, b, e5, e6, key .rf (fun _ => rfl) ej (fun ds => by unfold wrO; rw [ej]) p xs e1 b d e5 fun Z' H' xs' es' g hp' hd => ⟨p, xs', e1, e2, hp', hd⟩⟩
  · cases e
/-- a plain write -/
theorem pok_upd {Z H : Hp} (s : Same Z H) {p : Addr} (hz : Z p = none) {xs : List V} (hp : H p = some (.lst xs)) (o : HO) : Pok Z H p Z (upd H p o) :=
  ⟨Same.refl Z, ⟨fun b x e n => by rw [upd_ne (ne_of_none e hz)]; exact s.h b x e n, fun b e => by
    by_cases hb : b = p
    · subst hb; rw [upd_same]; simp
    · rw [upd_ne hb]; exact s.k b e⟩, fun q o' hq e _ => by rw [upd_ne hq]; exact e, fun q hq e => by rw [upd_ne hq]; exact e, fun t => t.ne hp o, fun _ h => .inl h⟩
section
variable {X : Cx} {F : Fm} {k n j : Nat} {f : Addr} {fd : FuncData} {ps ks : List Str} {x y : Str} {p pos pn : Pos} {e : Expr} {es : List Expr} {fa : DEnv → Option (List PyData × DEnv)}
def fCR (j : Nat) (m : List PyData → List PyData → Option (PyData × List PyData)) (fa : DEnv → Option (List PyData × DEnv)) (env : DEnv) : Option (PyData × DEnv) :=
  (rdO j env).bind fun _ => (fa env).bind fun x => (rdO j x.2).bind fun es => (m es x.1).map fun r => (r.1, wrO j r.2 x.2)
theorem pd_callR (j : Nat) {m : List PyData → List PyData → Option (PyData × List PyData)} (G : FnG X.prog X.w X.K X.mg X.base k f fd ps (spR X.K n m)) (hn : ∀ es ds r, m es ds = some r → ds.length + 1 = n) (hgd : GdOk X.A) (hr : Room k X.A) (hm : X.mg x = some (.ref f)) (hk : PySem.W.keepIn X.K (.ref f) = true) (hb : Binds X.K fd ps [])
    (ha : PDA X F es fa) (hN : X.N[j]? = some y := by rfl) (hv : Vis X.env.scope y := by first | exact Or.inl rfl | exact Or.inr (Or.inl rfl) | exact Or.inr (Or.inr rfl)) (hd : (y == ("__debug__" : Str)) = false := by decide)
    (hcd : (y == ("__classdict__" : Str)) = false := by decide) (hg : Gl X x := by rfl) (hdb : (x == ("__debug__" : Str)) = false := by decide)
    (he : starEach (.Name y pn :: es) X.env = (false, eval (.Name y pn) X.env) :: starEach es X.env := by rfl) (hpl : (backTo pos (starEach es X.env)).any (·.1) = false := by rfl) :
    PD X F (.Call (.Name x p) (.Name y pn :: es) [] pos) (fCR j m fa) :=
  pe_imp (pe_gcall G hgd hr hm hk hb (pa_cons (pe_var hN hv hd hcd) ha he) hg hdb he hpl) fun σ H Q h => by
    obtain ⟨Z, env, d, env', r, e, q⟩ := h
    obtain ⟨z0, h0, e⟩ := bnd e
    obtain ⟨⟨x, e1⟩, h1, h⟩ := bnd e
    obtain ⟨zs, h2, h⟩ := bnd h
    obtain ⟨⟨r0, r1⟩, h3, h⟩ := mpd h
    cases h
    obtain ⟨p, xs, sj, _, _, _, _⟩ := r.poke h0
    refine ⟨.ref p, sj, Z, env, x, e1, r, h1, fun vs Z1 H1 r1 s1 d1 => ?_⟩
    obtain ⟨p', xs', sj', zp, hp, dp, fin⟩ := r1.poke h2
    rw [sj] at sj'
    cases sj'
    refine ⟨?_, Z1, p, vs, xs', zs, x, _, _, rfl, r1.zh, r1.tb, zp, hp, dp, d1, h3, fun v ys Z' H' pk a5 a6 a7 => ?_⟩
    · rw [List.length_cons, dds_len d1]; exact hn _ _ _ h3
    · obtain ⟨b1, b2⟩ := fin Z' H' ys _ pk a5 a6
      exact q v Z' H' b1 (s1.trans b2) a7
/-- the argument a list made for the call -/
def fCRT (m : List PyData → List PyData → Option (PyData × List PyData)) (fa : DEnv → Option (List PyData × DEnv)) (env : DEnv) : Option (PyData × DEnv) :=
  (fa env).bind fun x => (m x.1 []).map fun r => (r.1, x.2)
theorem pd_callRT {m : List PyData → List PyData → Option (PyData × List PyData)} (G : FnG X.prog X.w X.K X.mg X.base k f fd ps (spR X.K n m)) (hn : ∀ es ds r, m es ds = some r → ds.length + 1 = n) (hgd : GdOk X.A) (hr : Room k X.A) (hm : X.mg x = some (.ref f)) (hk : PySem.W.keepIn X.K (.ref f) = true) (hb : Binds X.K fd ps [])
    (ha : PN X F e fa) (hg : Gl X x := by rfl) (hdb : (x == ("__debug__" : Str)) = false := by decide)
    (he : starEach [e] X.env = (false, eval e X.env) :: starEach [] X.env := by rfl) (hpl : (backTo pos (starEach [] X.env)).any (·.1) = false := by rfl) :
    PD X F (.Call (.Name x p) [e] [] pos) (fCRT m fa) :=
  pe_imp (pe_gcall G hgd hr hm hk hb (pa_cons ha pa_nil he) hg hdb he hpl) fun σ H Q h => by
    obtain ⟨Z, env, d, env', r, e, q⟩ := h
    obtain ⟨⟨x, e1⟩, h1, h⟩ := bnd e
    obtain ⟨⟨r0, r1⟩, h3, h⟩ := mpd h
    cases h
    refine ⟨Z, env, x, e1, r, h1, fun p xs Z1 H1 r1 s1 h0 hz hp dp => ⟨?_, Z1, p, [], xs, x, [], _, _, rfl, r1.zh, r1.tb, hz, hp, dp, .nil, h3, fun v ys Z' H' g a5 a6 a7 => ?_⟩⟩
    · exact hn _ _ _ h3
    · have hpn : H' p ≠ none := by rw [a5]; simp
      have fr0 : Fre σ env p := fun i dv e o hh => by
        have sl := r.sl i dv e
        cases dv with
        | fr d => cases o
        | ow es => obtain ⟨p', xs', a1, _, _, _, a5, _⟩ := sl; rw [hh] at a1; cases a1; rw [h0] at a5; cases a5
        | rf es => obtain ⟨p', xs', a1, _, a5, _⟩ := sl; rw [hh] at a1; cases a1; rw [h0] at a5; cases a5
        | dk es => obtain ⟨p', o', xs', a1, _, _, _, a5, _⟩ := sl; rw [hh] at a1; cases a1; rw [h0] at a5; cases a5
      have rr := r1.poke0 (s1.fre fr0) (r.gh.free h0) (fun z => (r.pp p z).1 h0) g hpn
      refine q v Z' H' rr ⟨s1.z.trans g.z, fun q o hq n f => g.h q o (fun z => by subst z; rw [h0] at hq; cases hq) (s1.h q o hq n f) n, fun q b1 b2 b3 f => ?_, s1.o, fun q hq => g.keep hpn (s1.k q hq)⟩ a7
      rcases g.n q b1 with z | z
      · exact s1.n q z b2 b3 f
      · exact s1.k q b3 z

/-! ### methods that change a list; items of a named list -/
def fPop (j : Nat) (f : DEnv → Option (PyData × DEnv)) (env : DEnv) : Option (PyData × DEnv) :=
  (rdO j env).bind fun _ => (f env).bind fun x => (rdO j x.2).bind fun es => match x.1 with
    | .int i => if es.length ≤ lim then (ixN es.length i).bind fun k => (es[k]?).map fun d => (d, wrO j (es.eraseIdx k) x.2) else none
    | _ => none
variable {g : DEnv → Option (PyData × DEnv)}
theorem own_ty {K : PySem.W.Frag} {H : Hp} {p : Addr} {xs : List V} (h : H p = some (.lst xs)) : tyV K "list" (.ref p) H := .inl ⟨rfl, _, SqL.of h⟩
theorem pd_pop (j : Nat) (ha : PD X F e g) (hN : X.N[j]? = some y := by rfl) (hv : Vis X.env.scope y := by first | exact Or.inl rfl | exact Or.inr (Or.inl rfl) | exact Or.inr (Or.inr rfl)) (hd : (y == ("__debug__" : Str)) = false := by decide)
    (hcd : (y == ("__classdict__" : Str)) = false := by decide)
    (hfew : ((backTo pos (starEach [e] X.env)).all (fun x => !x.1) && (backToKw pos (keywordEach [] X.env)).all (fun x => x.1.isSome)
      && decide ([e].length + ([] : List Keyword).length + (if ([] : List Keyword).isEmpty then 0 else 1) < 30)) = true := by rfl)
    (hline : (p.endLine == pos.line) = true := by rfl) (hs : starEach [e] X.env = (false, eval e X.env) :: starEach [] X.env := by rfl) (hplain : (backTo pos (starEach [] X.env)).any (·.1) = false := by rfl) :
    PD X F (.Call (.Attribute (.Name y pn) "pop" p) [e] [] pos) (fPop j g) :=
  pe_imp (pe_bm PySem.F.plainAttrs_list PySem.F.slot_list_pop PySem.F.type_list_pop mt_popAt (pe_var hN hv hd hcd) (pa_cons ha pa_nil hs) rfl hfew hline hs hplain) fun σ H Q h => by
  obtain ⟨Z, env, d, env', r, e, q⟩ := h
  obtain ⟨z0, h0, e⟩ := bnd e
  obtain ⟨⟨x, e1⟩, h1, h⟩ := bnd e
  obtain ⟨zs, h2, h⟩ := bnd h
  dsimp only at h
  cases x with
  | int i =>
    dsimp only at h
    split at h
    case isFalse => cases h
    rename_i hsz
    obtain ⟨k, h3, h⟩ := bnd h
    obtain ⟨d', h4, h⟩ := mpd h
    cases h
    obtain ⟨p, xs, sj, _, hp0, _, _⟩ := r.poke h0
    refine ⟨.ref p, sj, own_ty hp0, Z, env, .int i, e1, r, h1, fun v Z1 H1 r1 s1 d1 => ?_⟩
    obtain ⟨p', xs', sj', zp, hp, dp, fin⟩ := r1.poke h2
    rw [sj] at sj'
    cases sj'
    cases d1.int_inv
    have hl := dds_len dp
    obtain ⟨w, hw, dw⟩ := dds_get dp h4
    obtain ⟨i1, i2, i3, i4⟩ := ixN_seq (by rw [← hl] at h3; exact h3)
    have hlim : lim = 100000 := rfl
    refine ⟨p, xs', i, k, w, rfl, rfl, hp, by omega, by omega, i1, hw, ?_⟩
    obtain ⟨b1, b2⟩ := fin Z1 (upd H1 p (.lst (xs'.eraseIdx k))) _ (zs.eraseIdx k) (pok_upd r1.zh zp hp _) upd_same (dds_erase k dp)
    exact q w Z1 _ b1 (s1.trans b2) dw
  | _ => cases h
end
end DL
end L2

set_option Elab.async false
set_option maxRecDepth 100000
set_option maxHeartbeats 4000000
set_option autoImplicit false
namespace L2
namespace DL
open PySem PySem.Spec PyProof.Rows
variable [Lab]
/-! ### stores -/
theorem set_get_some {σ : St} {i j : Nat} {x : Option V} {v : V} (h : (σ.set i x)[j]? = some (some v)) : (j = i ∧ x = some v) ∨ (j ≠ i ∧ σ[j]? = some (some v)) := by
  by_cases e : i = j
  · subst e
    by_cases hl : i < σ.length
    · rw [List.getElem?_set_self hl] at h
      exact .inl ⟨rfl, Option.some.inj h⟩
    · rw [List.getElem?_eq_none (by rw [List.length_set]; omega)] at h
      cases h
  · rw [List.getElem?_set_ne e] at h
    exact .inr ⟨fun z => e z.symm, h⟩
/-- the slot i is told anew: x and o fit -/
theorem Rel.put {K : PySem.W.Frag} {F : Fm} {Z H : Hp} {σ : St} {env : DEnv} (r : Rel K F Z H σ env) (i : Nat) (x : Option V) (o : Option DV)
    (ok : ∀ dv, o = some dv → i < σ.length → SlotOk K F Z H (σ.set i x) i dv) (fr : ∀ dv p, o = some dv → ownish dv = true → x = some (V.ref p) → Fre σ env p) : Rel K F Z H (σ.set i x) (env.set i o) := by
  have other : ∀ (j : Nat) (dv : DV), j ≠ i → env[j]? = some (some dv) → SlotOk K F Z H (σ.set i x) j dv := fun j dv hne e => by
    have s := r.sl j dv e
    have eq : (σ.set i x)[j]? = σ[j]? := List.getElem?_set_ne (fun z => hne z.symm)
    cases dv with
    | fr d => obtain ⟨v, a, b⟩ := s; exact ⟨v, eq.trans a, b⟩
    | ow ds => obtain ⟨p, xs, a, b⟩ := s; exact ⟨p, xs, eq.trans a, b⟩
    | rf ds => obtain ⟨p, xs, a, b⟩ := s; exact ⟨p, xs, eq.trans a, b⟩
    | dk ds => obtain ⟨p, o, xs, a, b⟩ := s; exact ⟨p, o, xs, eq.trans a, b⟩
  refine ⟨r.z0, r.zh, r.gh, r.nw, r.pp, by rw [List.length_set, List.length_set]; exact r.len, fun j dv e => ?_, fun j k dj dk p ej ek oj ok' sj sk => ?_, r.tb⟩
  · by_cases hl : i < σ.length
    · rcases get_set_some e with ⟨rfl, ex⟩ | ⟨hne, ex⟩
      · exact ok dv ex hl
      · exact other j dv hne ex
    · rcases get_set_some e with ⟨rfl, ex⟩ | ⟨hne, ex⟩
      · exfalso
        rw [List.getElem?_eq_none (by rw [List.length_set, r.len]; omega)] at e
        cases e
      · exact other j dv hne ex
  · rcases get_set_some ej with ⟨rfl, ex⟩ | ⟨hne, ex⟩
    · rcases get_set_some ek with ⟨rfl, ey⟩ | ⟨hne2, ey⟩
      · rfl
      · exfalso
        rcases set_get_some sj with ⟨_, sx⟩ | ⟨hh, _⟩
        · rcases set_get_some sk with ⟨hh, _⟩ | ⟨_, sy⟩
          · exact hne2 hh
          · exact fr dj p ex oj sx k dk ey ok' sy
        · exact hh rfl
    · rcases get_set_some ek with ⟨rfl, ey⟩ | ⟨hne2, ey⟩
      · exfalso
        rcases set_get_some sk with ⟨_, sx⟩ | ⟨hh, _⟩
        · rcases set_get_some sj with ⟨hh, _⟩ | ⟨_, sy⟩
          · exact hne hh
          · exact fr dk p ey ok' sx j dj ex oj sy
        · exact hh rfl
      · rw [List.getElem?_set_ne (fun z => hne z.symm)] at sj
        rw [List.getElem?_set_ne (fun z => hne2 z.symm)] at sk
        exact r.inj j k dj dk p ex ey oj ok' sj sk
theorem Rel.store {K : PySem.W.Frag} {F : Fm} {Z H : Hp} {σ : St} {env : DEnv} {v : V} {d : PyData} (r : Rel K F Z H σ env) (i : Nat) (hd : DD K Z v d) : Rel K F Z H (σ.set i (some v)) (env.set i (some (.fr d))) :=
  r.put i _ _ (fun dv e hl => by cases e; exact ⟨v, List.getElem?_set_self hl, hd⟩) (fun dv p e o _ => by cases e; cases o)
theorem Rel.drop {K : PySem.W.Frag} {F : Fm} {Z H : Hp} {σ : St} {env : DEnv} (r : Rel K F Z H σ env) (i : Nat) : Rel K F Z H (σ.set i none) (env.set i none) :=
  r.put i _ _ (fun dv e => by cases e) (fun dv p e => by cases e)
theorem Rel.storeN {K : PySem.W.Frag} {F : Fm} {Z H : Hp} {σ : St} {env : DEnv} {p : Addr} {xs : List V} {ds : List PyData} (r : Rel K F Z H σ env) (i : Nat) (f : Fre σ env p) (np : ¬ F.P p) (ng : F.G p = none) (hz : Z p = none) (hp : H p = some (.lst xs)) (hd : DDs K Z xs ds) :
    Rel K F Z H (σ.set i (some (.ref p))) (env.set i (some (.ow ds))) :=
  r.put i _ _ (fun dv e hl => by cases e; exact ⟨p, xs, List.getElem?_set_self hl, np, ng, hz, hp, hd⟩) (fun dv q e o ex => by cases ex; exact f)
/-- a list new since the start of an expression is no slot's -/
theorem fre_new {K : PySem.W.Frag} {F : Fm} {Z H : Hp} {σ : St} {env : DEnv} (r : Rel K F Z H σ env) {p : Addr} (h0 : H p = none) : Fre σ env p := fun i dv e o hh => by
  have sl := r.sl i dv e
  cases dv with
  | fr d => cases o
  | ow es => obtain ⟨p', xs', a1, _, _, _, a5, _⟩ := sl; rw [hh] at a1; cases a1; rw [h0] at a5; cases a5
  | rf es => obtain ⟨p', xs', a1, _, a5, _⟩ := sl; rw [hh] at a1; cases a1; rw [h0] at a5; cases a5
  | dk es => obtain ⟨p', o', xs', a1, _, _, _, a5, _⟩ := sl; rw [hh] at a1; cases a1; rw [h0] at a5; cases a5

/-! ### statements -/
inductive DFlow where
  | nx (env : DEnv) | rt (d : PyData) (env : DEnv) | rn (ds : List PyData) (env : DEnv) | bk (env : DEnv) | ct (env : DEnv) | ex (c a : Str) (d : PyData) (env : DEnv)
def Fini (K : PySem.W.Frag) (F : Fm) (Z : Hp) (D : Ends) : DFlow → Prop
  | .nx e => ∀ σ' Z' H', Rel K F Z' H' σ' e → Same Z Z' → D.nx σ' H'
  | .rt d e => ∀ v σ' Z' H', Rel K F Z' H' σ' e → Same Z Z' → DD K Z' v d → D.rt v H'
  | .rn ds e => ∀ p xs σ' Z' H', Rel K F Z' H' σ' e → Same Z Z' → Z' p = none → F.G p = none → ¬ F.P p → H' p = some (.lst xs) → DDs K Z' xs ds → D.rt (.ref p) H'
  | .bk e => ∀ σ' Z' H', Rel K F Z' H' σ' e → Same Z Z' → D.bk σ' H'
  | .ct e => ∀ σ' Z' H', Rel K F Z' H' σ' e → Same Z Z' → D.ct σ' H'
  | .ex c a d e => ∀ v p σ' Z' H', Rel K F Z' H' σ' e → Same Z Z' → Z' p = none → F.G p = none → ¬ F.P p → H' p = some (.xd [(a, v)]) → DD K Z' v d → F.W c (some p) σ' H'
theorem Fini.mono {K : PySem.W.Frag} {F : Fm} {Z Z1 : Hp} {D : Ends} {fl : DFlow} (h : Fini K F Z D fl) (s : Same Z Z1) : Fini K F Z1 D fl := by
  cases fl with
  | nx e => exact fun σ' Z' H' r z => h σ' Z' H' r (s.trans z)
  | rt d e => exact fun v σ' Z' H' r z => h v σ' Z' H' r (s.trans z)
  | rn d e => exact fun p xs σ' Z' H' r z => h p xs σ' Z' H' r (s.trans z)
  | bk e => exact fun σ' Z' H' r z => h σ' Z' H' r (s.trans z)
  | ct e => exact fun σ' Z' H' r z => h σ' Z' H' r (s.trans z)
  | ex c a d e => exact fun v p σ' Z' H' r z => h v p σ' Z' H' r (s.trans z)
def tDS (K : PySem.W.Frag) (F : Fm) (f : DEnv → Option DFlow) : TS := fun D σ H => ∃ Z env fl, Rel K F Z H σ env ∧ f env = some fl ∧ Fini K F Z D fl
def PDS (X : Cx) (F : Fm) (s : Stmt) (f : DEnv → Option DFlow) : Prop := PS X s (tDS X.K F f)
def PDSs (X : Cx) (F : Fm) (s : List Stmt) (f : DEnv → Option DFlow) : Prop := PSs X s (tDS X.K F f)
section
variable {X : Cx} {F : Fm} {a b c e tg iter : Expr} {es : List Expr} {s : Stmt} {ss s2 : List Stmt} {pos p pn : Pos} {x y : Str} {f g : DEnv → Option (PyData × DEnv)} {fa fn : DEnv → Option (List PyData × DEnv)} {ft : DEnv → Option (Bool × DEnv)} {h1 h2 : DEnv → Option DFlow}
def sNil (env : DEnv) : Option DFlow := some (.nx env)
def sSeq (f g : DEnv → Option DFlow) (env : DEnv) : Option DFlow := (f env).bind fun fl => match fl with
  | .nx e => g e
  | fl => some fl
theorem dss_nil : PDSs X F [] sNil := pss_imp pss_nil fun D σ H h => by
  obtain ⟨Z, env, fl, r, e, q⟩ := h
  cases e
  exact q σ Z H r (Same.refl Z)
theorem dss_cons (ha : PDS X F s h1) (hb : PDSs X F ss h2) : PDSs X F (s :: ss) (sSeq h1 h2) := pss_imp (pss_cons ha hb) fun D σ H h => by
  obtain ⟨Z, env, fl, r, e, q⟩ := h
  obtain ⟨f1, e1, e⟩ := bnd e
  refine ⟨Z, env, f1, r, e1, ?_⟩
  cases f1 with
  | nx e0 => exact fun σ' Z' H' r' s' => ⟨Z', e0, fl, r', e, q.mono s'⟩
  | rt d e0 => cases e; exact q
  | rn d e0 => cases e; exact q
  | bk e0 => cases e; exact q
  | ct e0 => cases e; exact q
  | ex c a d e0 => cases e; exact q
theorem dss_one (ha : PDS X F s h1) : PDSs X F [s] h1 := pss_one ha
theorem ds_pass : PDS X F (.Pass pos) sNil := ps_imp ps_pass fun D σ H h => by
  obtain ⟨Z, env, fl, r, e, q⟩ := h
  cases e
  exact q σ Z H r (Same.refl Z)
def sNone (_ : DEnv) : Option DFlow := none
theorem ds_never : PDS X F s sNone := ps_imp ps_never fun D σ H h => by
  obtain ⟨Z, env, fl, r, e, q⟩ := h
  cases e
def sBk (env : DEnv) : Option DFlow := some (.bk env)
def sCt (env : DEnv) : Option DFlow := some (.ct env)
theorem ds_break : PDS X F (.Break pos) sBk := ps_imp ps_break fun D σ H h => by
  obtain ⟨Z, env, fl, r, e, q⟩ := h
  cases e
  exact q σ Z H r (Same.refl Z)
theorem ds_continue : PDS X F (.Continue pos) sCt := ps_imp ps_continue fun D σ H h => by
  obtain ⟨Z, env, fl, r, e, q⟩ := h
  cases e
  exact q σ Z H r (Same.refl Z)
def sExpr (f : DEnv → Option (PyData × DEnv)) (env : DEnv) : Option DFlow := (f env).map fun x => .nx x.2
theorem ds_expr (ha : PD X F e f) (hs : swapsWith e none pos.line X.env = pure false := by rfl) : PDS X F (.Expr e pos) (sExpr f) := ps_imp (ps_expr ha hs) fun D σ H h => by
  obtain ⟨Z, env, fl, r, e, q⟩ := h
  obtain ⟨⟨d, e1⟩, h1, h⟩ := mpd e
  subst h
  exact ⟨Z, env, d, e1, r, h1, fun v Z' H' r' s' _ => q σ Z' H' r' s'.z⟩
def sRet (f : DEnv → Option (PyData × DEnv)) (env : DEnv) : Option DFlow := (f env).map fun x => .rt x.1 x.2
theorem ds_ret (ha : PD X F e f) : PDS X F (.Return (some e) pos) (sRet f) := ps_imp (ps_ret ha) fun D σ H h => by
  obtain ⟨Z, env, fl, r, e, q⟩ := h
  obtain ⟨⟨d, e1⟩, h1, h⟩ := mpd e
  subst h
  exact ⟨Z, env, d, e1, r, h1, fun v Z' H' r' s' dd => q v σ Z' H' r' s'.z dd⟩
def sRetN (f : DEnv → Option (List PyData × DEnv)) (env : DEnv) : Option DFlow := (f env).map fun x => .rn x.1 x.2
theorem ds_retN (ha : PN X F e fn) : PDS X F (.Return (some e) pos) (sRetN fn) := ps_imp (ps_ret ha) fun D σ H h => by
  obtain ⟨Z, env, fl, r, e, q⟩ := h
  obtain ⟨⟨d, e1⟩, h1, h⟩ := mpd e
  subst h
  exact ⟨Z, env, d, e1, r, h1, fun p xs Z' H' r' s' h0 hz hp dd => q p xs σ Z' H' r' s'.z hz (r.gh.free h0) (fun z => (r.pp p z).1 h0) hp dd⟩
def sRet0 (env : DEnv) : Option DFlow := some (.rt .none env)
theorem ds_ret0 : PDS X F (.Return none pos) sRet0 := ps_imp ps_retN fun D σ H h => by
  obtain ⟨Z, env, fl, r, e, q⟩ := h
  cases e
  exact q .non σ Z H r (Same.refl Z) .non
def sIf (ft : DEnv → Option (Bool × DEnv)) (h1 h2 : DEnv → Option DFlow) (env : DEnv) : Option DFlow := (ft env).bind fun x => if x.1 then h1 x.2 else h2 x.2
theorem ds_if (hc : PDT X F c ft) (ha : PDSs X F ss h1) (hb : PDSs X F s2 h2) : PDS X F (.If c ss s2 pos) (sIf ft h1 h2) := ps_imp (ps_if hc ha hb) fun D σ H h => by
  obtain ⟨Z, env, fl, r, e, q⟩ := h
  obtain ⟨⟨k, e1⟩, h1, h⟩ := bnd e
  refine ⟨Z, env, k, e1, r, h1, fun Z1 H1 r1 s1 => ?_⟩
  cases k with
  | true => exact iteT ⟨Z1, e1, fl, r1, h, q.mono s1.z⟩
  | false => exact iteF ⟨Z1, e1, fl, r1, h, q.mono s1.z⟩
def sSet (i : Nat) (f : DEnv → Option (PyData × DEnv)) (env : DEnv) : Option DFlow := (f env).map fun x => .nx (x.2.set i (some (.fr x.1)))
theorem ds_set (i : Nat) {pos' : Pos} (ha : PD X F e f) (hN : X.N.Nodup) (hi : X.N[i]? = some x := by rfl) (hx : Loc X.env.scope x := by first | exact Or.inl rfl | exact Or.inr rfl) (hs : swapsWith e (some (.Name x pos')) pos.line X.env = pure false := by rfl)
    (hf : X.fn x = true ∨ X.env.scope.names.lookup x = some .local := by first | exact .inl rfl | exact .inr rfl | assumption) : PDS X F (.Assign [.Name x pos'] e pos) (sSet i f) := ps_imp (ps_set hN hi hx ha hs hf) fun D σ H h => by
  obtain ⟨Z, env, fl, r, e, q⟩ := h
  obtain ⟨⟨d, e1⟩, h1, h⟩ := mpd e
  subst h
  exact ⟨Z, env, d, e1, r, h1, fun v Z' H' r' s' dd => q _ Z' H' (r'.store i dd) s'.z⟩
def sSetN (i : Nat) (f : DEnv → Option (List PyData × DEnv)) (env : DEnv) : Option DFlow := (f env).map fun x => .nx (x.2.set i (some (.ow x.1)))
theorem ds_setN (i : Nat) {pos' : Pos} (ha : PN X F e fn) (hN : X.N.Nodup) (hi : X.N[i]? = some x := by rfl) (hx : Loc X.env.scope x := by first | exact Or.inl rfl | exact Or.inr rfl) (hs : swapsWith e (some (.Name x pos')) pos.line X.env = pure false := by rfl)
    (hf : X.fn x = true ∨ X.env.scope.names.lookup x = some .local := by first | exact .inl rfl | exact .inr rfl | assumption) : PDS X F (.Assign [.Name x pos'] e pos) (sSetN i fn) := ps_imp (ps_set hN hi hx ha hs hf) fun D σ H h => by
  obtain ⟨Z, env, fl, r, e, q⟩ := h
  obtain ⟨⟨d, e1⟩, h1, h⟩ := mpd e
  subst h
  exact ⟨Z, env, d, e1, r, h1, fun p xs Z' H' r' s' h0 hz hp dd => q _ Z' H' (r'.storeN i (s'.fre (fre_new r h0)) (fun z => (r.pp p z).1 h0) (r.gh.free h0) hz hp dd) s'.z⟩
/-- a, b = two new lists; a new list and data .. -/
def sPar (i j : Nat) (fa : DEnv → Option (List PyData × DEnv)) (env : DEnv) : Option DFlow := (fa env).bind fun x => match x.1 with
  | [u, v] => some (.nx ((x.2.set i (some (.fr u))).set j (some (.fr v))))
  | _ => none
theorem ds_par (i j : Nat) (ha : PS X s (tPar i j (tDA X.K F fa))) : PDS X F s (sPar i j fa) := ps_imp ha fun D σ H h => by
  obtain ⟨Z, env, fl, r, e, q⟩ := h
  obtain ⟨⟨d, e1⟩, h1, h⟩ := bnd e
  match d, h, h1 with
  | [u, v], h, h1 =>
    cases h
    refine ⟨Z, env, [u, v], e1, r, h1, fun vs Z' H' r' s' dd => ?_⟩
    cases dd with
    | cons d1 dr =>
      cases dr with
      | cons d2 dn =>
        cases dn
        exact ⟨_, _, rfl, q _ Z' H' ((r'.store i d1).store j d2) s'.z⟩
/-- both sides' lists are new and owned -/
def sParN (i j : Nat) (f g : DEnv → Option (List PyData × DEnv)) (env : DEnv) : Option DFlow := (f env).bind fun x => (g x.2).map fun y => .nx ((y.2.set i (some (.ow x.1))).set j (some (.ow y.1)))
theorem ds_parN (i j : Nat) {gn : DEnv → Option (List PyData × DEnv)} (hij : i ≠ j) (ha : PS X s (tPar i j (tCons (tDN X.K F fn) (tCons (tDN X.K F gn) tNil)))) : PDS X F s (sParN i j fn gn) := ps_imp ha fun D σ H h => by
  obtain ⟨Z, env, fl, r, e, q⟩ := h
  obtain ⟨⟨d, e1⟩, h1, h⟩ := bnd e
  obtain ⟨⟨d2, e2⟩, h2, h⟩ := mpd h
  subst h
  refine ⟨Z, env, d, e1, r, h1, fun p xs Z1 H1 r1 s1 h0 hz hp dd => ⟨Z1, e1, d2, e2, r1, h2, fun p2 xs2 Z2 H2 r2 s2 h02 hz2 hp2 dd2 => ⟨_, _, rfl, ?_⟩⟩⟩
  have fr1 : Fre σ e1 p := s1.fre (fre_new r h0)
  have hp' : H2 p = some (.lst xs) := s2.h p _ hp nt_lst fr1
  have zp' : Z2 p = none := by
    cases hh : Z2 p with
    | none => rfl
    | some o => exact absurd fr1 (s2.n p (by rw [hh]; simp) hz (by rw [hp]; simp))
  have np : ¬ F.P p := fun z => (r.pp p z).1 h0
  have ng : F.G p = none := r.gh.free h0
  have np2 : ¬ F.P p2 := fun z => (r1.pp p2 z).1 h02
  have ng2 : F.G p2 = none := r1.gh.free h02
  have hpp : p2 ≠ p := fun z => by rw [z, hp] at h02; cases h02
  have ra := r2.storeN i (s2.fre fr1) np ng zp' hp' (DDsm dd s2.z)
  have fr2 : Fre σ e2 p2 := s2.fre (fre_new r1 h02)
  refine q _ Z2 H2 (ra.storeN j ?_ np2 ng2 hz2 hp2 dd2) (s1.z.trans s2.z)
  intro k dv ek ok sk
  rcases get_set_some ek with ⟨rfl, ex⟩ | ⟨hne, ex⟩
  · rcases set_get_some sk with ⟨_, sx⟩ | ⟨hh, _⟩
    · cases sx; exact hpp rfl
    · exact hh rfl
  · rw [List.getElem?_set_ne (fun z => hne z.symm)] at sk
    exact fr2 k dv ex ok sk
/-- xs.append(e) -/
def sApp (j : Nat) (f : DEnv → Option (PyData × DEnv)) (env : DEnv) : Option DFlow :=
  (rdO j env).bind fun _ => (f env).bind fun x => (rdO j x.2).bind fun es => if es.length < lim then some (.nx (wrO j (es ++ [x.1]) x.2)) else none
theorem ds_append (j : Nat) (ha : PD X F e f) (hN : X.N[j]? = some y := by rfl) (hv : Vis X.env.scope y := by first | exact Or.inl rfl | exact Or.inr (Or.inl rfl) | exact Or.inr (Or.inr rfl)) (hd : (y == ("__debug__" : Str)) = false := by decide)
    (hcd : (y == ("__classdict__" : Str)) = false := by decide) {cpos : Pos}
    (hfew : ((backTo cpos (starEach [e] X.env)).all (fun x => !x.1) && (backToKw cpos (keywordEach [] X.env)).all (fun x => x.1.isSome)
      && decide ([e].length + ([] : List Keyword).length + (if ([] : List Keyword).isEmpty then 0 else 1) < 30)) = true := by rfl)
    (hline : (p.endLine == cpos.line) = true := by rfl) (hs : starEach [e] X.env = (false, eval e X.env) :: starEach [] X.env := by rfl) (hplain : (backTo cpos (starEach [] X.env)).any (·.1) = false := by rfl)
    (hsw : swapsWith (.Call (.Attribute (.Name y pn) "append" p) [e] [] cpos) none pos.line X.env = pure false := by rfl) :
    PDS X F (.Expr (.Call (.Attribute (.Name y pn) "append" p) [e] [] cpos) pos) (sApp j f) :=
  ps_imp (ps_expr (pe_bm PySem.F.plainAttrs_list PySem.F.slot_list_append PySem.F.type_list_append mt_append (pe_var hN hv hd hcd) (pa_cons ha pa_nil hs) rfl hfew hline hs hplain) hsw) fun D σ H h => by
  obtain ⟨Z, env, fl, r, e, q⟩ := h
  obtain ⟨z0, h0, e⟩ := bnd e
  obtain ⟨⟨d, e1⟩, h1, h⟩ := bnd e
  obtain ⟨zs, h2, h⟩ := bnd h
  dsimp only at h
  split at h
  case isFalse => cases h
  rename_i hz
  cases h
  obtain ⟨p, xs, sj, _, hp0, _, _⟩ := r.poke h0
  refine ⟨.ref p, sj, own_ty hp0, Z, env, d, e1, r, h1, fun v Z1 H1 r1 s1 d1 => ?_⟩
  obtain ⟨p', xs', sj', zp, hp, dp, fin⟩ := r1.poke h2
  rw [sj] at sj'
  cases sj'
  refine ⟨p, xs', v, rfl, rfl, hp, by rw [dds_len dp]; exact Nat.lt_of_lt_of_le hz lim_le, ?_⟩
  obtain ⟨b1, b2⟩ := fin Z1 (upd H1 p (.lst (xs' ++ [v]))) _ (zs ++ [d]) (pok_upd r1.zh zp hp _) upd_same (dds_app dp (.cons d1 .nil))
  exact q σ Z1 _ b1 (s1.trans b2).z

/-! ### targets -/
def tDG (K : PySem.W.Frag) (F : Fm) (g : PyData → DEnv → Option DEnv) : TG := fun v σ H Q => ∃ Z env d env', Rel K F Z H σ env ∧ DD K Z v d ∧ g d env = some env' ∧ ∀ σ' Z' H', Rel K F Z' H' σ' env' → Same Z Z' → Q σ' H'
def tDGs (K : PySem.W.Frag) (F : Fm) (g : List PyData → DEnv → Option DEnv) : TGs := fun vs σ H Q => ∃ Z env ds env', Rel K F Z H σ env ∧ DDs K Z vs ds ∧ g ds env = some env' ∧ ∀ σ' Z' H', Rel K F Z' H' σ' env' → Same Z Z' → Q σ' H'
def PDG (X : Cx) (F : Fm) (e : Expr) (g : PyData → DEnv → Option DEnv) : Prop := PG X e (tDG X.K F g)
def PDGs (X : Cx) (F : Fm) (es : List Expr) (g : List PyData → DEnv → Option DEnv) : Prop := PGs X es (tDGs X.K F g)
theorem pg_imp {X : Cx} {e : Expr} {t t' : TG} (h : PG X e t) (w : ∀ v σ H Q, t' v σ H Q → t v σ H Q) : PG X e t' := ⟨fun pins s σ H v u Q I r q => h.run pins s σ H v u Q I r (w v σ H Q q)⟩
theorem pgs_imp {X : Cx} {e : List Expr} {t t' : TGs} (h : PGs X e t) (w : ∀ v σ H Q, t' v σ H Q → t v σ H Q) : PGs X e t' := ⟨fun pins s σ H v u Q I r q => h.run pins s σ H v u Q I r (w v σ H Q q)⟩
def gSet (i : Nat) (d : PyData) (env : DEnv) : Option DEnv := some (env.set i (some (.fr d)))
theorem dg_name (i : Nat) (hN : X.N.Nodup) (hi : X.N[i]? = some x := by rfl) (hx : Loc X.env.scope x := by first | exact Or.inl rfl | exact Or.inr rfl) (hf : X.fn x = true ∨ X.env.scope.names.lookup x = some .local := by first | exact .inl rfl | exact .inr rfl | assumption) : PDG X F (.Name x pos) (gSet i) :=
  pg_imp (pg_name hN hi hx hf) fun v σ H Q h => by
    obtain ⟨Z, env, d, env', r, hd, e, q⟩ := h
    cases e
    exact q _ Z H (r.store i hd) (Same.refl Z)
def gSubD (j : Nat) (f : DEnv → Option (PyData × DEnv)) (d : PyData) (env : DEnv) : Option DEnv :=
  (rdO j env).bind fun _ => (f env).bind fun x => (rdO j x.2).bind fun es => match x.1 with
    | .int i => (ixN es.length i).map fun k => wrO j (es.set k d) x.2
    | _ => none
theorem dg_sub (j : Nat) {i : Expr} (ha : PD X F i f) (hN : X.N[j]? = some y := by rfl) (hv : Vis X.env.scope y := by first | exact Or.inl rfl | exact Or.inr (Or.inl rfl) | exact Or.inr (Or.inr rfl)) (hd : (y == ("__debug__" : Str)) = false := by decide)
    (hcd : (y == ("__classdict__" : Str)) = false := by decide)
    (hsub : ∀ v, assign (.Subscript (.Name y pn) i pos) X.env v = (do
      let ov ← holding [v] (eval (.Name y pn) X.env)
      let iv ← holding [v, ov] (eval i X.env)
      standAt pos
      holding [v, ov, iv] (setItem ov iv v)
      release [v, ov, iv] []) := by intro _; rfl) : PDG X F (.Subscript (.Name y pn) i pos) (gSubD j f) :=
  pg_imp (pg_sub (pe_var hN hv hd hcd) ha set_list hsub) fun v σ H Q h => by
    obtain ⟨Z, env, d, env', r, hd, e, q⟩ := h
    obtain ⟨z0, h0, e⟩ := bnd e
    obtain ⟨⟨u, e1⟩, h1, h⟩ := bnd e
    obtain ⟨zs, h2, h⟩ := bnd h
    cases u with
    | int i =>
      obtain ⟨k, h3, h⟩ := mpd h
      subst h
      obtain ⟨p, xs, sj, _, hp0, _, _⟩ := r.poke h0
      refine ⟨.ref p, sj, Z, env, .int i, e1, r, h1, fun w Z1 H1 r1 s1 d1 => ?_⟩
      obtain ⟨p', xs', sj', zp, hp, dp, fin⟩ := r1.poke h2
      rw [sj] at sj'
      cases sj'
      cases d1.int_inv
      refine ⟨p, xs', i, k, rfl, rfl, hp, by rw [dds_len dp]; exact h3, ?_⟩
      obtain ⟨b1, b2⟩ := fin Z1 (upd H1 p (.lst (xs'.set k v))) _ (zs.set k d) (pok_upd r1.zh zp hp _) upd_same (dds_set (DDm hd s1.z) k dp)
      exact q σ Z1 _ b1 (s1.trans b2).z
    | _ => cases h
def gsNil (ds : List PyData) (env : DEnv) : Option DEnv := if ds.isEmpty then some env else none
def gsCons (g : PyData → DEnv → Option DEnv) (gs : List PyData → DEnv → Option DEnv) (ds : List PyData) (env : DEnv) : Option DEnv := match ds with
  | d :: r => (g d env).bind fun e => gs r e
  | _ => none
theorem dgs_nil : PDGs X F [] gsNil := pgs_imp pgs_nil fun v σ H Q h => by
  obtain ⟨Z, env, d, env', r, hd, e, q⟩ := h
  cases hd with
  | nil => cases e; exact ⟨rfl, q σ Z H r (Same.refl Z)⟩
  | cons _ _ => cases e
theorem dgs_cons {g : PyData → DEnv → Option DEnv} {gs : List PyData → DEnv → Option DEnv} (ha : PDG X F e g) (hb : PDGs X F es gs) (hs : (assignEach (e :: es) X.env).map (·.2) = assign e X.env :: (assignEach es X.env).map (·.2) := by rfl) : PDGs X F (e :: es) (gsCons g gs) :=
  pgs_imp (pgs_cons ha hb hs) fun v σ H Q h => by
    obtain ⟨Z, env, d, env', r, hd, e, q⟩ := h
    cases hd with
    | nil => cases e
    | cons d1 dr =>
      obtain ⟨e1, h1, h⟩ := bnd e
      exact ⟨_, _, rfl, Z, env, _, e1, r, d1, h1, fun σ' Z' H' r' s' => ⟨Z', e1, _, env', r', DDsm dr s', h, fun σ2 Z2 H2 r2 s2 => q σ2 Z2 H2 r2 (s'.trans s2)⟩⟩
def gTupD (n : Nat) (gs : List PyData → DEnv → Option DEnv) (d : PyData) (env : DEnv) : Option DEnv := match d with
  | .tuple ds => if ds.length = n then gs ds env else none
  | _ => none
theorem dg_tup {n kk : Nat} {gs : List PyData → DEnv → Option DEnv} (h : PDGs X F es gs) (hc : X.calm = true := by rfl) (hn : (assignEach es X.env).length = n := by rfl) (hst : (assignEach es X.env).findIdx? (·.1) = none := by rfl) : PDG X F (.Tuple es kk pos) (gTupD n gs) :=
  pg_imp (pg_tup hc h hn hst) fun v σ H Q h => by
    obtain ⟨Z, env, d, env', r, hd, e, q⟩ := h
    cases hd with
    | @tup a xs ds hs ha =>
      change (if ds.length = n then gs ds env else none) = some env' at e
      by_cases hl : ds.length = n
      · rw [if_pos hl] at e
        exact ⟨a, xs, rfl, same_sqT r.zh hs, (dds_len ha).trans hl, Z, env, ds, env', r, ha, e, q⟩
      · rw [if_neg hl] at e; cases e
    | _ => cases e
def sAsg (f : DEnv → Option (PyData × DEnv)) (g : PyData → DEnv → Option DEnv) (env : DEnv) : Option DFlow := (f env).bind fun x => (g x.1 x.2).map .nx
theorem ds_asg {g : PyData → DEnv → Option DEnv} (ha : PD X F e f) (hg : PDG X F tg g) (hs : swapsWithSole [tg] e pos.line X.env = pure false := by rfl) (hw : swappedStores [tg] e X.env = pure none := by rfl)
    (h1 : (assignEach [tg] X.env).map (·.2) = [assign tg X.env] := by rfl) : PDS X F (.Assign [tg] e pos) (sAsg f g) := ps_imp (ps_asg ha hg hs hw h1) fun D σ H h => by
  obtain ⟨Z, env, fl, r, e, q⟩ := h
  obtain ⟨⟨d, e1⟩, h1, h⟩ := bnd e
  obtain ⟨e2, h2, h⟩ := mpd h
  subst h
  exact ⟨Z, env, d, e1, r, h1, fun v Z1 H1 r1 s1 d1 => ⟨Z1, e1, d, e2, r1, d1, h2, fun σ' Z' H' r' s' => q σ' Z' H' r' (s1.z.trans s')⟩⟩
end
end DL
end L2

set_option Elab.async false
set_option maxRecDepth 100000
set_option maxHeartbeats 4000000
set_option autoImplicit false
namespace L2
namespace DL
open PySem PySem.Spec PyProof.Rows
variable [Lab]
/-! ### what is walked, as data -/
def WalkD (K : PySem.W.Frag) (J : It) (Z : Hp) (ds : List PyData) : Prop := ∃ (G : Hp → Prop) (Y : Nat → Hp → V → Hp → Prop), Walk J ds.length G Y ∧ (∀ H, Same Z H → G H) ∧
  ∀ (i : Nat) (H : Hp) (x : V) (H' Zc : Hp), i < ds.length → Y i H x H' → Same Z Zc → Same Zc H → ∃ Zn d, Grow Zc H Zn H' ∧ ds[i]? = some d ∧ DD K Zn x d
theorem WalkD.mono {K : PySem.W.Frag} {J : It} {Z Z' : Hp} {ds : List PyData} (w : WalkD K J Z ds) (s : Same Z Z') : WalkD K J Z' ds := by
  obtain ⟨G, Y, a, b, c⟩ := w
  exact ⟨G, Y, a, fun H h => b H (s.trans h), fun i H x H' Zc hi y s1 s2 => c i H x H' Zc hi y (s.trans s1) s2⟩
theorem wd_list {K : PySem.W.Frag} {Z : Hp} {a : Addr} {xs : List V} {ds : List PyData} (h : LsR K Z a xs) (hd : DDs K Z xs ds) : WalkD K (Itl K a) Z ds := by
  refine ⟨_, _, (dds_len hd) ▸ walk_list (K := K) (a := a) (xs := xs), fun H s => (same_ls s h).sq, fun i H x H' Zc hi y s1 s2 => ?_⟩
  obtain ⟨rfl, y⟩ := y
  obtain ⟨d, e1, e2⟩ := dds_get' hd y
  exact ⟨Zc, d, Grow.refl s2, e1, DDm e2 s1⟩
theorem wd_tup {K : PySem.W.Frag} {Z : Hp} {a : Addr} {xs : List V} {ds : List PyData} (h : SqT K Z a xs) (hd : DDs K Z xs ds) : WalkD K (Itt K a) Z ds := by
  refine ⟨_, _, (dds_len hd) ▸ walk_tup (K := K) (a := a) (xs := xs), fun H s => same_sqT s h, fun i H x H' Zc hi y s1 s2 => ?_⟩
  obtain ⟨rfl, y⟩ := y
  obtain ⟨d, e1, e2⟩ := dds_get' hd y
  exact ⟨Zc, d, Grow.refl s2, e1, DDm e2 s1⟩
def rangeD (lo : Int) (n : Nat) : List PyData := (List.range n).map fun i => .int (lo + (i : Nat))
theorem rangeD_len (lo : Int) (n : Nat) : (rangeD lo n).length = n := by unfold rangeD; rw [List.length_map, List.length_range]
theorem rangeD_get (lo : Int) {n i : Nat} (h : i < n) : (rangeD lo n)[i]? = some (.int (lo + (i : Nat))) := by
  unfold rangeD
  rw [List.getElem?_map, List.getElem?_range h]
  rfl
theorem wd_range {K : PySem.W.Frag} {Z : Hp} (lo : Int) (n : Nat) : WalkD K (Itr lo n) Z (rangeD lo n) := by
  refine ⟨fun _ => True, YFn fun i => .int (lo + (i : Nat)), by rw [rangeD_len]; exact walk_range, fun _ _ => trivial, fun i H x H' Zc hi y s1 s2 => ?_⟩
  rw [rangeD_len] at hi
  obtain ⟨rfl, rfl⟩ := y
  exact ⟨Zc, _, Grow.refl s2, rangeD_get lo hi, .int _⟩
def enumD (ds : List PyData) : List PyData := (rangeD 0 ds.length).zipWith (fun a b => .tuple [a, b]) ds
theorem enumD_len (ds : List PyData) : (enumD ds).length = ds.length := by unfold enumD; rw [List.length_zipWith, rangeD_len]; omega
theorem enumD_get {ds : List PyData} {i : Nat} {d : PyData} (h : ds[i]? = some d) : (enumD ds)[i]? = some (.tuple [.int (i : Nat), d]) := by
  obtain ⟨hl, _⟩ := List.getElem?_eq_some_iff.mp h
  unfold enumD
  rw [List.getElem?_zipWith, rangeD_get 0 hl, h]
  simp
theorem wd_enum {K : PySem.W.Frag} {Z : Hp} {a : Addr} {xs : List V} {ds : List PyData} (h : LsR K Z a xs) (hd : DDs K Z xs ds) : WalkD K (Ite K a) Z (enumD ds) := by
  refine ⟨_, _, ((enumD_len ds).trans (dds_len hd).symm) ▸ walk_enum (K := K) (a := a) (xs := xs), fun H s => (same_ls s h).sq, fun i H x H' Zc hi y s1 s2 => ?_⟩
  obtain ⟨T, u, v, rfl, nT, rfl, e1, e2⟩ := y
  cases e1
  obtain ⟨d, e3, e4⟩ := dds_get' hd e2
  exact ⟨_, _, grow_new s2 nT _, enumD_get e3, new_tup s2 nT (.cons (.int _) (.cons (DDm e4 s1) .nil))⟩
def tDI (K : PySem.W.Frag) (F : Fm) (f : DEnv → Option (List PyData × DEnv)) : TI := fun σ H R => ∃ Z env ds env', Rel K F Z H σ env ∧ f env = some (ds, env') ∧ ∀ J Z' H', Rel K F Z' H' σ env' → Stp σ env Z H env' Z' H' → WalkD K J Z' ds → R J H'
def PDI (X : Cx) (F : Fm) (tg iter : Expr) (f : DEnv → Option (List PyData × DEnv)) : Prop := PI X tg iter (tDI X.K F f)
theorem pi_imp {X : Cx} {tg iter : Expr} {t t' : TI} (h : PI X tg iter t) (w : ∀ σ H Q, t' σ H Q → t σ H Q) : PI X tg iter t' := ⟨fun pins s σ H R I q => h.run pins s σ H R I (w σ H R q)⟩
theorem pi_orr {X : Cx} {tg iter : Expr} {t t' : TI} (h : PI X tg iter t) (h' : PI X tg iter t') : PI X tg iter (fun σ H R => t σ H R ∨ t' σ H R) := ⟨fun pins s σ H R I q => q.elim (h.run pins s σ H R I) (h'.run pins s σ H R I)⟩
section
variable {X : Cx} {F : Fm} {a b c e tg iter : Expr} {es : List Expr} {ss : List Stmt} {pos p pn : Pos} {x y : Str} {f : DEnv → Option (PyData × DEnv)} {fa fi : DEnv → Option (List PyData × DEnv)} {ft : DEnv → Option (Bool × DEnv)}
def seqD : PyData → Option (List PyData)
  | .list ds => some ds
  | .tuple ds => some ds
  | _ => none
def iSeq (f : DEnv → Option (PyData × DEnv)) (env : DEnv) : Option (List PyData × DEnv) := (f env).bind fun x => (seqD x.1).map fun ds => (ds, x.2)
theorem tD_choose {K : PySem.W.Frag} {σ : St} {H : Hp} {Z : Hp} {env : DEnv} {d : PyData} {env' : DEnv} {R : V → Hp → Prop} (r : Rel K F Z H σ env) (h : f env = some (d, env')) (q : ∀ v Z' H', Rel K F Z' H' σ env' → Stp σ env Z H env' Z' H' → DD K Z' v d → R v H') : tD K F f σ H R := ⟨Z, env, d, env', r, h, q⟩
theorem di_seq (ha : PD X F e f) : PDI X F tg e (iSeq f) := pi_imp (pi_orr (pi_list ha) (pi_tup ha)) fun σ H Q h => by
  obtain ⟨Z, env, ds, env', r, e, q⟩ := h
  obtain ⟨⟨d, e1⟩, h1, h⟩ := bnd e
  obtain ⟨ds', h2, h⟩ := mpd h
  cases h
  cases d with
  | list ds =>
    cases h2
    refine .inl (tD_choose r h1 fun v Z1 H1 r1 s1 d1 => ?_)
    cases d1 with
    | @lst a xs _ hr hd => exact ⟨a, rfl, ⟨xs, (same_ls r1.zh hr).sq⟩, q _ Z1 H1 r1 s1 (wd_list hr hd)⟩
  | tuple ds =>
    cases h2
    refine .inr (tD_choose r h1 fun v Z1 H1 r1 s1 d1 => ?_)
    cases d1 with
    | @tup a xs _ hr hd => exact ⟨a, rfl, ⟨xs, same_sqT r1.zh hr⟩, q _ Z1 H1 r1 s1 (wd_tup hr hd)⟩
  | _ => cases h2
def rng1 : List PyData → Option (List PyData)
  | [.int j] => if j ≤ 1000000 ∧ -1000000 ≤ j then some (rangeD 0 j.toNat) else none
  | _ => none
def rng2 : List PyData → Option (List PyData)
  | [.int i, .int j] => if j ≤ 1000000 ∧ -1000000 ≤ j ∧ i ≤ 1000000 ∧ -1000000 ≤ i then some (rangeD i (j - i).toNat) else none
  | _ => none
def iArg (o : List PyData → Option (List PyData)) (fa : DEnv → Option (List PyData × DEnv)) (env : DEnv) : Option (List PyData × DEnv) := (fa env).bind fun x => (o x.1).map fun ds => (ds, x.2)
theorem di_range1 (hm : X.mg "range" = none) (ha : PDA X F [a] fa) (hg : Gl X "range" := by rfl) (hs : starEach [a] X.env = [(false, eval a X.env)] := by rfl) : PDI X F tg (.Call (.Name "range" p) [a] [] pos) (iArg rng1 fa) := pi_imp (pi_range1 hg hm ha hs) fun σ H Q h => by
  obtain ⟨Z, env, ds, env', r, e, q⟩ := h
  obtain ⟨⟨d, e1⟩, h1, h⟩ := bnd e
  obtain ⟨ds', h2, h⟩ := mpd h
  cases h
  match d, h1, h2 with
  | [.int j], h1, h2 =>
    change (if j ≤ 1000000 ∧ -1000000 ≤ j then some (rangeD 0 j.toNat) else none) = some ds at h2
    split at h2
    case isFalse => cases h2
    rename_i hj
    cases h2
    refine ⟨Z, env, _, e1, r, h1, fun vs Z1 H1 r1 s1 d1 => ?_⟩
    cases d1 with
    | cons d1 dn =>
      cases dn
      cases d1.int_inv
      exact ⟨j, rfl, by omega, by omega, q _ Z1 H1 r1 s1 (wd_range 0 _)⟩
theorem di_range2 (hm : X.mg "range" = none) (ha : PDA X F [a, b] fa) (hg : Gl X "range" := by rfl) (hs : starEach [a, b] X.env = [(false, eval a X.env), (false, eval b X.env)] := by rfl) (hs2 : starEach [b] X.env = [(false, eval b X.env)] := by rfl) :
    PDI X F tg (.Call (.Name "range" p) [a, b] [] pos) (iArg rng2 fa) := pi_imp (pi_range2 hg hm ha hs hs2) fun σ H Q h => by
  obtain ⟨Z, env, ds, env', r, e, q⟩ := h
  obtain ⟨⟨d, e1⟩, h1, h⟩ := bnd e
  obtain ⟨ds', h2, h⟩ := mpd h
  cases h
  match d, h1, h2 with
  | [.int i, .int j], h1, h2 =>
    change (if j ≤ 1000000 ∧ -1000000 ≤ j ∧ i ≤ 1000000 ∧ -1000000 ≤ i then some (rangeD i (j - i).toNat) else none) = some ds at h2
    split at h2
    case isFalse => cases h2
    rename_i hj
    cases h2
    refine ⟨Z, env, _, e1, r, h1, fun vs Z1 H1 r1 s1 d1 => ?_⟩
    cases d1 with
    | cons d1 dn =>
      cases dn with
      | cons d2 dn =>
        cases dn
        cases d1.int_inv
        cases d2.int_inv
        exact ⟨i, j, rfl, ⟨by omega, by omega, by omega, by omega⟩, q _ Z1 H1 r1 s1 (wd_range i _)⟩
def enumA : List PyData → Option (List PyData)
  | [.list ds] => some (enumD ds)
  | _ => none
theorem di_enum {elts : List Expr} {kk : Nat} {tpos : Pos} (hm : X.mg "enumerate" = none) (ha : PDA X F [e] fa) (hg : Gl X "enumerate" := by rfl) (hs : starEach [e] X.env = [(false, eval e X.env)] := by rfl) :
    PDI X F (.Tuple elts kk tpos) (.Call (.Name "enumerate" p) [e] [] pos) (iArg enumA fa) := pi_imp (pi_enum hg hm ha hs) fun σ H Q h => by
  obtain ⟨Z, env, ds, env', r, e, q⟩ := h
  obtain ⟨⟨d, e1⟩, h1, h⟩ := bnd e
  obtain ⟨ds', h2, h⟩ := mpd h
  cases h
  match d, h1, h2 with
  | [.list js], h1, h2 =>
    cases h2
    refine ⟨Z, env, _, e1, r, h1, fun vs Z1 H1 r1 s1 d1 => ?_⟩
    cases d1 with
    | cons d1 dn =>
      cases dn
      cases d1 with
      | @lst a xs _ hr hd => exact ⟨a, xs, rfl, (same_ls r1.zh hr).sq, q _ Z1 H1 r1 s1 (wd_enum hr hd)⟩

/-! ### for -/
def forD (g : PyData → DEnv → Option DEnv) (b : DEnv → Option DFlow) : List PyData → DEnv → Option DFlow
  | [], env => some (.nx env)
  | d :: ds, env => (g d env).bind fun e1 => (b e1).bind fun fl => match fl with
    | .nx e2 => forD g b ds e2
    | .ct e2 => forD g b ds e2
    | .bk e2 => some (.nx e2)
    | fl => some fl
def sFor (fi : DEnv → Option (List PyData × DEnv)) (g : PyData → DEnv → Option DEnv) (b : DEnv → Option DFlow) (env : DEnv) : Option DFlow := (fi env).bind fun x => forD g b x.1 x.2
theorem ds_for {g : PyData → DEnv → Option DEnv} {h1 : DEnv → Option DFlow} (hi : PDI X F tg iter fi) (hg : PDG X F tg g) (hb : PDSs X F ss h1) (hp : PassesOwn (model X.prog X.w) X.A X.env X.xe := by exact PassesOwn.never) (hc : X.calm = true := by rfl) (hs : ∀ x, foldedSetIterable iter X.env x = pure x := by intro _; rfl) :
    PDS X F (.For tg iter ss [] pos) (sFor fi g h1) := ps_imp (ps_for hp hc hi hg hb hs) fun D σ H h => by
  obtain ⟨Z, env, fl, r, e, q⟩ := h
  obtain ⟨⟨ds, e1⟩, e0, e⟩ := bnd e
  refine ⟨Z, env, ds, e1, r, e0, fun J Z1 H1 r1 s1 w => ?_⟩
  obtain ⟨G, Y, wk, hG, hY⟩ := w
  refine for_it wk (fun i σ' H' => ∃ Z' env', Same Z1 Z' ∧ Rel X.K F Z' H' σ' env' ∧ forD g h1 (ds.drop i) env' = some fl) ⟨Z1, e1, Same.refl _, r1, e⟩ ?_ ?_ ?_
  · rintro i σ' H' hi ⟨Z', env', s', r', _⟩
    exact hG H' (s'.trans r'.zh)
  · rintro i x σ' H' H2 hi ⟨Z', env', s', r', e'⟩ y
    obtain ⟨Zn, d, gr, hd, dd⟩ := hY i H' x H2 Z' hi y s' r'.zh
    have ed : ds.drop i = d :: ds.drop (i + 1) := by
      obtain ⟨hl, hx⟩ := List.getElem?_eq_some_iff.mp hd
      rw [← hx]
      exact List.drop_eq_getElem_cons hl
    rw [ed] at e'
    obtain ⟨e2, g2, e'⟩ := bnd e'
    obtain ⟨f2, b2, e'⟩ := bnd e'
    refine ⟨Zn, env', d, e2, r'.grow gr, dd, g2, fun σ2 Z2 H2 r2 s2 => ⟨Z2, e2, f2, r2, b2, ?_⟩⟩
    have sa : Same Z1 Z2 := (s'.trans gr.z).trans s2
    cases f2 with
    | nx e3 => exact fun σ3 Z3 H3 r3 s3 => ⟨Z3, e3, sa.trans s3, r3, e'⟩
    | ct e3 => exact fun σ3 Z3 H3 r3 s3 => ⟨Z3, e3, sa.trans s3, r3, e'⟩
    | bk e3 =>
      cases e'
      exact fun σ3 Z3 H3 r3 s3 => q σ3 Z3 H3 r3 ((s1.z.trans sa).trans s3)
    | rt d3 e3 =>
      cases e'
      exact fun v σ3 Z3 H3 r3 s3 => q v σ3 Z3 H3 r3 ((s1.z.trans sa).trans s3)
    | rn d3 e3 =>
      cases e'
      exact fun p xs σ3 Z3 H3 r3 s3 => q p xs σ3 Z3 H3 r3 ((s1.z.trans sa).trans s3)
    | ex c3 a3 d3 e3 =>
      cases e'
      exact fun v p σ3 Z3 H3 r3 s3 => q v p σ3 Z3 H3 r3 ((s1.z.trans sa).trans s3)
  · rintro σ' H' ⟨Z', env', s', r', e'⟩
    rw [List.drop_length] at e'
    cases e'
    exact q σ' Z' H' r' (s1.z.trans s')

/-! ### list comprehensions -/
def wipeE (env : DEnv) : List Nat → DEnv
  | [] => env
  | v :: vs => (wipeE env vs).set v none
theorem Rel.wipe {K : PySem.W.Frag} {Z H : Hp} {σ : St} {env : DEnv} (r : Rel K F Z H σ env) : ∀ vs : List Nat, Rel K F Z H (wipe σ vs) (wipeE env vs)
  | [] => r
  | v :: vs => (Rel.wipe r vs).drop v
theorem wipe_get (σ : St) : ∀ (vs : List Nat) (i : Nat), i ∉ vs → (wipe σ vs)[i]? = σ[i]?
  | [], _, _ => rfl
  | v :: vs, i, h => by
    rw [List.mem_cons, not_or] at h
    show ((L2.wipe σ vs).set v none)[i]? = σ[i]?
    rw [List.getElem?_set_ne (fun z => h.1 z.symm), wipe_get σ vs i h.2]
theorem wipe_in (σ : St) : ∀ (vs : List Nat) (i : Nat), i ∈ vs → i < σ.length → (wipe σ vs)[i]? = some none
  | v :: vs, i, h, hl => by
    show ((L2.wipe σ vs).set v none)[i]? = some none
    by_cases e : v = i
    · subst e
      exact List.getElem?_set_self (by rw [wipe_length]; exact hl)
    · rw [List.getElem?_set_ne e]
      rcases List.mem_cons.mp h with z | z
      · exact absurd z.symm e
      · exact wipe_in σ vs i z hl
theorem wipeE_in (env : DEnv) : ∀ (vs : List Nat) (i : Nat) (dv : DV), (wipeE env vs)[i]? = some (some dv) → i ∉ vs ∧ env[i]? = some (some dv)
  | [], i, dv, h => ⟨by simp, h⟩
  | v :: vs, i, dv, h => by
    rcases get_set_some h with ⟨_, z⟩ | ⟨hne, z⟩
    · cases z
    · obtain ⟨a, b⟩ := wipeE_in env vs i dv z
      exact ⟨by rw [List.mem_cons, not_or]; exact ⟨hne, a⟩, b⟩
theorem wipe_eq {σ τ : St} {vs : List Nat} (hl : τ.length = σ.length) (h : ∀ i, i ∉ vs → τ[i]? = σ[i]?) : wipe τ vs = wipe σ vs := by
  refine List.ext_getElem? fun i => ?_
  by_cases hi : i ∈ vs
  · by_cases hlt : i < σ.length
    · rw [wipe_in _ _ _ hi hlt, wipe_in _ _ _ hi (by omega)]
    · rw [List.getElem?_eq_none (by rw [wipe_length]; omega), List.getElem?_eq_none (by rw [wipe_length]; omega)]
  · rw [wipe_get _ _ _ hi, wipe_get _ _ _ hi, h i hi]
/-- back to the slots ahead of the wipe -/
theorem Rel.unwipe {K : PySem.W.Frag} {Z H : Hp} {σ : St} {env : DEnv} {vs : List Nat} (r : Rel K F Z H (L2.wipe σ vs) env) (h : ∀ (i : Nat) (dv : DV), env[i]? = some (some dv) → i ∉ vs) : Rel K F Z H σ env := by
  have eq : ∀ (i : Nat) (dv : DV), env[i]? = some (some dv) → (L2.wipe σ vs)[i]? = σ[i]? := fun i dv e => wipe_get σ vs i (h i dv e)
  refine ⟨r.z0, r.zh, r.gh, r.nw, r.pp, by rw [r.len, wipe_length], fun i dv e => ?_, fun i j di dj p ei ej oi oj si sj => r.inj i j di dj p ei ej oi oj ((eq i di ei).trans si) ((eq j dj ej).trans sj), r.tb⟩
  have s := r.sl i dv e
  have q := eq i dv e
  cases dv with
  | fr d => obtain ⟨v, a, b⟩ := s; exact ⟨v, q.symm.trans a, b⟩
  | ow ds => obtain ⟨p, xs, a, b⟩ := s; exact ⟨p, xs, q.symm.trans a, b⟩
  | rf ds => obtain ⟨p, xs, a, b⟩ := s; exact ⟨p, xs, q.symm.trans a, b⟩
  | dk ds => obtain ⟨p, o, xs, a, b⟩ := s; exact ⟨p, o, xs, q.symm.trans a, b⟩
/-- targets that are names: the slots ts alone change -/
structure TgOk (ts : List Nat) (σ : St) (env : DEnv) (σ' : St) (env' : DEnv) : Prop where
  s : ∀ i : Nat, i ∉ ts → σ'[i]? = σ[i]?
  l : σ'.length = σ.length
  o : ∀ (i : Nat) (dv : DV), env'[i]? = some (some dv) → ownish dv = true → i ∉ ts ∧ env[i]? = some (some dv)
def tGN (K : PySem.W.Frag) (F : Fm) (ts : List Nat) (g : PyData → DEnv → Option DEnv) : TG := fun v σ H Q => ∃ Z env d env', Rel K F Z H σ env ∧ DD K Z v d ∧ g d env = some env' ∧ ∀ σ', Rel K F Z H σ' env' → TgOk ts σ env σ' env' → Q σ' H
def tGNs (K : PySem.W.Frag) (F : Fm) (ts : List Nat) (g : List PyData → DEnv → Option DEnv) : TGs := fun vs σ H Q => ∃ Z env ds env', Rel K F Z H σ env ∧ DDs K Z vs ds ∧ g ds env = some env' ∧ ∀ σ', Rel K F Z H σ' env' → TgOk ts σ env σ' env' → Q σ' H
def PGN (X : Cx) (F : Fm) (e : Expr) (ts : List Nat) (g : PyData → DEnv → Option DEnv) : Prop := PG X e (tGN X.K F ts g)
def PGNs (X : Cx) (F : Fm) (e : List Expr) (ts : List Nat) (g : List PyData → DEnv → Option DEnv) : Prop := PGs X e (tGNs X.K F ts g)
theorem gn_name (i : Nat) (hN : X.N.Nodup) (hi : X.N[i]? = some x := by rfl) (hx : Loc X.env.scope x := by first | exact Or.inl rfl | exact Or.inr rfl) (hf : X.fn x = true ∨ X.env.scope.names.lookup x = some .local := by first | exact .inl rfl | exact .inr rfl | assumption) : PGN X F (.Name x pos) [i] (gSet i) :=
  pg_imp (pg_name hN hi hx hf) fun v σ H Q h => by
    obtain ⟨Z, env, d, env', r, hd, e, q⟩ := h
    cases e
    refine q _ (r.store i hd) ⟨fun j hj => List.getElem?_set_ne (fun z => hj (by rw [z]; simp)), List.length_set .., fun j dv e o => ?_⟩
    rcases get_set_some e with ⟨_, z⟩ | ⟨hne, z⟩
    · cases z; cases o
    · exact ⟨by simpa using hne, z⟩
theorem gns_nil : PGNs X F [] [] gsNil := pgs_imp pgs_nil fun v σ H Q h => by
  obtain ⟨Z, env, d, env', r, hd, e, q⟩ := h
  cases hd with
  | nil => cases e; exact ⟨rfl, q σ r ⟨fun _ _ => rfl, rfl, fun i dv e _ => ⟨by simp, e⟩⟩⟩
  | cons _ _ => cases e
theorem gns_cons {t1 t2 : List Nat} {g : PyData → DEnv → Option DEnv} {gs : List PyData → DEnv → Option DEnv} (ha : PGN X F e t1 g) (hb : PGNs X F es t2 gs) (hs : (assignEach (e :: es) X.env).map (·.2) = assign e X.env :: (assignEach es X.env).map (·.2) := by rfl) : PGNs X F (e :: es) (t1 ++ t2) (gsCons g gs) :=
  pgs_imp (pgs_cons ha hb hs) fun v σ H Q h => by
    obtain ⟨Z, env, d, env', r, hd, e, q⟩ := h
    cases hd with
    | nil => cases e
    | cons d1 dr =>
      obtain ⟨e1, h1, h⟩ := bnd e
      refine ⟨_, _, rfl, Z, env, _, e1, r, d1, h1, fun σ' r' k1 => ⟨Z, e1, _, env', r', dr, h, fun σ2 r2 k2 => q σ2 r2 ⟨fun i hi => ?_, k2.l.trans k1.l, fun i dv e o => ?_⟩⟩⟩
      · rw [List.mem_append, not_or] at hi
        rw [k2.s i hi.2, k1.s i hi.1]
      · obtain ⟨a1, b1⟩ := k2.o i dv e o
        obtain ⟨a2, b2⟩ := k1.o i dv b1 o
        exact ⟨by rw [List.mem_append, not_or]; exact ⟨a2, a1⟩, b2⟩
theorem gn_tup {n kk : Nat} {ts : List Nat} {gs : List PyData → DEnv → Option DEnv} (h : PGNs X F es ts gs) (hc : X.calm = true := by rfl) (hn : (assignEach es X.env).length = n := by rfl) (hst : (assignEach es X.env).findIdx? (·.1) = none := by rfl) : PGN X F (.Tuple es kk pos) ts (gTupD n gs) :=
  pg_imp (pg_tup hc h hn hst) fun v σ H Q h => by
    obtain ⟨Z, env, d, env', r, hd, e, q⟩ := h
    cases hd with
    | @tup a xs ds hs ha =>
      change (if ds.length = n then gs ds env else none) = some env' at e
      by_cases hl : ds.length = n
      · rw [if_pos hl] at e
        exact ⟨a, xs, rfl, same_sqT r.zh hs, (dds_len ha).trans hl, Z, env, ds, env', r, ha, e, q⟩
      · rw [if_neg hl] at e; cases e
    | _ => cases e
def lcD (g : PyData → DEnv → Option DEnv) (ft : DEnv → Option (Bool × DEnv)) (fe : DEnv → Option (PyData × DEnv)) (vs : List Nat) : List PyData → DEnv → Option (List PyData × DEnv)
  | [], env => some ([], env)
  | d :: ds, env => (g d env).bind fun e1 => (ft e1).bind fun t => if t.1 then (fe t.2).bind fun y => (lcD g ft fe vs ds (wipeE y.2 vs)).map fun r => (y.1 :: r.1, r.2) else lcD g ft fe vs ds (wipeE t.2 vs)
def nLc (fi : DEnv → Option (List PyData × DEnv)) (g : PyData → DEnv → Option DEnv) (ft : DEnv → Option (Bool × DEnv)) (fe : DEnv → Option (PyData × DEnv)) (vs : List Nat) (env : DEnv) : Option (List PyData × DEnv) :=
  (fi env).bind fun x => if x.1.length ≤ lim then lcD g ft fe vs x.1 (wipeE x.2 vs) else none
def fYes (env : DEnv) : Option (Bool × DEnv) := some (true, env)
def PDTs (X : Cx) (F : Fm) (ifs : List Expr) (ft : DEnv → Option (Bool × DEnv)) : Prop := PTs X ifs (tDT X.K F ft)
theorem dts_nil : PDTs X F [] fYes := ⟨fun pins s σ H Q I h => pts_nil.run pins s σ H Q I (by
  obtain ⟨Z, env, d, env', r, e, q⟩ := h
  cases e
  exact q Z H r Stp.refl)⟩
theorem dts_one (h : PDT X F c ft) : PDTs X F [c] ft := pts_one h
theorem lc_read {K : PySem.W.Frag} {ts vs : List Nat} {g : PyData → DEnv → Option DEnv} {fe : DEnv → Option (PyData × DEnv)} (hts : ∀ i ∈ ts, i ∈ vs) {σ : St} {H : Hp} {Q : VK} (h : tDN K F (nLc fi g ft fe vs) σ H Q) :
    tLc (tDI K F fi) (tGN K F ts g) (tDT K F ft) (tD K F fe) vs σ H Q := by
  obtain ⟨Z, env, rs, env', r, e, q⟩ := h
  obtain ⟨⟨ds, e1⟩, e0, e⟩ := bnd e
  dsimp only at e
  split at e
  case isFalse => cases e
  rename_i hlim
  refine ⟨Z, env, ds, e1, r, e0, fun J Z1 H1 r1 s1 w D hD => ?_⟩
  obtain ⟨G, Y, wk, hG, hY⟩ := w
  have hD0 : H D = none := s1.new hD
  have zD1 : Z1 D = none := r1.zh.free hD
  have g1 : Grow Z1 H1 Z1 (upd H1 D (.lst [])) := grow_own r1.zh hD _
  have frD : Fre σ env D := fre_new r hD0
  -- the turn
  refine lc_it wk (fun i Hc => ∃ Zc ec acc ad rest, Same Z1 Zc ∧ Rel K F Zc Hc (wipe σ vs) ec ∧ (∀ (j : Nat) (dv : DV), ec[j]? = some (some dv) → j ∉ vs) ∧ Stp σ env Z H ec Zc Hc ∧ Hc D = some (.lst acc) ∧ Zc D = none ∧ acc.length ≤ i ∧ DDs K Zc acc ad ∧
      lcD g ft fe vs (ds.drop i) ec = some (rest, env') ∧ rs = ad ++ rest) ?_ ?_ ?_ ?_
  · refine ⟨Z1, wipeE e1 vs, [], [], rs, Same.refl _, (r1.grow g1).wipe vs, fun j dv e => (wipeE_in _ _ _ _ e).1, ?_, upd_same, zD1, Nat.le_refl _, .nil, e, rfl⟩
    have s2 := s1.trans g1.stp
    exact ⟨s2.z, s2.h, s2.n, fun i dv e o => s2.o i dv (wipeE_in _ _ _ _ e).2 o, s2.k⟩
  · rintro i Hc hi ⟨Zc, ec, acc, ad, rest, sz, rc, _⟩
    exact hG Hc (sz.trans rc.zh)
  · rintro i x Hc H2 hi ⟨Zc, ec, acc, ad, rest, sz, rc, nv, st, hDc, zDc, hla, dacc, el, eq⟩ y
    obtain ⟨Zn, d, gr, hd, dd⟩ := hY i Hc x H2 Zc hi y sz rc.zh
    have ed : ds.drop i = d :: ds.drop (i + 1) := by
      obtain ⟨hl, hx⟩ := List.getElem?_eq_some_iff.mp hd
      rw [← hx]
      exact List.drop_eq_getElem_cons hl
    rw [ed] at el
    obtain ⟨e2, g2, el⟩ := bnd el
    obtain ⟨⟨tb, e3⟩, t2, el⟩ := bnd el
    have stn : Stp σ env Z H ec Zn H2 := by
      have b := gr.stp (σ := σ) (env := ec)
      exact st.trans b
    have zDn : Zn D = none := by
      cases hh : Zn D with
      | none => rfl
      | some o =>
        rcases gr.n D (by rw [hh]; simp) with z | z
        · exact absurd zDc z
        · rw [hDc] at z; cases z
    have hDn : H2 D = some (.lst acc) := gr.h.h D _ hDc nt_lst
    refine ⟨Zn, ec, d, e2, rc.grow gr, dd, g2, fun σ2 r2 k2 => ⟨?_, ?_⟩⟩
    · rw [wipe_eq (σ := wipe σ vs) (τ := σ2) k2.l (fun j hj => k2.s j fun z => hj (hts j z))]
      exact wipe_eq (wipe_length σ vs) fun j hj => wipe_get σ vs j hj
    have wst : wipe σ2 vs = wipe σ vs := by
      rw [wipe_eq (σ := wipe σ vs) (τ := σ2) k2.l (fun j hj => k2.s j fun z => hj (hts j z))]
      exact wipe_eq (wipe_length σ vs) fun j hj => wipe_get σ vs j hj
    -- an address that is free of owned slots at the start is so in the turn
    have free2 : ∀ q, Fre σ env q → Fre σ2 e2 q := fun q f j dv ej oj sj => by
      obtain ⟨a1, b1⟩ := k2.o j dv ej oj
      obtain ⟨dv0, b2, o2⟩ := st.o j dv b1 oj
      refine f j dv0 b2 o2 ?_
      rw [← wipe_get σ vs j (nv j dv b1), ← k2.s j a1]
      exact sj
    have own2 : ∀ (j : Nat) (dv : DV), e2[j]? = some (some dv) → ownish dv = true → ∃ dv0, env[j]? = some (some dv0) ∧ ownish dv0 = true := fun j dv ej oj => by
      obtain ⟨a1, b1⟩ := k2.o j dv ej oj
      exact st.o j dv b1 oj
    -- a step in the turn, seen from the start
    have lift : ∀ {e4 : DEnv} {Z4 H4 : Hp}, Stp σ2 e2 Zn H2 e4 Z4 H4 → Stp σ env Z H (wipeE e4 vs) Z4 H4 := fun {e4 Z4 H4} b => by
      refine ⟨stn.z.trans b.z, fun q o hq n f => b.h q o (stn.h q o hq n f) n (free2 q f), fun q h4 h0 hh f => ?_, fun j dv ej oj => ?_, fun q hq => b.k q (stn.k q hq)⟩
      · by_cases hz : Zn q = none
        · have h1 : H2 q ≠ none := stn.k q hh
          exact b.n q h4 hz h1 (free2 q f)
        · exact stn.n q hz h0 hh f
      · obtain ⟨a1, b1⟩ := b.o j dv (wipeE_in _ _ _ _ ej).2 oj
        exact own2 j a1 b1.1 b1.2
    refine ⟨Zn, e2, tb, e3, r2, t2, fun Z3 H3 r3 s3 => ?_⟩
    have hD3 : H3 D = some (.lst acc) := s3.h D _ hDn nt_lst (free2 D frD)
    have zD3 : Z3 D = none := by
      cases hh : Z3 D with
      | none => rfl
      | some o => exact absurd (free2 D frD) (s3.n D (by rw [hh]; simp) zDn (by rw [hDn]; simp))
    cases tb with
    | false =>
      refine iteF ⟨Z3, wipeE e3 vs, acc, ad, rest, (sz.trans gr.z).trans s3.z, ?_, fun j dv e => (wipeE_in _ _ _ _ e).1, lift s3, hD3, zD3, Nat.le_succ_of_le hla, DDsm dacc (gr.z.trans s3.z), el, eq⟩
      have := r3.wipe vs
      rw [wst] at this
      exact this
    | true =>
      obtain ⟨⟨yv, e4⟩, y2, el⟩ := bnd el
      obtain ⟨⟨rr, e5⟩, l2, el⟩ := mpd el
      cases el
      refine iteT ⟨Z3, e3, yv, e4, r3, y2, fun v Z4 H4 r4 s4 d4 => ?_⟩
      have s34 := s3.trans s4
      have hD4 : H4 D = some (.lst acc) := s34.h D _ hDn nt_lst (free2 D frD)
      have zD4 : Z4 D = none := by
        cases hh : Z4 D with
        | none => rfl
        | some o => exact absurd (free2 D frD) (s34.n D (by rw [hh]; simp) zDn (by rw [hDn]; simp))
      have hlt : acc.length < sizeLine := Nat.lt_of_lt_of_le (Nat.lt_of_le_of_lt hla hi) (Nat.le_trans hlim lim_le)
      refine ⟨acc, hD4, hlt, Z4, wipeE e4 vs, acc ++ [v], ad ++ [yv], rr, (sz.trans gr.z).trans s34.z, ?_, fun j dv e => (wipeE_in _ _ _ _ e).1, ?_, upd_same, zD4, ?_, dds_app (DDsm dacc (gr.z.trans s34.z)) (.cons d4 .nil), l2, ?_⟩
      · have pk := pok_upd r4.zh zD4 hD4 (.lst (acc ++ [v]))
        have rp := r4.poke0 (s34.fre (free2 D frD)) (r.gh.free hD0) (fun z => (r.pp D z).1 hD0) pk (by rw [upd_same]; simp)
        have := rp.wipe vs
        rw [wst] at this
        exact this
      · have b := lift s34
        refine ⟨b.z, fun q o hq n f => ?_, b.n, b.o, fun q hq => ?_⟩
        · rw [upd_ne (fun z => by rw [z, hD0] at hq; cases hq)]
          exact b.h q o hq n f
        · by_cases hqD : q = D
          · subst hqD; rw [upd_same]; simp
          · rw [upd_ne hqD]; exact b.k q hq
      · rw [List.length_append]; exact Nat.succ_le_succ hla
      · rw [eq, List.append_assoc]; rfl
  · rintro Hc ⟨Zc, ec, acc, ad, rest, sz, rc, nv, st, hDc, zDc, hla, dacc, el, eq⟩
    rw [List.drop_length] at el
    cases el
    rw [List.append_nil] at eq
    subst eq
    exact q D acc Zc Hc (rc.unwipe nv) st hD0 zDc hDc dacc
end
end DL
end L2

set_option Elab.async false
set_option maxRecDepth 100000
set_option maxHeartbeats 4000000
set_option autoImplicit false
namespace L2
namespace DL
open PySem PySem.Spec PyProof.Rows
variable [Lab]
section
variable {X : Cx} {F : Fm} {a b c e tg iter elt : Expr} {es ifs : List Expr} {pos p pn : Pos} {x y : Str} {f fe : DEnv → Option (PyData × DEnv)} {fa fi : DEnv → Option (List PyData × DEnv)} {ft : DEnv → Option (Bool × DEnv)} {scope : Scope} {ts : List Nat} {g : PyData → DEnv → Option DEnv}
theorem pn_lc (own : List (Str × Nat)) (hN : X.N.Nodup) (hi : PDI X F tg iter fi) (ok : BlkOk X.N X.env.scope scope own)
    (hg : ∀ (s : Shared) (H : Hp) (C : Addr) (cl : List (Str × Addr)) (fp : List Addr), PGN (X.blk s H scope (compEnvC scope cl C X.env) fp) F tg ts g) (ht : ∀ (s : Shared) (H : Hp) (C : Addr) (cl : List (Str × Addr)) (fp : List Addr), PDTs (X.blk s H scope (compEnvC scope cl C X.env) fp) F ifs ft)
    (he : ∀ (s : Shared) (H : Hp) (C : Addr) (cl : List (Str × Addr)) (fp : List Addr), PD (X.blk s H scope (compEnvC scope cl C X.env) fp) F elt fe) (hts : ∀ i ∈ ts, i ∈ own.map (·.2) := by decide) (hc : X.calm = true := by rfl) (hs : ∀ x, foldedSetIterable iter X.env x = pure x := by intro _; rfl) :
    PN X F (.ListComp elt [⟨tg, iter, ifs, 0⟩] scope pos) (nLc fi g ft fe (own.map (·.2))) :=
  pe_imp (pe_lc (g := tGN X.K F ts g) (tt := tDT X.K F ft) (te := tD X.K F fe) hc hN hi ok hg ht he hs) fun _ _ _ h => lc_read hts h
theorem ds_setLc (i : Nat) {py spos : Pos} (own : List (Str × Nat)) (hN : X.N.Nodup) (hi : PDI X F tg iter fi) (ok : BlkOk X.N X.env.scope scope own)
    (hg : ∀ (s : Shared) (H : Hp) (C : Addr) (cl : List (Str × Addr)) (fp : List Addr), PGN (X.blk s H scope (compEnvC scope cl C X.env) fp) F tg ts g) (ht : ∀ (s : Shared) (H : Hp) (C : Addr) (cl : List (Str × Addr)) (fp : List Addr), PDTs (X.blk s H scope (compEnvC scope cl C X.env) fp) F ifs ft)
    (he : ∀ (s : Shared) (H : Hp) (C : Addr) (cl : List (Str × Addr)) (fp : List Addr), PD (X.blk s H scope (compEnvC scope cl C X.env) fp) F elt fe) (hsw : swapsWith (.ListComp elt [⟨tg, iter, ifs, 0⟩] scope pos) (some (.Name y py)) spos.line X.env = pure true)
    (hy : X.N[i]? = some y := by rfl) (hyl : X.env.scope.names.lookup y = some .local := by rfl) (hts : ∀ i ∈ ts, i ∈ own.map (·.2) := by decide) (hc : X.calm = true := by rfl) (hs : ∀ x, foldedSetIterable iter X.env x = pure x := by intro _; rfl) :
    PDS X F (.Assign [.Name y py] (.ListComp elt [⟨tg, iter, ifs, 0⟩] scope pos) spos) (sSetN i (nLc fi g ft fe (own.map (·.2)))) :=
  ps_imp (ps_setLc (g := tGN X.K F ts g) (tt := tDT X.K F ft) (te := tD X.K F fe) hc hN hy hyl hsw hi ok hg ht he hs) fun D σ H h => by
    obtain ⟨Z, env, fl, r, e, q⟩ := h
    obtain ⟨⟨d, e1⟩, h1, h⟩ := mpd e
    subst h
    exact lc_read hts ⟨Z, env, d, e1, r, h1, fun p xs Z' H' r' s' h0 hz hp dd => q _ Z' H' (r'.storeN i (s'.fre (fre_new r h0)) (fun z => (r.pp p z).1 h0) (r.gh.free h0) hz hp dd) s'.z⟩
end

/-! ### defs by their bodies -/
def startE (n : Nat) (ds : List PyData) : DEnv := ds.map (fun d => some (.fr d)) ++ List.replicate (n - ds.length) none
def runF (n N : Nat) (g : DEnv → Option DFlow) (ds : List PyData) : Option PyData := if ds.length = n then (match g (startE N ds) with
  | some (.rt d _) => some d
  | some (.nx _) => some .none
  | _ => none) else none
theorem runF_len {n N : Nat} {g : DEnv → Option DFlow} (ds : List PyData) (r : PyData) (h : runF n N g ds = some r) : ds.length = n := by
  unfold runF at h
  split at h
  · assumption
  · cases h
def runN (n N : Nat) (g : DEnv → Option DFlow) (ds : List PyData) : Option (List PyData) := if ds.length = n then (match g (startE N ds) with
  | some (.rn d _) => some d
  | _ => none) else none
theorem runN_len {n N : Nat} {g : DEnv → Option DFlow} (ds : List PyData) (r : List PyData) (h : runN n N g ds = some r) : ds.length = n := by
  unfold runN at h
  split at h
  · assumption
  · cases h
def rf0 (env : DEnv) : Option (List PyData) := match env with
  | some (.rf es) :: _ => some es
  | _ => none
def runR (n N : Nat) (g : DEnv → Option DFlow) (es ds : List PyData) : Option (PyData × List PyData) := if ds.length + 1 = n then (match g (some (.rf es) :: startE (N - 1) ds) with
  | some (.rt d env) => (rf0 env).map fun x => (d, x)
  | some (.nx env) => (rf0 env).map fun x => (.none, x)
  | _ => none) else none
theorem runR_len {n N : Nat} {g : DEnv → Option DFlow} (es ds : List PyData) (r : PyData × List PyData) (h : runR n N g es ds = some r) : ds.length + 1 = n := by
  unfold runR at h
  split at h
  · assumption
  · cases h
theorem startE_len {N : Nat} {ds : List PyData} (h : ds.length ≤ N) : (startE N ds).length = N := by
  unfold startE
  rw [List.length_append, List.length_map, List.length_replicate]
  omega
theorem start_len {N : List Str} {vs : List V} (h : vs.length ≤ N.length) : (start N vs).length = N.length := by
  unfold start
  rw [List.length_append, List.length_map, List.length_replicate]
  omega
theorem startE_get {n i : Nat} {ds : List PyData} {dv : DV} (h : (startE n ds)[i]? = some (some dv)) : ∃ d, ds[i]? = some d ∧ dv = .fr d := by
  unfold startE at h
  by_cases hi : i < ds.length
  · rw [List.getElem?_append_left (by rw [List.length_map]; exact hi), List.getElem?_map, List.getElem?_eq_getElem hi] at h
    cases h
    exact ⟨_, List.getElem?_eq_getElem hi, rfl⟩
  · rw [List.getElem?_append_right (by rw [List.length_map]; omega), List.getElem?_replicate] at h
    split at h <;> cases h
theorem start_get {N : List Str} {vs : List V} {i : Nat} {v : V} (h : vs[i]? = some v) : (start N vs)[i]? = some (some v) := by
  obtain ⟨hl, hx⟩ := List.getElem?_eq_some_iff.mp h
  unfold start
  rw [List.getElem?_append_left (by rw [List.length_map]; exact hl), List.getElem?_map, h]
  rfl
section
variable {P : Program} {w : World} {K : PySem.W.Frag} {mg : Str → Option Value} {base : Heap} {x qual : Str} {st : Stmt} {f : Addr} {fd : FuncData} {N ps : List Str} {k : Nat} {g : DEnv → Option DFlow}
/-- what a body's derivation is asked for -/
abbrev BodyOk (P : Program) (w : World) (K : PySem.W.Frag) (mg : Str → Option Value) (base : Heap) (N : List Str) (qual : Str) (st : Stmt) (f : Addr) (cv : Value) (k : Nat) (g : DEnv → Option DFlow) : Prop :=
  ∀ (cdv : Value) (A : Around) (outer : List Env) (s : Shared) (H : Hp) (E : XK) (F : Fm), cdv = cv → F.W = W0 → GdOk (A.deeper (envOfC qual (defScope st) s.heap.objs.size f cdv)) → Room k (A.deeper (envOfC qual (defScope st) s.heap.objs.size f cdv)) →
    PDSs (cxOf CX0 P w K mg base N qual (defScope st) f cdv A outer s H E).nox F (defBody st) g
theorem pure_start {Z H : Hp} {vs : List V} {ds : List PyData} (sz : Same Z H) (tb : TB H) (hd : DDs K Z vs ds) (hl : vs.length ≤ N.length) : Rel K ⟨Z, H, fun _ => False, W0⟩ Z H (start N vs) (startE N.length ds) := by
  have hvd := dds_len hd
  refine ⟨Same.refl Z, sz, Same.refl H, fun q h => .inl h, fun q h => h.elim, by rw [start_len hl, startE_len (by omega)], fun i dv e => ?_, fun i j di dj q ei ej oi => ?_, tb⟩
  · obtain ⟨d, e1, rfl⟩ := startE_get e
    obtain ⟨v, e2, e3⟩ := dds_get hd e1
    exact ⟨v, start_get e2, e3⟩
  · obtain ⟨d, e1, rfl⟩ := startE_get ei
    cases oi
theorem fn_pure (D : Fun K x qual st f fd) (S : FnScope N ps (defScope st)) (hb : BodyOk P w K mg base N qual st f fd.code k g) : FnG P w K mg base (k + 1) f fd ps (spF K ps.length (runF ps.length N.length g)) := by
  refine fng_of D S (fun vs H Q E h => h.1) fun cdv A outer s H vs Q E hcv hg hr h => ?_
  obtain ⟨hl, Z, ds, r, sz, tb, hd, e, q⟩ := h
  have hN : ps.length ≤ N.length := by
    have := congrArg List.length S.pre
    rw [List.length_take] at this
    omega
  refine ⟨_, hb cdv A outer s H E ⟨Z, H, fun _ => False, W0⟩ hcv rfl hg hr, Z, startE N.length ds, ?_⟩
  have r0 := pure_start (K := K) (N := N) sz tb hd (by omega)
  have fin : ∀ {Z' H' : Hp} {σ' : St} {e' : DEnv}, Rel K ⟨Z, H, fun _ => False, W0⟩ Z' H' σ' e' → Grow Z H Z' H' := fun {Z' H' σ' e'} r' => ⟨r'.z0, r'.zh, r'.gh, fun _ => r'.tb, fun q hq => (r'.nw q hq).imp id (·.1)⟩
  unfold runF at e
  split at e
  case isFalse => cases e
  generalize hh : g (startE N.length ds) = o at e
  match o, e with
  | some (.rt d e'), e =>
    cases e
    exact ⟨_, r0, rfl, fun v σ' Z' H' r' s' dd => q v Z' H' (fin r') dd⟩
  | some (.nx e'), e =>
    cases e
    exact ⟨_, r0, rfl, fun σ' Z' H' r' s' => q .non Z' H' (fin r') .non⟩
theorem fn_new (D : Fun K x qual st f fd) (S : FnScope N ps (defScope st)) (hb : BodyOk P w K mg base N qual st f fd.code k g) : FnG P w K mg base (k + 1) f fd ps (spN K ps.length (runN ps.length N.length g)) := by
  refine fng_of D S (fun vs H Q E h => h.1) fun cdv A outer s H vs Q E hcv hg hr h => ?_
  obtain ⟨hl, Z, ds, r, sz, tb, hd, e, q⟩ := h
  have hN : ps.length ≤ N.length := by
    have := congrArg List.length S.pre
    rw [List.length_take] at this
    omega
  refine ⟨_, hb cdv A outer s H E ⟨Z, H, fun _ => False, W0⟩ hcv rfl hg hr, Z, startE N.length ds, ?_⟩
  have r0 := pure_start (K := K) (N := N) sz tb hd (by omega)
  unfold runN at e
  split at e
  case isFalse => cases e
  generalize hh : g (startE N.length ds) = o at e
  match o, e with
  | some (.rn d e'), e =>
    cases e
    exact ⟨_, r0, rfl, fun p xs σ' Z' H' r' s' hz hg' hp hh' dd => q p xs Z' H' ⟨r'.z0, r'.zh, r'.gh, fun _ => r'.tb, fun q hq => (r'.nw q hq).imp id (·.1)⟩ hg' hz hh' dd⟩
theorem fn_ref (D : Fun K x qual st f fd) (S : FnScope N ps (defScope st)) (hb : BodyOk P w K mg base N qual st f fd.code k g) : FnG P w K mg base (k + 1) f fd ps (spR K ps.length (runR ps.length N.length g)) := by
  refine fng_of D S (fun vs H Q E h => h.1) fun cdv A outer s H vs Q E hcv hg hr h => ?_
  obtain ⟨hl, Z, p, ws, xs, es, ds, r, es', rfl, sz, tb, zp, hp, hx, hd, e, q⟩ := h
  have hN : ps.length ≤ N.length := by
    have := congrArg List.length S.pre
    rw [List.length_take] at this
    omega
  have hwd := dds_len hd
  rw [List.length_cons] at hl
  refine ⟨_, hb cdv A outer s H E ⟨Z, fun q => if q = p then none else H q, fun q => q = p, W0⟩ hcv rfl hg hr, Z, some (.rf es) :: startE (N.length - 1) ds, ?_⟩
  have r0 : Rel K ⟨Z, fun q => if q = p then none else H q, fun q => q = p, W0⟩ Z H (start N (.ref p :: ws)) (some (.rf es) :: startE (N.length - 1) ds) := by
    refine ⟨Same.refl Z, sz, ⟨fun q o h _ => ?_, fun q h => ?_⟩, fun q h => .inl h, fun q h => ?_, ?_, fun i dv e => ?_, fun i j di dj q ei ej oi oj si sj => ?_, tb⟩
    · dsimp only at h
      split at h
      · cases h
      · exact h
    · dsimp only at h
      split at h
      · exact absurd rfl h
      · exact h
    · dsimp only at h
      subst h
      exact ⟨by rw [hp]; simp, zp, if_pos rfl⟩
    · rw [List.length_cons, startE_len (by omega), start_len (by rw [List.length_cons]; omega)]
      omega
    · cases i with
      | zero =>
        cases e
        exact ⟨p, xs, start_get rfl, rfl, hp, hx⟩
      | succ i =>
        rw [List.getElem?_cons_succ] at e
        obtain ⟨d, e1, rfl⟩ := startE_get e
        obtain ⟨v, e2, e3⟩ := dds_get hd e1
        exact ⟨v, start_get (by rw [List.getElem?_cons_succ]; exact e2), e3⟩
    · have z : ∀ (i : Nat) (dv : DV), (some (.rf es) :: startE (N.length - 1) ds)[i]? = some (some dv) → ownish dv = true → i = 0 := fun i dv e o => by
        cases i with
        | zero => rfl
        | succ i =>
          rw [List.getElem?_cons_succ] at e
          obtain ⟨d, e1, rfl⟩ := startE_get e
          cases o
      rw [z i di ei oi, z j dj ej oj]
  have fin : ∀ {Z' H' : Hp} {σ' : St} {e' : DEnv} {v : V}, Rel K ⟨Z, fun q => if q = p then none else H q, fun q => q = p, W0⟩ Z' H' σ' e' → rf0 e' = some es' → DD K Z' v r → Q v H' := fun {Z' H' σ' e' v} r' h0 dd => by
    match e', h0, r' with
    | some (.rf es2) :: rest, h0, r' =>
      cases h0
      obtain ⟨p', xs', a1, a2, a3, a4⟩ := r'.sl 0 _ rfl
      have a2 : p' = p := a2
      subst a2
      refine q v xs' Z' H' ⟨r'.z0, r'.zh, fun b o hb h n => r'.gh.h b o ?_ n, fun b hb h => r'.gh.k b ?_, fun _ => r'.tb, fun b hb => ?_⟩ a3 a4 dd
      · show (if b = p' then none else H b) = some o
        rw [if_neg hb]; exact h
      · show (if b = p' then none else H b) ≠ none
        rw [if_neg hb]; exact h
      · rcases r'.nw b hb with h | ⟨h, h2⟩
        · exact .inl h
        · have h : (if b = p' then none else H b) = none := h
          rw [if_neg h2] at h
          exact .inr h
  unfold runR at e
  split at e
  case isFalse => cases e
  generalize hh : g (some (.rf es) :: startE (N.length - 1) ds) = o at e
  match o, e with
  | some (.rt d e'), e =>
    obtain ⟨x0, h0, h⟩ := mpd e
    cases h
    exact ⟨_, r0, rfl, fun v σ' Z' H' r' s' dd => fin r' h0 dd⟩
  | some (.nx e'), e =>
    obtain ⟨x0, h0, h⟩ := mpd e
    cases h
    exact ⟨_, r0, rfl, fun σ' Z' H' r' s' => fin (v := .non) r' h0 .non⟩
theorem fn_F {n n' : Nat} (D : Fun K x qual st f fd) (S : FnScope N ps (defScope st)) (h1 : ps.length = n) (h2 : N.length = n') (hb : BodyOk P w K mg base N qual st f fd.code k g) : FnG P w K mg base (k + 1) f fd ps (spF K n (runF n n' g)) := by
  subst h1 h2
  exact fn_pure D S hb
theorem fn_N {n n' : Nat} (D : Fun K x qual st f fd) (S : FnScope N ps (defScope st)) (h1 : ps.length = n) (h2 : N.length = n') (hb : BodyOk P w K mg base N qual st f fd.code k g) : FnG P w K mg base (k + 1) f fd ps (spN K n (runN n n' g)) := by
  subst h1 h2
  exact fn_new D S hb
theorem fn_R {n n' : Nat} (D : Fun K x qual st f fd) (S : FnScope N ps (defScope st)) (h1 : ps.length = n) (h2 : N.length = n') (hb : BodyOk P w K mg base N qual st f fd.code k g) : FnG P w K mg base (k + 1) f fd ps (spR K n (runR n n' g)) := by
  subst h1 h2
  exact fn_ref D S hb
end
end DL
end L2

set_option Elab.async false
set_option maxRecDepth 100000
set_option maxHeartbeats 4000000
set_option autoImplicit false
namespace L2
namespace DL
open PySem PySem.Spec PyProof.Rows
variable [Lab]
section
variable {X : Cx}
/-! ### operators on data -/
def addD : PyData → PyData → Option PyData
  | .int i, .int j => some (.int (i + j))
  | .str a, .str b => if a.length + b.length ≤ lim then some (.str (a ++ b)) else none
  | .tuple a, .tuple b => if a.length + b.length ≤ lim then some (.tuple (a ++ b)) else none
  | .list a, .list b => if a.length + b.length ≤ lim then some (.list (a ++ b)) else none
  | _, _ => none
theorem od_add : OpD X (binaryOp .Add) addD := by
  intro pins s σ H x y v u Q I rx ry h
  obtain ⟨Z, a, b, d, sz, ha, hb, e, q⟩ := h
  have hlim : lim = 100000 := rfl
  have hsl := sizeLine_eq
  match a, b, ha, hb, e with
  | .int i, .int j, ha, hb, e =>
    cases e; cases ha.int_inv; cases hb.int_inv
    exact op_add pins s σ H _ _ v u Q I rx ry ⟨i, j, rfl, rfl, q _ Z H (Grow.refl sz) (.int _)⟩
  | .str i, .str j, ha, hb, e =>
    change (if i.length + j.length ≤ lim then some (PyData.str (i ++ j)) else none) = some d at e
    split at e
    case isFalse => cases e
    cases e; cases ha.str_inv; cases hb.str_inv
    exact op_add_str pins s σ H _ _ v u Q I rx ry ⟨i, j, rfl, rfl, by omega, q _ Z H (Grow.refl sz) (.str _)⟩
  | .tuple i, .tuple j, ha, hb, e =>
    change (if i.length + j.length ≤ lim then some (PyData.tuple (i ++ j)) else none) = some d at e
    split at e
    case isFalse => cases e
    cases e
    cases ha with
    | @tup p xs _ hx dx =>
      cases hb with
      | @tup p' ys _ hy dy =>
        have l1 := dds_len dx
        have l2 := dds_len dy
        refine op_catA pins s σ H _ _ v u Q I rx ry ⟨p, p', xs, ys, rfl, rfl, same_sqT sz hx, same_sqT sz hy, by omega, fun e0 => ?_, fun n0 e0 => ?_, fun n0 n1 p hp => ?_⟩
        · have : i = [] := by cases i with | nil => rfl | cons _ _ => rw [e0] at l1; cases l1
          rw [this] at q
          exact q _ Z H (Grow.refl sz) (.tup hy dy)
        · have : j = [] := by cases j with | nil => rfl | cons _ _ => rw [e0] at l2; cases l2
          rw [this, List.append_nil] at q
          exact q _ Z H (Grow.refl sz) (.tup hx dx)
        · exact q _ _ _ (grow_new sz hp _) (new_tup sz hp (dds_app dx dy))
  | .list i, .list j, ha, hb, e =>
    change (if i.length + j.length ≤ lim then some (PyData.list (i ++ j)) else none) = some d at e
    split at e
    case isFalse => cases e
    cases e
    cases ha with
    | @lst p xs _ hx dx =>
      cases hb with
      | @lst p' ys _ hy dy =>
        have l1 := dds_len dx
        have l2 := dds_len dy
        cases rx
        cases ry
        obtain ⟨z, its, n, r, e1⟩ := (same_ls sz hx).isL I
        obtain ⟨z2, its2, n2, r2, e2⟩ := (same_ls sz hy).isL I
        have k1 := r.length
        have k2 := r2.length
        refine PySem.P.add_list e1 e2 ?_ (by rw [List.size_toArray, List.size_toArray]; omega)
        have ea : its.toArray ++ its2.toArray = (its ++ its2).toArray := by simp
        rw [ea]
        exact ⟨.ref _, _, I.lnew (t' := s.toks) (r.append r2) (by rw [List.length_append]; omega), rfl, q _ _ _ (grow_new sz I.fresh _) (new_lst sz I.fresh (dds_app dx dy))⟩
def intD (c : Int → Int → Bool) (o : Int → Int → PyData) : PyData → PyData → Option PyData
  | .int i, .int j => if c i j then some (o i j) else none
  | _, _ => none
theorem od_int {f : Value → Value → Sem Value} {C : Int → Int → Prop} {g : Int → Int → V} {c : Int → Int → Bool} {o : Int → Int → PyData} (h : OpR X f (rI C g)) (hc : ∀ i j, c i j = true → C i j) (hd : ∀ K Z i j, DD K Z (g i j) (o i j)) : OpD X f (intD c o) := by
  intro pins s σ H x y v u Q I rx ry h0
  obtain ⟨Z, a, b, d, sz, ha, hb, e, q⟩ := h0
  match a, b, ha, hb, e with
  | .int i, .int j, ha, hb, e =>
    change (if c i j then some (o i j) else none) = some d at e
    split at e
    case isFalse => cases e
    rename_i hcc
    cases e; cases ha.int_inv; cases hb.int_inv
    exact h pins s σ H _ _ v u Q I rx ry ⟨i, j, rfl, rfl, hc i j hcc, q _ Z H (Grow.refl sz) (hd _ _ _ _)⟩
theorem op_rI0 {f : Value → Value → Sem Value} {g : Int → Int → V} (h : OpR X f (rI0 g)) : OpR X f (rI (fun _ _ => True) g) := fun pins s σ H x y v u Q I rx ry ⟨i, j, a, b, _, q⟩ => h pins s σ H x y v u Q I rx ry ⟨i, j, a, b, q⟩
abbrev cTrue (_ _ : Int) : Bool := true
abbrev cMul (i j : Int) : Bool := decide (i.natAbs < 18446744073709551616) || decide (j.natAbs < 18446744073709551616)
abbrev cDiv (_ j : Int) : Bool := decide (0 < j) && decide (j < 1073741824)
abbrev cMod (_ j : Int) : Bool := decide (0 < j)
abbrev cPow (i j : Int) : Bool := decide (0 ≤ j) && decide (j ≤ 1000) && decide (i.natAbs < 1000)
abbrev subD := intD cTrue fun i j => .int (i - j)
abbrev mulD := intD cMul fun i j => .int (i * j)
abbrev fdivD := intD cDiv fun i j => .int (i / j)
abbrev modD := intD cMod fun i j => .int (i % j)
abbrev powD := intD cPow fun i j => .int (i ^ j.toNat)
abbrev ltD := intD cTrue fun i j => .bool (decide (i < j))
abbrev leD := intD cTrue fun i j => .bool (decide (i ≤ j))
abbrev gtD := intD cTrue fun i j => .bool (decide (j < i))
abbrev geD := intD cTrue fun i j => .bool (decide (j ≤ i))
theorem od_sub : OpD X (binaryOp .Sub) subD := od_int (op_rI0 op_sub) (fun _ _ _ => trivial) fun _ _ _ _ => .int _
theorem od_mul : OpD X (binaryOp .Mult) mulD := od_int op_mul (fun i j h => by
  rw [cMul, Bool.or_eq_true, decide_eq_true_eq, decide_eq_true_eq] at h
  unfold CMul
  rcases h with h | h
  · left; omega
  · right; omega) fun _ _ _ _ => .int _
theorem od_fdiv : OpD X (binaryOp .FloorDiv) fdivD := od_int op_fdiv (fun i j h => by
  rw [cDiv, Bool.and_eq_true, decide_eq_true_eq, decide_eq_true_eq] at h
  exact h) fun _ _ _ _ => .int _
theorem od_mod : OpD X (binaryOp .Mod) modD := od_int op_mod (fun i j h => of_decide_eq_true h) fun _ _ _ _ => .int _
theorem od_pow : OpD X (binaryOp .Pow) powD := od_int op_pow (fun i j h => by
  rw [cPow, Bool.and_eq_true, Bool.and_eq_true, decide_eq_true_eq, decide_eq_true_eq, decide_eq_true_eq] at h
  unfold CPow
  omega) fun _ _ _ _ => .int _
theorem od_lt : OpD X (compareOp .Lt) ltD := od_int (op_rI0 op_lt) (fun _ _ _ => trivial) fun _ _ _ _ => .bl _
theorem od_le : OpD X (compareOp .LtE) leD := od_int (op_rI0 op_le) (fun _ _ _ => trivial) fun _ _ _ _ => .bl _
theorem od_gt : OpD X (compareOp .Gt) gtD := od_int (op_rI0 op_gt) (fun _ _ _ => trivial) fun _ _ _ _ => .bl _
theorem od_ge : OpD X (compareOp .GtE) geD := od_int (op_rI0 op_ge) (fun _ _ _ => trivial) fun _ _ _ _ => .bl _
/-- what may be compared -/
def shD (d : PyData) : Bool := SeqAt.shaped d && !d.hasDict
theorem shD_sh {d : PyData} (h : shD d = true) : SeqAt.shaped d = true := (Bool.and_eq_true_iff.mp h).1
theorem shD_nd {d : PyData} (h : shD d = true) : d.hasDict = false := by
  have := (Bool.and_eq_true_iff.mp h).2
  rwa [Bool.not_eq_true'] at this
/-- are they equal? -/
def eqB : PyData → PyData → Option Bool
  | .int i, .int j => some (decide (i = j))
  | .str i, .str j => some (decide (i = j))
  | a, b => if shD a && shD b then some (PyData.eqv a b) else none
def eqD (a b : PyData) : Option PyData := (eqB a b).map .bool
def neD (a b : PyData) : Option PyData := (eqB a b).map fun k => .bool (!k)
theorem eq_run {op : CmpOp} {neg : Bool → Bool} (h1 : OpR X (compareOp op) (fun x y H Q => scal x y = true ∧ Q (.bl (neg (decide (x = y)))) H)) (h2 : OpR X (compareOp op) (fun x y H Q => ∃ d e, Dp X.K H x d ∧ Dp X.K H y e ∧ SeqAt.shaped d = true ∧ SeqAt.shaped e = true ∧ Q (.bl (neg (PyData.eqv d e))) H)) :
    OpD X (compareOp op) (fun a b => (eqB a b).map fun k => .bool (neg k)) := by
  intro pins s σ H x y v u Q I rx ry h
  obtain ⟨Z, a, b, d, sz, ha, hb, e, q⟩ := h
  obtain ⟨k, ek, rfl⟩ := mpd e
  have deep : (if shD a && shD b then some (PyData.eqv a b) else none) = some k → wpAny (model X.prog X.w) X.A (compareOp op v u) (EP X pins σ Q) X.xe s := fun e => by
    split at e
    case isFalse => cases e
    rename_i hs
    rw [Bool.and_eq_true] at hs
    cases e
    exact h2 pins s σ H x y v u Q I rx ry ⟨a, b, DD.dp _ _ (shD_nd hs.1) (DDm ha sz), DD.dp _ _ (shD_nd hs.2) (DDm hb sz), shD_sh hs.1, shD_sh hs.2, q _ Z H (Grow.refl sz) (.bl _)⟩
  unfold eqB at ek
  split at ek
  · cases ek; cases ha.int_inv; cases hb.int_inv
    refine h1 pins s σ H _ _ v u Q I rx ry ⟨rfl, ?_⟩
    rename_i i j
    have : decide (V.int i = V.int j) = decide (i = j) := by
      by_cases z : i = j
      · subst z; simp
      · rw [decide_eq_false z, decide_eq_false (fun w => z (V.int.inj w))]
    rw [this]
    exact q _ Z H (Grow.refl sz) (.bl _)
  · cases ek; cases ha.str_inv; cases hb.str_inv
    refine h1 pins s σ H _ _ v u Q I rx ry ⟨rfl, ?_⟩
    rename_i i j
    have : decide (V.str i = V.str j) = decide (i = j) := by
      by_cases z : i = j
      · subst z; simp
      · rw [decide_eq_false z, decide_eq_false (fun w => z (V.str.inj w))]
    rw [this]
    exact q _ Z H (Grow.refl sz) (.bl _)
  · exact deep ek
theorem od_eq {k : Nat} (hr : Room k X.A) : OpD X (compareOp .Eq) eqD := eq_run (neg := id) op_eq (op_eqD hr.units)
theorem od_ne {k : Nat} (hr : Room k X.A) : OpD X (compareOp .NotEq) neD := eq_run (neg := fun k => !k) op_ne (op_neD hr.units)
def inB (d c : PyData) : Option Bool := (seqD c).bind fun ds => if shD d && shD c then some (ds.any fun z => PyData.eqv z d) else none
def inD (d c : PyData) : Option PyData := (inB d c).map .bool
def notInD (d c : PyData) : Option PyData := (inB d c).map fun k => .bool (!k)
theorem room_in {k : Nat} {A : Around} (hr : Room k A) {d : PyData} {ds : List PyData} (h : SeqAt.shaped d = true) : A.units + 1 + min (PyData.depthAll ds) d.depth < cLine := by
  have h1 := SeqAt.depth_of_shaped h
  have h2 : min (PyData.depthAll ds) d.depth ≤ d.depth := Nat.min_le_right _ _
  have := hr.un
  omega
theorem od_in {k : Nat} (hr : Room k X.A) : OpD X (compareOp .In) inD := by
  intro pins s σ H x y v u Q I rx ry h
  obtain ⟨Z, a, b, d, sz, ha, hb, e, q⟩ := h
  obtain ⟨kk, ek, rfl⟩ := mpd e
  obtain ⟨ds, e1, ek⟩ := bnd ek
  split at ek
  case isFalse => cases ek
  rename_i hs
  rw [Bool.and_eq_true] at hs
  cases ek
  obtain ⟨as, r1⟩ := Dp.reads I a x v (DD.dp _ _ (shD_nd hs.1) (DDm ha sz)) rx
  obtain ⟨bs, r2⟩ := Dp.reads I b y u (DD.dp _ _ (shD_nd hs.2) (DDm hb sz)) ry
  have qq := q _ Z H (Grow.refl sz) (.bl _)
  match b, e1, r2, hs with
  | .list es, e1, r2, hs =>
    cases e1
    exact SeqAt.in_list_reads r2 r1 (SeqAt.canLay_of_shaped (shD_sh hs.2)) (SeqAt.canLay_of_shaped (shD_sh hs.1)) (room_in hr (shD_sh hs.1)) ⟨.bl _, H, I, rfl, qq⟩
  | .tuple es, e1, r2, hs =>
    cases e1
    exact SeqAt.in_tuple_reads r2 r1 (SeqAt.canLay_of_shaped (shD_sh hs.2)) (SeqAt.canLay_of_shaped (shD_sh hs.1)) (room_in hr (shD_sh hs.1)) ⟨.bl _, H, I, rfl, qq⟩
theorem od_notIn {k : Nat} (hr : Room k X.A) : OpD X (compareOp .NotIn) notInD := by
  intro pins s σ H x y v u Q I rx ry h
  obtain ⟨Z, a, b, d, sz, ha, hb, e, q⟩ := h
  obtain ⟨kk, ek, rfl⟩ := mpd e
  obtain ⟨ds, e1, ek⟩ := bnd ek
  split at ek
  case isFalse => cases ek
  rename_i hs
  rw [Bool.and_eq_true] at hs
  cases ek
  obtain ⟨as, r1⟩ := Dp.reads I a x v (DD.dp _ _ (shD_nd hs.1) (DDm ha sz)) rx
  obtain ⟨bs, r2⟩ := Dp.reads I b y u (DD.dp _ _ (shD_nd hs.2) (DDm hb sz)) ry
  have qq := q _ Z H (Grow.refl sz) (.bl _)
  match b, e1, r2, hs with
  | .list es, e1, r2, hs =>
    cases e1
    exact SeqAt.notIn_list_reads r2 r1 (SeqAt.canLay_of_shaped (shD_sh hs.2)) (SeqAt.canLay_of_shaped (shD_sh hs.1)) (room_in hr (shD_sh hs.1)) ⟨.bl _, H, I, rfl, qq⟩
  | .tuple es, e1, r2, hs =>
    cases e1
    exact SeqAt.notIn_tuple_reads r2 r1 (SeqAt.canLay_of_shaped (shD_sh hs.2)) (SeqAt.canLay_of_shaped (shD_sh hs.1)) (room_in hr (shD_sh hs.1)) ⟨.bl _, H, I, rfl, qq⟩
theorem inD_scal (a b d : PyData) (h : inD a b = some d) : scalD d = true := by obtain ⟨k, _, rfl⟩ := mpd h; rfl
theorem notInD_scal (a b d : PyData) (h : notInD a b = some d) : scalD d = true := by obtain ⟨k, _, rfl⟩ := mpd h; rfl
theorem eqD_scal (a b d : PyData) (h : eqD a b = some d) : scalD d = true := by obtain ⟨k, _, rfl⟩ := mpd h; rfl
theorem neD_scal (a b d : PyData) (h : neD a b = some d) : scalD d = true := by obtain ⟨k, _, rfl⟩ := mpd h; rfl

/-! ### chains a < b < c -/
variable {F : Fm} {a b c e : Expr} {es : List Expr} {pos p pn p2 : Pos} {f g k : DEnv → Option (PyData × DEnv)} {fa : DEnv → Option (List PyData × DEnv)} {x y : Str}
def fChain (o o' : PyData → PyData → Option PyData) (f g k : DEnv → Option (PyData × DEnv)) (env : DEnv) : Option (PyData × DEnv) :=
  (f env).bind fun x => (g x.2).bind fun y => (o x.1 y.1).bind fun z => match z with
    | .bool true => (k y.2).bind fun w => (o' y.1 w.1).map fun d => (d, w.2)
    | .bool false => some (.bool false, y.2)
    | _ => none
theorem pd_chain {op op' : CmpOp} {o o' : PyData → PyData → Option PyData} (ho : OpD X (compareOp op) o) (ho' : OpD X (compareOp op') o') (ha : PD X F a f) (hb : PD X F b g) (hc : PD X F c k) (hm : lastMarks [op, op'] [b, c] = false := by with_unfolding_all rfl) :
    PD X F (.Compare a [op, op'] [b, c] pos) (fChain o o' f g k) := pe_imp (pe_chain ho ho' ha hb hc hm) fun σ H Q h => by
  obtain ⟨Z, env, d, env', r, e, q⟩ := h
  obtain ⟨⟨x, e1⟩, h1, h⟩ := bnd e
  obtain ⟨⟨y, e2⟩, h2, h⟩ := bnd h
  obtain ⟨z, h3, h⟩ := bnd h
  refine ⟨Z, env, x, e1, r, h1, fun v1 Z1 H1 r1 s1 d1 => ⟨Z1, e1, y, e2, r1, h2, fun v2 Z2 H2 r2 s2 d2 => ⟨Z2, x, y, z, r2.zh, DDm d1 s2.z, d2, h3, fun vz Z3 H3 gr dz => ?_⟩⟩⟩
  have s12 := s1.trans s2
  match z, h, dz with
  | .bool true, h, dz =>
    obtain ⟨⟨w, e3⟩, h4, h⟩ := bnd h
    obtain ⟨d', h5, h⟩ := mpd h
    cases h
    cases dz.bool_inv
    refine ⟨true, rfl, iteT ⟨Z3, e2, w, e3, r2.grow gr, h4, fun v3 Z4 H4 r4 s4 d4 => ⟨Z4, y, w, d, r4.zh, DDm (DDm d2 gr.z) s4.z, d4, h5, fun v5 Z5 H5 g5 d5 => ?_⟩⟩⟩
    exact q v5 Z5 H5 (r4.grow g5) (((s12.trans gr.stp).trans s4).trans g5.stp) d5
  | .bool false, h, dz =>
    cases h
    cases dz.bool_inv
    exact ⟨false, rfl, iteF (q _ Z3 H3 (r2.grow gr) (s12.trans gr.stp) (.bl false))⟩
/-! ### built-in functions on data -/
theorem dds1 {K : PySem.W.Frag} {Z : Hp} {vs : List V} {d : PyData} (h : DDs K Z vs [d]) : ∃ v, vs = [v] ∧ DD K Z v d := by
  cases h with
  | cons h1 h2 => cases h2; exact ⟨_, rfl, h1⟩
theorem dds2 {K : PySem.W.Frag} {Z : Hp} {vs : List V} {d e : PyData} (h : DDs K Z vs [d, e]) : ∃ v w, vs = [v, w] ∧ DD K Z v d ∧ DD K Z w e := by
  cases h with
  | cons h1 h2 =>
    obtain ⟨w, rfl, h3⟩ := dds1 h2
    exact ⟨_, w, rfl, h1, h3⟩
def lenD : List PyData → Option PyData
  | [.list ds] => some (.int ds.length)
  | [.tuple ds] => some (.int ds.length)
  | [.str x] => if x.length ≤ lim then some (.int x.length) else none
  | _ => none
theorem cd_len : CallD X (.builtin "len") lenD := by
  intro pins s σ H xs us Q I r h
  obtain ⟨Z, ds, d, sz, hd, e, q⟩ := h
  match ds, hd, e with
  | [.list ds], hd, e =>
    cases e
    obtain ⟨v, rfl, h1⟩ := dds1 hd
    cases h1 with
    | @lst a ys _ hr ha => exact call_len_seq pins s σ H _ us Q I r ⟨a, ys, rfl, .inl (same_ls sz hr).sq, by rw [dds_len ha]; exact q _ Z H (Grow.refl sz) (.int _)⟩
  | [.tuple ds], hd, e =>
    cases e
    obtain ⟨v, rfl, h1⟩ := dds1 hd
    cases h1 with
    | @tup a ys _ hr ha => exact call_len_seq pins s σ H _ us Q I r ⟨a, ys, rfl, .inr (same_sqT sz hr), by rw [dds_len ha]; exact q _ Z H (Grow.refl sz) (.int _)⟩
  | [.str x], hd, e =>
    change (if x.length ≤ lim then some (PyData.int x.length) else none) = some d at e
    split at e
    case isFalse => cases e
    rename_i hx
    cases e
    obtain ⟨v, rfl, h1⟩ := dds1 hd
    cases h1.str_inv
    exact call_len_str pins s σ H _ us Q I r ⟨x, rfl, Nat.le_trans hx lim_le, q _ Z H (Grow.refl sz) (.int _)⟩
/-- len(name): the list as it stands -/
def fLenN (j : Nat) (env : DEnv) : Option (PyData × DEnv) := (rdB j env).bind fun d => (lenD [d]).map fun n => (n, env)
theorem pd_lenN (j : Nat) (hm : X.mg "len" = none) (hN : X.N[j]? = some y := by rfl) (hv : Vis X.env.scope y := by first | exact Or.inl rfl | exact Or.inr (Or.inl rfl) | exact Or.inr (Or.inr rfl)) (hd : (y == ("__debug__" : Str)) = false := by decide)
    (hcd : (y == ("__classdict__" : Str)) = false := by decide) (hg : Gl X "len" := by rfl) (he : starEach [.Name y pn] X.env = (false, eval (.Name y pn) X.env) :: starEach [] X.env := by rfl) (hpl : (backTo pos (starEach [] X.env)).any (·.1) = false := by rfl) :
    PD X F (.Call (.Name "len" p) [.Name y pn] [] pos) (fLenN j) :=
  pe_imp (pe_callB cd_len hg hm PySem.boot_len (pa_cons (pe_var hN hv hd hcd) pa_nil he) (by decide) (by decide) he hpl) fun σ H Q h => by
    obtain ⟨Z, env, d, env', r, e, q⟩ := h
    obtain ⟨d0, h1, e⟩ := bnd e
    obtain ⟨n, h2, e⟩ := mpd e
    cases e
    obtain ⟨v, sv, dv⟩ := r.rdB h1
    refine ⟨v, sv, H, [d0], d, Same.refl H, .cons dv .nil, h2, fun w Z' H' gr dd => ?_⟩
    have gr' : Grow Z H Z H' := ⟨Same.refl _, r.zh.trans gr.h, gr.h, gr.t, fun _ z => .inl z⟩
    refine q w Z H' (r.grow gr') gr'.stp (dd.scal ?_)
    match d0, h2 with
    | .list _, h2 => cases h2; rfl
    | .tuple _, h2 => cases h2; rfl
    | .str x, h2 =>
      change (if x.length ≤ lim then some (PyData.int x.length) else none) = some d at h2
      split at h2 <;> cases h2
      rfl
def absD : List PyData → Option PyData
  | [.int i] => some (.int (if i < 0 then -i else i))
  | _ => none
theorem cd_abs : CallD X (.builtin "abs") absD := by
  intro pins s σ H xs us Q I r h
  obtain ⟨Z, ds, d, sz, hd, e, q⟩ := h
  match ds, hd, e with
  | [.int i], hd, e =>
    cases e
    obtain ⟨v, rfl, h1⟩ := dds1 hd
    cases h1.int_inv
    exact call_abs pins s σ H _ us Q I r ⟨i, rfl, q _ Z H (Grow.refl sz) (.int _)⟩
def maxD : List PyData → Option PyData
  | [.int i, .int j] => some (.int (if j > i then j else i))
  | _ => none
def minD : List PyData → Option PyData
  | [.int i, .int j] => some (.int (if j < i then j else i))
  | _ => none
theorem cd_max (hc : X.calm = true) : CallD X (.builtin "max") maxD := by
  intro pins s σ H xs us Q I r h
  obtain ⟨Z, ds, d, sz, hd, e, q⟩ := h
  match ds, hd, e with
  | [.int i, .int j], hd, e =>
    cases e
    obtain ⟨v, w, rfl, h1, h2⟩ := dds2 hd
    cases h1.int_inv
    cases h2.int_inv
    exact call_max2 hc pins s σ H _ us Q I r ⟨i, j, rfl, q _ Z H (Grow.refl sz) (.int _)⟩
theorem cd_min (hc : X.calm = true) : CallD X (.builtin "min") minD := by
  intro pins s σ H xs us Q I r h
  obtain ⟨Z, ds, d, sz, hd, e, q⟩ := h
  match ds, hd, e with
  | [.int i, .int j], hd, e =>
    cases e
    obtain ⟨v, w, rfl, h1, h2⟩ := dds2 hd
    cases h1.int_inv
    cases h2.int_inv
    exact call_min2 hc pins s σ H _ us Q I r ⟨i, j, rfl, q _ Z H (Grow.refl sz) (.int _)⟩
def divmodD : List PyData → Option PyData
  | [.int i, .int j] => if cDiv i j then some (.tuple [.int (i / j), .int (i % j)]) else none
  | _ => none
theorem cd_divmod : CallD X (.builtin "divmod") divmodD := by
  intro pins s σ H xs us Q I r h
  obtain ⟨Z, ds, d, sz, hd, e, q⟩ := h
  match ds, hd, e with
  | [.int i, .int j], hd, e =>
    change (if cDiv i j then some (PyData.tuple [.int (i / j), .int (i % j)]) else none) = some d at e
    split at e
    case isFalse => cases e
    rename_i hc
    rw [cDiv, Bool.and_eq_true, decide_eq_true_eq, decide_eq_true_eq] at hc
    cases e
    obtain ⟨v, w, rfl, h1, h2⟩ := dds2 hd
    cases h1.int_inv
    cases h2.int_inv
    exact call_divmod pins s σ H _ us Q I r ⟨i, j, rfl, hc, fun p hp => q _ _ _ (grow_new sz hp _) (new_tup sz hp (.cons (.int _) (.cons (.int _) .nil)))⟩
def tupleD : List PyData → Option PyData
  | [.list ds] => some (.tuple ds)
  | [.tuple ds] => some (.tuple ds)
  | _ => none
theorem cd_tuple : CallD X (.type "tuple") tupleD := by
  intro pins s σ H xs us Q I r h
  obtain ⟨Z, ds, d, sz, hd, e, q⟩ := h
  match ds, hd, e with
  | [.list ds], hd, e =>
    cases e
    obtain ⟨v, rfl, h1⟩ := dds1 hd
    cases h1 with
    | @lst a ys _ hr ha => exact call_tuple_of pins s σ H _ us Q I r ⟨a, ys, rfl, .inl ⟨(same_ls sz hr).sq, fun l hl => q _ _ _ (grow_new sz hl _) (new_tup sz hl ha)⟩⟩
  | [.tuple ds], hd, e =>
    cases e
    obtain ⟨v, rfl, h1⟩ := dds1 hd
    cases h1 with
    | @tup a ys _ hr ha => exact call_tuple_of pins s σ H _ us Q I r ⟨a, ys, rfl, .inr ⟨same_sqT sz hr, q _ Z H (Grow.refl sz) (.tup hr ha)⟩⟩
def boolsD : List PyData → Option (List Bool)
  | [] => some []
  | .bool b :: r => (boolsD r).map (b :: ·)
  | _ => none
theorem bools_of {K : PySem.W.Frag} {Z : Hp} : ∀ {vs : List V} {ds : List PyData} {bs : List Bool}, DDs K Z vs ds → boolsD ds = some bs → vs = bs.map V.bl
  | _, [], bs, h, e => by cases e; cases h; rfl
  | _, .bool b :: r, bs, h, e => by
    obtain ⟨cs, e1, rfl⟩ := mpd e
    cases h with
    | cons h1 h2 =>
      cases h1.bool_inv
      rw [bools_of h2 e1]
      rfl
  | _, .none :: _, _, _, e => by cases e
  | _, .int _ :: _, _, _, e => by cases e
  | _, .str _ :: _, _, _, e => by cases e
  | _, .list _ :: _, _, _, e => by cases e
  | _, .tuple _ :: _, _, _, e => by cases e
  | _, .dict _ :: _, _, _, e => by cases e
def allD : List PyData → Option PyData
  | [.list ds] => (boolsD ds).map fun bs => .bool (bs.all id)
  | _ => none
def anyD : List PyData → Option PyData
  | [.list ds] => (boolsD ds).map fun bs => .bool (bs.any id)
  | _ => none
theorem cd_all (hc : X.calm = true) : CallD X (.builtin "all") allD := by
  intro pins s σ H xs us Q I r h
  obtain ⟨Z, ds, d, sz, hd, e, q⟩ := h
  match ds, hd, e with
  | [.list ds], hd, e =>
    obtain ⟨bs, e1, rfl⟩ := mpd e
    obtain ⟨v, rfl, h1⟩ := dds1 hd
    cases h1 with
    | @lst a ys _ hr ha =>
      have := bools_of ha e1
      subst this
      exact cr_all hc pins s σ H _ us Q I r ⟨a, bs, rfl, (same_ls sz hr).sq, q _ Z H (Grow.refl sz) (.bl _)⟩
theorem cd_any (hc : X.calm = true) : CallD X (.builtin "any") anyD := by
  intro pins s σ H xs us Q I r h
  obtain ⟨Z, ds, d, sz, hd, e, q⟩ := h
  match ds, hd, e with
  | [.list ds], hd, e =>
    obtain ⟨bs, e1, rfl⟩ := mpd e
    obtain ⟨v, rfl, h1⟩ := dds1 hd
    cases h1 with
    | @lst a ys _ hr ha =>
      have := bools_of ha e1
      subst this
      exact cr_any hc pins s σ H _ us Q I r ⟨a, bs, rfl, (same_ls sz hr).sq, q _ Z H (Grow.refl sz) (.bl _)⟩
/-! repr -/
abbrev reprOk (d : PyData) : Bool := d.showable && !d.hasDict && decide (d.shown.length ≤ sizeLine) && decide (d.depth ≤ 64)
def reprD : List PyData → Option PyData
  | [d] => if reprOk d then some (.str d.shown) else none
  | _ => none
theorem cd_repr {k : Nat} (hr : Room k X.A) (hgd : GdOk X.A) (hl : Lab.gd) : CallD X (.builtin "repr") reprD := by
  have hg := hgd hl
  intro pins s σ H xs us Q I r h
  obtain ⟨Z, ds, d, sz, hd, e, q⟩ := h
  match ds, hd, e with
  | [a], hd, e =>
    change (if reprOk a then some (PyData.str a.shown) else none) = some d at e
    split at e
    case isFalse => cases e
    rename_i hc
    rw [reprOk, Bool.and_eq_true, Bool.and_eq_true, Bool.and_eq_true, decide_eq_true_eq, decide_eq_true_eq, Bool.not_eq_true'] at hc
    obtain ⟨⟨⟨c1, c2⟩, c3⟩, c4⟩ := hc
    cases e
    obtain ⟨v, rfl, h1⟩ := dds1 hd
    obtain ⟨u, rfl, rv⟩ := vals1 r
    have hun := hr.un
    have ref : ∀ l, u = .ref l → wpAny (model X.prog X.w) X.A (call (.builtin "repr") [u]) (EP X pins σ Q) X.xe s := fun l hl => by
      subst hl
      obtain ⟨as, rd⟩ := Dp.reads I a v (.ref l) (DD.dp _ _ c2 (DDm h1 sz)) rv
      refine repr_of_reads' rd c1 (fun z => by rw [c2] at z; cases z) hg (by omega) (fun _ _ z => z) (fun h' u tk hk => ?_) c3
      exact ⟨.str _, H, I.kept hk, ⟨_, rfl⟩, q _ Z H (Grow.refl sz) (.str _)⟩
    cases h1 with
    | non => cases rv; exact PySem.P.repr_of_none ⟨.str _, H, I.tok _, ⟨_, rfl⟩, q _ Z H (Grow.refl sz) (.str _)⟩
    | bl b => cases rv; exact PySem.P.repr_of_bool ⟨.str _, H, I.tok _, ⟨_, rfl⟩, q _ Z H (Grow.refl sz) (.str _)⟩
    | int i =>
      obtain ⟨t, rfl⟩ := rv
      exact PySem.P.repr_of_int (of_decide_eq_true c1) ⟨.str _, H, I.tok _, ⟨_, rfl⟩, q _ Z H (Grow.refl sz) (.str _)⟩
    | str z =>
      obtain ⟨t, rfl⟩ := rv
      exact PySem.P.repr_of_str ⟨.str _, H, I.tok _, ⟨_, rfl⟩, q _ Z H (Grow.refl sz) (.str _)⟩ c3
    | lst _ _ => exact ref _ rv
    | tup _ _ => exact ref _ rv
    | dct _ => cases c2
    | dcn _ _ _ => cases c2

/-! ### subscripts -/
def ixD : PyData → PyData → Option PyData
  | .list ds, .int i => atI ds i
  | .tuple ds, .int i => atI ds i
  | _, _ => none
theorem dds_at {K : PySem.W.Frag} {Z : Hp} {vs : List V} {ds : List PyData} {i : Int} {d : PyData} (h : DDs K Z vs ds) (e : atI ds i = some d) : ∃ v, atI vs i = some v ∧ DD K Z v d := by
  unfold atI at e ⊢
  rw [dds_len h]
  obtain ⟨j, e1, e2⟩ := bnd e
  obtain ⟨v, e3, e4⟩ := dds_get h e2
  exact ⟨v, by rw [e1]; exact e3, e4⟩
theorem id_ix : IxR X (r2D X.K ixD) := by
  intro value slice pins s σ H x y v u Q I rx ry h hs
  obtain ⟨Z, a, b, d, sz, ha, hb, e, q⟩ := h
  match a, b, ha, hb, e with
  | .list ds, .int i, ha, hb, e =>
    cases hb.int_inv
    cases ha with
    | @lst p xs _ hr hd =>
      obtain ⟨w, e1, e2⟩ := dds_at hd e
      exact ix_list value slice pins s σ H _ _ v u Q I rx ry ⟨p, xs, i, w, rfl, rfl, (same_ls sz hr).sq, e1, q w Z H (Grow.refl sz) e2⟩ hs
  | .tuple ds, .int i, ha, hb, e =>
    cases hb.int_inv
    cases ha with
    | @tup p xs _ hr hd =>
      obtain ⟨w, e1, e2⟩ := dds_at hd e
      exact ix_tup value slice pins s σ H _ _ v u Q I rx ry ⟨p, xs, i, w, rfl, rfl, same_sqT sz hr, e1, q w Z H (Grow.refl sz) e2⟩ hs
theorem pd_ix (ha : PD X F a f) (hb : PD X F b g) (hs : PlainIx b := by exact fun _ _ => rfl) : PD X F (.Subscript a b pos) (fBin ixD f g) := pe_imp (pe_ix id_ix ha hb hs) fun _ _ _ h => bin_read h
/-- name[i]: the list as it stands -/
def fIxN (j : Nat) (f : DEnv → Option (PyData × DEnv)) (env : DEnv) : Option (PyData × DEnv) := (rdB j env).bind fun _ => (f env).bind fun x => (rdB j x.2).bind fun d => (ixD d x.1).map fun z => (z, x.2)
theorem pd_ixN (j : Nat) (hb : PD X F b f) (hN : X.N[j]? = some y := by rfl) (hv : Vis X.env.scope y := by first | exact Or.inl rfl | exact Or.inr (Or.inl rfl) | exact Or.inr (Or.inr rfl)) (hd : (y == ("__debug__" : Str)) = false := by decide)
    (hcd : (y == ("__classdict__" : Str)) = false := by decide) (hs : PlainIx b := by exact fun _ _ => rfl) : PD X F (.Subscript (.Name y pn) b pos) (fIxN j f) :=
  pe_imp (pe_ix (ix_list.or ix_tup) (pe_var hN hv hd hcd) hb hs) fun σ H Q h => by
    obtain ⟨Z, env, d, env', r, e, q⟩ := h
    obtain ⟨d0, h0, e⟩ := bnd e
    obtain ⟨⟨i, e1⟩, h1, e⟩ := bnd e
    obtain ⟨d1, h2, e⟩ := bnd e
    obtain ⟨z, h3, e⟩ := mpd e
    cases e
    obtain ⟨v, sv, _⟩ := r.rdB h0
    refine ⟨v, sv, Z, env, i, e1, r, h1, fun w Z1 H1 r1 s1 dw => ?_⟩
    unfold rdB at h2
    split at h2
    · rename_i dd ee
      cases h2
      obtain ⟨v', sv', dv⟩ := r1.sl j _ ee
      rw [sv] at sv'
      cases sv'
      match d1, i, dv, dw, h3 with
      | .list ds, .int i, dv, dw, h3 =>
        cases dw.int_inv
        cases dv with
        | @lst p xs _ hr hd =>
          obtain ⟨w, e1, e2⟩ := dds_at hd h3
          exact .inl ⟨p, xs, i, w, rfl, rfl, (same_ls r1.zh hr).sq, e1, q w Z1 H1 r1 s1 e2⟩
      | .tuple ds, .int i, dv, dw, h3 =>
        cases dw.int_inv
        cases dv with
        | @tup p xs _ hr hd =>
          obtain ⟨w, e1, e2⟩ := dds_at hd h3
          exact .inr ⟨p, xs, i, w, rfl, rfl, same_sqT r1.zh hr, e1, q w Z1 H1 r1 s1 e2⟩
    · rename_i ds ee
      cases h2
      obtain ⟨p, xs, sv', _, _, _, hp, hd⟩ := r1.sl j _ ee
      rw [sv] at sv'
      cases sv'
      match i, dw, h3 with
      | .int i, dw, h3 =>
        cases dw.int_inv
        obtain ⟨w, e1, e2⟩ := dds_at hd h3
        exact .inl ⟨p, xs, i, w, rfl, rfl, SqL.of hp, e1, q w Z1 H1 r1 s1 e2⟩
    · rename_i ds ee
      cases h2
      obtain ⟨p, xs, sv', _, hp, hd⟩ := r1.sl j _ ee
      rw [sv] at sv'
      cases sv'
      match i, dw, h3 with
      | .int i, dw, h3 =>
        cases dw.int_inv
        obtain ⟨w, e1, e2⟩ := dds_at hd h3
        exact .inl ⟨p, xs, i, w, rfl, rfl, SqL.of hp, e1, q w Z1 H1 r1 s1 e2⟩
    · cases h2; cases h3
    · cases h2

/-! ### slices -/
def cutD (ds : List PyData) (lo hi : Option Int) : List PyData := (ds.drop (HT.sIx ds.length 0 lo)).take (HT.sIx ds.length ds.length hi - HT.sIx ds.length 0 lo)
theorem dds_cut {K : PySem.W.Frag} {Z : Hp} {vs : List V} {ds : List PyData} (h : DDs K Z vs ds) (lo hi : Option Int) : DDs K Z (cutV vs lo hi) (cutD ds lo hi) := by
  unfold cutV cutD
  rw [dds_len h]
  exact dds_take _ (dds_drop _ h)
def slD (d : PyData) (lo hi : Option Int) : Option PyData := match d with
  | .list ds => some (.list (cutD ds lo hi))
  | .tuple ds => some (.tuple (cutD ds lo hi))
  | _ => none
def rSlD (K : PySem.W.Frag) : V → Option Int → Option Int → Hp → VK → Prop := fun x lo hi H Q => ∃ Z a d, Same Z H ∧ DD K Z x a ∧ slD a lo hi = some d ∧ ∀ v Z' H', Grow Z H Z' H' → DD K Z' v d → Q v H'
theorem sl_data : SlR X (rSlD X.K) := by
  intro pins s σ H x v vl vu lo hi sl Q I rx hs pl pu h
  obtain ⟨Z, a, d, sz, ha, e, q⟩ := h
  match a, ha, e with
  | .list ds, ha, e =>
    cases e
    cases ha with
    | @lst p xs _ hr hd => exact sl_list pins s σ H _ v vl vu lo hi sl Q I rx hs pl pu ⟨p, xs, rfl, (same_ls sz hr).sq, fun p hp => q _ _ _ (grow_new sz hp _) (new_lst sz hp (dds_cut hd lo hi))⟩
  | .tuple ds, ha, e =>
    cases e
    cases ha with
    | @tup p xs _ hr hd =>
      refine sl_tupA pins s σ H _ v vl vu lo hi sl Q I rx hs pl pu ⟨p, xs, rfl, same_sqT sz hr, fun w => ?_, fun _ p hp => q _ _ _ (grow_new sz hp _) (new_tup sz hp (dds_cut hd lo hi))⟩
      have hl := dds_len hd
      have : cutD ds lo hi = ds := by
        unfold cutD
        rw [← hl, w.1, w.2, hl]
        simp
      rw [this] at q
      exact q _ Z H (Grow.refl sz) (.tup hr hd)
def tDO (K : PySem.W.Frag) (F : Fm) (f : DEnv → Option (Option Int × DEnv)) : TO := fun σ H Q => ∃ Z env d env', Rel K F Z H σ env ∧ f env = some (d, env') ∧ ∀ Z' H', Rel K F Z' H' σ env' → Stp σ env Z H env' Z' H' → Q d H'
def PDO (X : Cx) (F : Fm) (e : Option Expr) (f : DEnv → Option (Option Int × DEnv)) : Prop := PO X e (tDO X.K F f)
theorem po_imp {X : Cx} {e : Option Expr} {t t' : TO} (h : PO X e t) (w : ∀ σ H Q, t' σ H Q → t σ H Q) : PO X e t' := ⟨fun pins s σ H Q I q => h.run pins s σ H Q I (w σ H Q q)⟩
def oNone (env : DEnv) : Option (Option Int × DEnv) := some (none, env)
def oSome (f : DEnv → Option (PyData × DEnv)) (env : DEnv) : Option (Option Int × DEnv) := (f env).bind fun x => match x.1 with
  | .int i => some (some i, x.2)
  | _ => none
theorem do_none : PDO X F none oNone := po_imp po_none fun σ H Q h => by
  obtain ⟨Z, env, d, env', r, e, q⟩ := h
  cases e
  exact q Z H r Stp.refl
theorem do_some (ha : PD X F e f) : PDO X F (some e) (oSome f) := po_imp (po_some ha) fun σ H Q h => by
  obtain ⟨Z, env, d, env', r, e, q⟩ := h
  obtain ⟨⟨i, e1⟩, h1, e⟩ := bnd e
  match i, h1, e with
  | .int i, h1, e =>
    cases e
    refine ⟨Z, env, .int i, e1, r, h1, fun v Z1 H1 r1 s1 d1 => ?_⟩
    cases d1.int_inv
    exact ⟨i, rfl, q Z1 H1 r1 s1⟩
def fSl (f : DEnv → Option (PyData × DEnv)) (fl fh : DEnv → Option (Option Int × DEnv)) (env : DEnv) : Option (PyData × DEnv) := (f env).bind fun x => (fl x.2).bind fun l => (fh l.2).bind fun h => (slD x.1 l.1 h.1).map fun d => (d, h.2)
theorem pd_slice {lo hi : Option Expr} {fl fh : DEnv → Option (Option Int × DEnv)} (ha : PD X F e f) (hl : PDO X F lo fl) (hh : PDO X F hi fh) : PD X F (.Subscript e (.Slice lo hi none p2) pos) (fSl f fl fh) := pe_imp (pe_slice sl_data ha hl hh) fun σ H Q h => by
  obtain ⟨Z, env, d, env', r, e, q⟩ := h
  obtain ⟨⟨a, e1⟩, h1, e⟩ := bnd e
  obtain ⟨⟨l, e2⟩, h2, e⟩ := bnd e
  obtain ⟨⟨u, e3⟩, h3, e⟩ := bnd e
  obtain ⟨z, h4, e⟩ := mpd e
  cases e
  refine ⟨Z, env, a, e1, r, h1, fun v Z1 H1 r1 s1 d1 => ⟨Z1, e1, l, e2, r1, h2, fun Z2 H2 r2 s2 => ⟨Z2, e2, u, e3, r2, h3, fun Z3 H3 r3 s3 => ⟨Z3, a, d, r3.zh, DDm (DDm d1 s2.z) s3.z, h4, fun w Z' H' gr dd => ?_⟩⟩⟩⟩
  exact q w Z' H' (r3.grow gr) (((s1.trans s2).trans s3).trans gr.stp) dd

/-! ### list(range(..)), new -/
def nListRg (f : DEnv → Option (PyData × DEnv)) (env : DEnv) : Option (List PyData × DEnv) := (f env).bind fun x => match x.1 with
  | .int j => if j ≤ 100000 ∧ -100000 ≤ j then some (rangeD 0 j.toNat, x.2) else none
  | _ => none
theorem dds_ints {K : PySem.W.Frag} {Z : Hp} : ∀ ns : List Int, DDs K Z (ns.map V.int) (ns.map PyData.int)
  | [] => .nil
  | n :: ns => .cons (.int n) (dds_ints ns)
theorem dds_range {K : PySem.W.Frag} {Z : Hp} (n : Int) : DDs K Z (rgV 0 n) (rangeD 0 n.toNat) := by
  unfold rgV rangeD
  have := dds_ints (K := K) (Z := Z) ((List.range n.toNat).map fun i => (0 : Int) + (i : Nat))
  rw [List.map_map, List.map_map] at this
  rw [show n - 0 = n by omega]
  exact this
theorem pn_listRg (hml : X.mg "list" = none) (hmr : X.mg "range" = none) (ha : PD X F a f) (hc : X.calm = true := by rfl) (hgl : Gl X "list" := by rfl) (hgr : Gl X "range" := by rfl) {q0 q1 : Pos} (na : starEach [a] X.env = (false, eval a X.env) :: starEach [] X.env := by rfl)
    (na2 : starEach [.Call (.Name "range" q0) [a] [] q1] X.env = (false, eval (.Call (.Name "range" q0) [a] [] q1) X.env) :: starEach [] X.env := by rfl) :
    PN X F (.Call (.Name "list" p) [.Call (.Name "range" q0) [a] [] q1] [] pos) (nListRg f) := pe_imp (pe_listRg hc hgl hml (prg_1 hgr hmr ha na) na2) fun σ H Q h => by
  obtain ⟨Z, env, d, env', r, e, q⟩ := h
  obtain ⟨⟨i, e1⟩, h1, e⟩ := bnd e
  match i, h1, e with
  | .int j, h1, e =>
    change (if j ≤ 100000 ∧ -100000 ≤ j then some (rangeD 0 j.toNat, e1) else none) = some (d, env') at e
    split at e
    case isFalse => cases e
    rename_i hj
    cases e
    refine ⟨Z, env, .int j, env', r, h1, fun v Z1 H1 r1 s1 d1 => ?_⟩
    cases d1.int_inv
    refine ⟨j, rfl, ⟨by omega, by omega, by omega, by omega, by omega⟩, fun p hp => ?_⟩
    have gr := grow_own r1.zh hp (.lst (rgV 0 j))
    exact q p _ _ _ (r1.grow gr) (s1.trans gr.stp) (s1.new hp) (r1.zh.free hp) upd_same (dds_range j)

/-! ### isinstance(e, T), T a built-in type -/
def tyN : PyData → String
  | .none => "NoneType"
  | .bool _ => "bool"
  | .int _ => "int"
  | .str _ => "str"
  | .list _ => "list"
  | .tuple _ => "tuple"
  | .dict _ => "dict"
def isiT (T t : String) : Bool := t == T || (t == "bool" && T == "int")
/-- the types of values, those of my own dicts too -/
def TyY (K : PySem.W.Frag) (H : Hp) (x : V) (t : Value) : Prop := TyX K H x t ∨ ∃ (a : Addr) (o : Obj), x = .ref a ∧ t = .type "dict" ∧ H a = some (DnO a o) ∧ o.cls = .type "dict"
theorem kit_ofY {X : Cx} {pins : List (Addr × Obj)} {σ : St} {H : Hp} {s : Shared} {x : V} {u t : Value} (I : Inv X pins σ H s) (rx : RelV x u) (ty : TyY X.K H x t) : ∃ P : Heap → Prop, PySem.W.KitX X.K u t P ∧ P s.heap ∧ u ≠ .builtin "__main__.__loader__#opaque" := by
  rcases ty with ty | ⟨a, o, rfl, rfl, ea, hc⟩
  · exact kit_of I rx ty
  · cases (show u = Value.ref a from rx)
    obtain ⟨h1, _⟩ := (show ObjOk X.prog X.w H s.heap a (DnO a o) from I.hok a _ ea)
    exact ⟨_, PySem.W.kitx_dict, ⟨o, h1, hc⟩, fun z => nomatch z⟩
def rIsiY (K : PySem.W.Frag) : List V → Hp → VK → Prop := fun xs H Q => ∃ (x c : V) (t u : Value) (b : Bool), xs = [x, c] ∧ ClsV c u ∧ TyY K H x t ∧ PySem.W.kitOne K t u = some b ∧ Q (.bl b) H
theorem call_isiY {X : Cx} : CallR X (.builtin "isinstance") (rIsiY X.K) := by
  intro pins s σ H xs us Q I r h
  obtain ⟨x, c, t, u, b, rfl, k, ty, e, q⟩ := h
  obtain ⟨u1, u2, rfl, r1, r2⟩ := vals2 r
  have e2 := k.eq r2
  subst e2
  obtain ⟨P, Z, p, hx⟩ := kit_ofY I r1 ty
  exact PySem.W.kia_one Z I.kIn p e hx fun tk => ⟨.bl b, H, I.tok tk, rfl, q⟩
theorem dd_ty {K : PySem.W.Frag} {H : Hp} {v : V} {d : PyData} (h : DD K H v d) : TyY K H v (.type (tyN d)) := by
  cases h with
  | non => exact .inl <| .base .non
  | bl b => exact .inl <| .base (.bl b)
  | int i => exact .inl <| .base (.int i)
  | str x => exact .inl <| .base (.str x)
  | lst hr _ =>
    rcases hr with (h | ⟨o, h⟩) | ⟨its, n, h, _⟩
    · exact .inl <| .base (.lst h)
    · exact .inl <| .base (.frz h)
    · exact .inl <| .kList h rfl
  | tup hr _ =>
    rcases hr with (h | ⟨o, h⟩) | ⟨o, its, n, h, c, _⟩
    · exact .inl <| .base (.tup h)
    · exact .inl <| .fTuple h
    · exact .inl <| .kTuple h c
  | dct e => exact .inl <| .base (.dK e)
  | dcn e hf _ => exact .inr ⟨_, _, rfl, rfl, e, hf.ex.1⟩
def fIsi (T : String) (f : DEnv → Option (PyData × DEnv)) (env : DEnv) : Option (PyData × DEnv) := (f env).map fun x => (.bool (isiT T (tyN x.1)), x.2)
abbrev KitOk (K : PySem.W.Frag) (T : String) : Prop := ∀ t ∈ ["NoneType", "bool", "int", "str", "list", "tuple", "dict"], PySem.W.kitOne K (.type t) (.type T) = some (isiT T t)
theorem pd_isi {T : String} {tn : Str} (kit : KitOk X.K T) (hm : X.mg "isinstance" = none) (hmT : X.mg tn = none) (hvT : bootBuiltins tn = some (.type T)) (ha : PD X F e f) (hg : Gl X "isinstance" := by rfl) (hgT : Gl X tn := by rfl) (hnT : tn ≠ "__name__" := by decide) (hdT : (tn == ("__debug__" : Str)) = false := by decide)
    (he : starEach [e, .Name tn pn] X.env = (false, eval e X.env) :: starEach [.Name tn pn] X.env := by rfl) (he2 : starEach [.Name tn pn] X.env = (false, eval (.Name tn pn) X.env) :: starEach [] X.env := by rfl) (hpl : (backTo pos (starEach [.Name tn pn] X.env)).any (·.1) = false := by rfl) :
    PD X F (.Call (.Name "isinstance" p) [e, .Name tn pn] [] pos) (fIsi T f) :=
  pe_imp (pe_callB call_isiY hg hm (by decide +kernel) (pa_cons ha (pa_cons (pe_bltn (v := .ty T) hgT hmT hvT rfl hnT hdT) pa_nil he2) he) (by decide) (by decide) he hpl) fun σ H Q h => by
    obtain ⟨Z, env, d, env', r, e, q⟩ := h
    obtain ⟨⟨i, e1⟩, h1, e⟩ := mpd e
    cases e
    refine ⟨Z, env, i, e1, r, h1, fun v Z1 H1 r1 s1 d1 => ⟨v, .ty T, _, _, _, rfl, .ty T, dd_ty (DDm d1 r1.zh), kit _ ?_, q _ Z1 H1 r1 s1 (.bl _)⟩⟩
    cases d1 <;> simp [tyN]
end

/-! ### the end: the law's call -/
/-- tracked at the start: the script, and the tables cs.2 -/
structure St0 (K : PySem.W.Frag) (h : Heap) (cs : List (Addr × Addr)) (a : Addr) (vs : List Value) (ns : List Int) (H : Hp) : Prop where
  at_a : H a = some (.frz { cls := .type "list", data := .seq vs.toArray } (.lst (ns.map V.int))) ∧ K.lookup a = none ∨ H a = none
  at_t : ∀ q, (∃ c, (c, q) ∈ cs) → H q = some (.tbl #[])
  els : ∀ b, b ≠ a → (¬ ∃ c, (c, b) ∈ cs) → H b = none
  ls : LsR K H a (ns.map V.int)
theorem law_callG {P : Program} {w : World} {K : PySem.W.Frag} {mg mb : Str → Option Value} {k : Nat} {fa a : Addr} {fd : FuncData} {x : Str} {m : List PyData → Option PyData} {s1 : Shared} {vs : List Value} {ns : List Int} {cs : List (Addr × Addr)}
    (KX : K.In s1.heap) (hns : s1.heap.Ns mainGlobals mg) (hb : s1.heap.Ns builtinsNs mb) (hbb : ∀ y : Str, y ≠ "__name__" → mb y = bootBuiltins y) (hlim : s1.heap.NoLimit) (hg : s1.gens = #[])
    (tbs : ∀ c q, (c, q) ∈ cs → s1.heap.get? q = some { cls := .none, data := .fields #[] } ∧ K.lookup q = none ∧ PySem.W.CodeHd s1.heap c q)
    (hbm : ∃ (bm : Addr) (ob : Obj), mg "__builtins__" = some (.ref bm) ∧ bm ≠ builtinsNs ∧ s1.heap.get? bm = some ob ∧ ob.cls = .type "module" ∧ ob.dict = some builtinsNs ∧ ob.data = .plain)
    (ha : s1.heap.get? a = some { cls := .type "list", data := .seq vs.toArray }) (hi : IntsAre vs ns) (hl : ns.length ≤ sizeLine) (hr : Room k callerA) (hlab : ∀ q ∈ Lab.T, ∃ c, (c, q.1) ∈ cs)
    (G : ∀ base : Heap, K.In base → base.Ns mainGlobals mg → (∀ c q, (c, q) ∈ cs → LamX.TabB base mg c q) → FnG P w K mg base k fa fd [x] (spF K 1 m)) (hbind : ∀ (s : Shared) (u : Value), BindsTo s fd ⟨[u], []⟩ [(x, u)])
    (hm : m [.list (ns.map PyData.int)] = some (.bool true)) :
    codeAny (model P w) callerA (.call (.ref fa) ⟨[.ref a], []⟩) (fun r s' => r = .ok (.ret (.bool true)) ∧ OldK s1.heap s'.heap ∧ s'.os = s1.os ∧ AllBare s'.gens) s1 := by
  classical
  have rv := vals_ints hi
  have aT : ¬ ∃ c, (c, a) ∈ cs := fun ⟨c, hc⟩ => by
    have q := (tbs c a hc).1
    rw [ha] at q
    have z' : Data.seq vs.toArray _ = Data.fields #[] := congrArg Obj.data (Option.some.inj q)
    cases z'
  have core : ∀ H : Hp, St0 K s1.heap cs a vs ns H → HOk P w H s1.heap →
      codeAny (model P w) callerA (.call (.ref fa) ⟨[.ref a], []⟩) (fun r s' => r = .ok (.ret (.bool true)) ∧ OldK s1.heap s'.heap ∧ s'.os = s1.os ∧ AllBare s'.gens) s1 := by
   intro H S0 hok
   -- an object that is neither the script nor a table
   have und : ∀ {b : Addr} {o : Obj}, s1.heap.get? b = some o → (∀ us n, o.data ≠ .seq us n) → o.data ≠ .fields #[] → (hidT s1.heap H).get? b = some o := fun {b o} e h1 h2 => by
     refine hidT_get e (S0.els b (fun z => ?_) fun ⟨c, hc⟩ => ?_)
     · rw [z, ha] at e
       cases e
       exact h1 _ _ rfl
     · rw [(tbs c b hc).1] at e
       cases e
       exact h2 rfl
   have nsK : ∀ {b : Addr} {m' : Str → Option Value}, s1.heap.Ns b m' → (hidT s1.heap H).Ns b m' := fun {b m'} ⟨o, es, ep, e, d, r⟩ => ⟨o, es, ep, und e (fun _ _ z => by rw [d] at z; cases z) (fun z => by rw [d] at z; cases z), d, r⟩
   have hKb : K.In (hidT s1.heap H) := fun b o e => hidT_get (KX b o e) (by
      by_cases z : b = a
      · subst z
        rcases S0.at_a with ⟨_, Ha⟩ | Ha
        · rw [Ha] at e; cases e
        · exact Ha
      · exact S0.els b z fun ⟨c, hc⟩ => by rw [(tbs c b hc).2.1] at e; cases e)
   have hM : Mod K mg (hidT s1.heap H) := by
     refine ⟨hKb, nsK hns, ⟨mb, nsK hb, hbb⟩, ?_⟩
     obtain ⟨mc, h1, h2⟩ := hlim
     exact ⟨mc, nsK h1, h2⟩
   have gT : ∀ c q, (c, q) ∈ cs → LamX.TabB (hidT s1.heap H) mg c q := fun c q hc => by
     obtain ⟨t1, _, o, us, fl, x1, x2, x3, x4, x5, x6, e1, r1, r2, r3⟩ := tbs c q hc
     refine ⟨⟨o, us, fl, x1, x2, x3, x4, x5, x6, und e1 (fun _ _ z => by rw [r2] at z; cases z) (fun z => ?_), r1, r2, r3⟩, ?_, fun z => ?_⟩
     · rw [r2] at z
       cases z
       have := r3.1
       simp at this
     · obtain ⟨bm, ob, b1, b2, b3, b4, b5, b6⟩ := hbm
       refine ⟨bm, ob, b1, b2, fun z => ?_, fun z => ?_, und b3 (fun _ _ z => by rw [b6] at z; cases z) (fun z => by rw [b6] at z; cases z), b4, b5, b6⟩
       · obtain ⟨og, es, ep, e, hd, _⟩ := hns
         rw [z, e] at b3
         cases b3
         rw [hd] at b6
         cases b6
       · rw [z, t1] at b3
         cases b3
         cases b6
     · obtain ⟨og, es, ep, e, hd, _⟩ := hns
       rw [z, t1] at e
       cases e
       cases hd
   have e0 : Env0 P w K mg (hidT s1.heap H) callerA [] s1 H := by
     refine ⟨rfl, hM, fun b o e => of_hidT e, Nat.le_of_eq (hidT_size _ _), trivial, fun b hb => ?_, hok, .of_eq hg⟩
     cases (show b ∈ ([] : List Addr) from hb)
   have tb : TB H := fun q hq => LamX.TabS.nil (S0.at_t q.1 (hlab q hq))
   refine codeAny_mono ((G _ hKb (nsK hns) gT).run callerA [] s1 H ⟨[.ref a], []⟩ [.ref a] [.ref a] (fun v _ => v = .bl true) E0 (fun _ => rfl) hr e0 (hbind s1 (.ref a)) (.cons rfl .nil) ⟨rfl, H, _, _, Same.refl H, tb, .cons (.lst S0.ls (dds_ints ns)) .nil, hm, fun v Z' H' gr dd => dd.bool_inv⟩) fun r s' h => ?_
   cases r with
   | error e => cases h
   | ok fl =>
     cases fl with
     | next => cases h
     | brk => cases h
     | cont => cases h
     | ret u =>
       obtain ⟨v, H', os, bare, un, hok', r', q⟩ := h
       cases (show v = .bl true from q)
       cases (show u = Value.bool true from r')
       have kept : ∀ b o, (¬ ∃ c, (c, b) ∈ cs) → s1.heap.get? b = some o → s'.heap.get? b = some o := fun b o nb e => by
         have plain : H b = none → s'.heap.get? b = some o := fun hn => by
           refine un.keep b o e hn (fun z => ?_) (fun z => by cases z)
           cases (show b ∈ ([] : List Addr) from z)
         by_cases hba : b = a
         · subst hba
           rcases S0.at_a with ⟨Ha, _⟩ | Ha
           · obtain ⟨e1, _⟩ := hok b _ Ha
             obtain ⟨e2, _⟩ := hok' b _ (un.frzs b _ _ Ha)
             rw [e] at e1; cases e1
             exact e2
           · exact plain Ha
         · exact plain (S0.els b hba nb)
       have tabs : ∀ b, (∃ c, (c, b) ∈ cs) → ∃ more : Array Value, s'.heap.get? b = some { cls := .none, data := .fields more } := fun b hb => by
         obtain ⟨more, z⟩ := un.tbls b #[] (S0.at_t b hb)
         exact ⟨_, hok' b _ z⟩
       refine ⟨rfl, ⟨fun b o e => ?_, fun b o e => ?_⟩, os, bare⟩
       · by_cases hb : ∃ c, (c, b) ∈ cs
         · obtain ⟨more, hmore⟩ := tabs b hb
           obtain ⟨c, hc⟩ := hb
           obtain ⟨t1, _, hd⟩ := tbs c b hc
           have e' := e.symm.trans t1
           cases e'
           refine .inr (.inl ⟨(hd.tab t1).isCodeTable, rfl, #[], more, rfl, ?_⟩)
           rw [Array.empty_append]
           exact hmore
         · exact .inl (kept b o hb e)
       · by_cases hb : ∃ c, (c, b) ∈ cs
         · obtain ⟨more, hmore⟩ := tabs b hb
           exact ⟨_, hmore⟩
         · exact ⟨o, kept b o hb e⟩
  cases hk : K.lookup a with
  | some o =>
    have e := KX a o hk
    rw [ha] at e
    cases e
    refine core (fun b => if ∃ c, (c, b) ∈ cs then some (.tbl #[]) else none) ⟨.inr (if_neg aT), fun q h => if_pos h, fun b _ h => if_neg h, .inr ⟨vs, _, hk, by rw [List.length_map]; exact hl, rv⟩⟩ fun b u z => ?_
    by_cases h : ∃ c, (c, b) ∈ cs
    · have z' := (if_pos h).symm.trans z
      cases z'
      obtain ⟨c, hc⟩ := h
      exact (tbs c b hc).1
    · have z' := (if_neg h).symm.trans z
      cases z'
  | none =>
    refine core (fun b => if b = a then some (.frz { cls := .type "list", data := .seq vs.toArray } (.lst (ns.map V.int))) else if ∃ c, (c, b) ∈ cs then some (.tbl #[]) else none) ⟨.inl ⟨if_pos rfl, hk⟩, fun q h => ?_, fun b hb h => (if_neg hb).trans (if_neg h), .inl (.inr ⟨_, if_pos rfl⟩)⟩ fun b u z => ?_
    · have : q ≠ a := fun z => aT (z ▸ h)
      exact (if_neg this).trans (if_pos h)
    · by_cases e : b = a
      · subst e
        have z' := (if_pos rfl).symm.trans z
        cases z'
        exact ⟨ha, by rw [List.length_map]; exact hl, vs, _, rv, ha⟩
      · have z1 := (if_neg e).symm.trans z
        by_cases h : ∃ c, (c, b) ∈ cs
        · have z' := (if_pos h).symm.trans z1
          cases z'
          obtain ⟨c, hc⟩ := h
          exact (tbs c b hc).1
        · have z' := (if_neg h).symm.trans z1
          cases z'
end DL
end L2

set_option Elab.async false
set_option maxRecDepth 100000
set_option maxHeartbeats 4000000
set_option autoImplicit false
namespace L2
namespace DL
open PySem PySem.Spec PyProof.Rows
variable [Lab]
/-! ### enumerate over a tuple -/
theorem meets_enum1 {v : Value} {o : Obj} {B : Heap → Prop} (b : PySem.Begins v o B) :
    Meets (Builtin.«enumerate.__new__» ⟨[.type "enumerate", v], []⟩) (fun _ R s => B s.heap ∧
      R (.ok (.ret (.ref (s.heap.push o).objs.size))) { s with heap := (s.heap.push o).push { cls := .type "enumerate", data := .fields #[.none, .bool false, .ref s.heap.objs.size, rawInt 0, .none, .none] } }) :=
  .of_wp fun prog w A R s h => by
    obtain ⟨hp, g, d, tk, os⟩ := s
    obtain ⟨h1, h⟩ := h
    have hsub := sub_enumerate
    have q1 : ∀ {A' : Around} {E : Value → Shared → Prop} {Q : Value → Shared → Prop}, Q (.ref hp.objs.size) ⟨hp.push o, g, d, tk, os⟩ → wpAny (model prog w) A' (pyIter v) Q E ⟨hp, g, d, tk, os⟩ :=
      fun q => b.iter prog w _ _ ⟨hp, g, d, tk, os⟩ _ h1 q
    wp_walk using q1
    refine wpAny_stack_any fun st => wpAny_pure ?_
    split
    · rename_i c _ _ _ _ _
      cases (c == Value.type "enumerate") <;> (wp_walk using q1; exact ⟨_, rfl, h⟩)
    · wp_walk using q1
      exact ⟨_, rfl, h⟩
theorem call_enumT {prog : Program} {w : World} {A : Around} {E : Value → Shared → Prop} {s : Shared} {t : Addr} {items : Array Value} {Q : Value → Shared → Prop} (ht : s.heap.IsTuple t items)
    (h : ∀ h', IsEnum h' (s.heap.objs.size + 1) s.heap.objs.size 0 .none → h'.IsTupleIter s.heap.objs.size t 0 → (∀ b o, s.heap.get? b = some o → h'.get? b = some o) → Q (.ref (s.heap.objs.size + 1)) { s with heap := h' }) :
    wpAny (model prog w) A (call (.type "enumerate") [.ref t]) Q E s := by
  refine callType_new F.called_enumerate (by decide) (F.typeCall_enumerate_1 _) (F.newCall_enumerate_1 _) (fun obj => F.args_object_init_2 obj _) F.entry_enumerate_new (meets_enum1 (begins_tuple t items)) ⟨ht, ?_⟩
  have z : (s.heap.push { cls := .type "tuple_iterator", data := .fields #[.ref t, .int 0 0] }).objs.size = s.heap.objs.size + 1 := Heap.size_push ..
  show _ ∧ _
  rw [z]
  have e : IsEnum ((s.heap.push { cls := .type "tuple_iterator", data := .fields #[.ref t, .int 0 0] }).push { cls := .type "enumerate", data := .fields #[.none, .bool false, .ref s.heap.objs.size, rawInt 0, .none, .none] }) (s.heap.objs.size + 1) s.heap.objs.size 0 .none := by
    have q := Heap.get?_push_size (s.heap.push { cls := .type "tuple_iterator", data := .fields #[.ref t, .int 0 0] }) (o := { cls := .type "enumerate", data := .fields #[.none, .bool false, .ref s.heap.objs.size, rawInt 0, .none, .none] }) rfl
    rw [z] at q
    exact q
  exact ⟨⟨_, e, rfl⟩, h _ e ⟨_, Heap.get?_push_of_some _ (Heap.get?_push_size _ rfl), rfl, rfl⟩ fun b o x => Heap.get?_push_of_some _ (Heap.get?_push_of_some _ x)⟩
def Iet (K : PySem.W.Frag) (a : Addr) : It :=
  ⟨fun i H => ∃ (xs : List V) (x : V), SqT K H a xs ∧ xs[i]? = some x, fun i H v H' => ∃ T x, v = .ref T ∧ H T = none ∧ H' = upd H T (.tup [.int (i : Nat), x]) ∧ ∀ xs, SqT K H a xs → xs[i]? = some x, fun i H => ∃ xs : List V, SqT K H a xs ∧ xs.length = i⟩
theorem turn_enumT {P : Program} {w : World} {K : PySem.W.Frag} {elts : List Expr} {kk : Nat} {tpos : Pos} (a e it : Addr) :
    Turn P w K (.Tuple elts kk tpos) (Iet K a) [e, it] e (fun i h => (∃ old, IsEnum h e it ((i : Nat) : Int) old) ∧ h.IsTupleIter it a i ∧ e ≠ it) where
  mem := by simp
  obj := fun i h st b hb => by
    obtain ⟨⟨old, he⟩, ⟨o, ho, _, hd⟩, _⟩ := st
    rcases (show b = e ∨ b = it by simpa using hb) with z | z
    · rw [z]; exact ⟨_, he, fun v q => nomatch q⟩
    · rw [z]; exact ⟨o, ho, fun v q => by rw [hd] at q; cases q⟩
  keep := fun i h h' st k => by
    obtain ⟨⟨old, he⟩, hi, hne⟩ := st
    exact ⟨⟨old, k e (by simp) _ he⟩, hi.at fun o q => k it (by simp) o q, hne⟩
  item := by
    intro X hP hw hK hc i pins s σ H E I hf st hg
    subst hP hw hK
    obtain ⟨⟨old, he⟩, hit, hne⟩ := st
    obtain ⟨xs, x, hq, hx⟩ := hg
    obtain ⟨its, rv, p, hz⟩ := I.tuple hq
    obtain ⟨u, hu, ru⟩ := rv.get hx
    have hel : e < s.heap.objs.size := Heap.lt_size he
    have hil : it < s.heap.objs.size := by obtain ⟨_, q, _⟩ := hit; exact Heap.lt_size q
    have hae : e ≠ a := fun z => by
      obtain ⟨o, h1, h2, _⟩ := p
      rw [← z] at h1
      have he' : s.heap.get? e = some _ := he
      rw [he'] at h1
      cases h1
      exact absurd (Value.type.inj h2) (by decide)
    have hai : a ≠ it := fun z => by
      obtain ⟨o, h1, h2, _⟩ := p
      obtain ⟨o', h3, h4, _⟩ := hit
      rw [z, h3] at h1
      cases h1
      rw [h4] at h2
      exact absurd (Value.type.inj h2) (by decide)
    have hlt : i < its.toArray.size := by
      obtain ⟨hl, _⟩ := List.getElem?_eq_some_iff.mp hu
      simpa using hl
    refine wpAny_pyNext_enum_itemD (Draws.tuple (A := X.A.in1) (I.ok.hd hc) it a hai its.toArray) he ⟨hit, p⟩ hlt hne (by simp; exact ⟨hne, hae⟩) fun y h' tk hy ho hst hT hsz hk => ?_
    have ey : y = u := by
      have : its.toArray[i]? = some u := by simpa using hu
      rw [this] at hy
      exact (Option.some.inj hy).symm
    subst ey
    refine ⟨_, rfl, wpAny_letOwnedTupleGo_enum (s := { s with heap := h', toks := tk + 1 }) ho fun h'' he' sb => ?_⟩
    have hT2 : h''.get? s.heap.objs.size = some { cls := .type "tuple", data := .seq #[.int i tk, y] } := (sb.2 _ (Nat.ne_of_gt hel)).trans hT
    have new : ObjOk X.prog X.w (upd H s.heap.objs.size (.tup [.int (i : Nat), x])) h'' s.heap.objs.size (.tup [.int (i : Nat), x]) := by
      refine ⟨by show 2 ≤ sizeLine; decide, [.int i tk, y], .cons ⟨_, rfl⟩ (.cons ru .nil), ⟨_, hT2, rfl, _, rfl⟩⟩
    have I1 : Inv X pins σ (upd H s.heap.objs.size (.tup [.int (i : Nat), x])) { s with heap := h'', toks := tk + 1 } := by
      refine I.turnedNew (ch := [e, it]) (fun b ob hb q => ?_) hf (Nat.le_refl _) new
      have nbe : b ≠ e := fun z => hb (by simp [z])
      have nbi : b ≠ it := fun z => hb (by simp [z])
      exact (sb.2 b nbe).trans (hk b ob nbe nbi q)
    refine ⟨.ref s.heap.objs.size, _, I1, rfl, ⟨_, x, rfl, I.hok.fresh (Nat.le_refl _), rfl, fun ys hy => by rw [I.tuple_inj hy hq]; exact hx⟩, ⟨⟨y, ?_⟩, hst.1.at fun o q => (sb.2 it (Ne.symm hne)).trans q, hne⟩, fun b hb => ?_⟩
    · rw [show ((i + 1 : Nat) : Int) = (i : Int) + 1 by omega]
      exact he'
    · have hb' : b < s.heap.objs.size := by
        rcases (show b = e ∨ b = it by simpa using hb) with z | z
        · rw [z]; exact hel
        · rw [z]; exact hil
      rw [upd_ne (Nat.ne_of_lt hb')]
      exact (hf b hb).1
  done := by
    intro X hP hw hK hc i pins s σ H E I hf st hg
    subst hP hw hK
    obtain ⟨⟨old, he⟩, hit, hne⟩ := st
    obtain ⟨xs, hq, hx⟩ := hg
    obtain ⟨its, rv, p, hz⟩ := I.tuple hq
    obtain ⟨f0, f1, f2, f3, f4, f5⟩ := hf it (by simp)
    have hl := rv.length
    have hai : a ≠ it := fun z => by
      obtain ⟨o, h1, h2, _⟩ := p
      obtain ⟨o', h3, h4, _⟩ := hit
      rw [z, h3] at h1
      cases h1
      rw [h4] at h2
      exact absurd (Value.type.inj h2) (by decide)
    have hsz : its.toArray.size = i := by rw [List.size_toArray]; omega
    refine wpAny_pyNext_enum_endD (Draws.tuple (A := X.A.in1) (I.ok.hd hc) it a hai its.toArray) he ⟨by rw [hsz]; exact hit, p⟩ fun h' eb => ?_
    exact ⟨rfl, I.turned (t' := s.toks) (fun b o hb q => eb b o hb q) f0 f1 f3 f4 f5⟩
  self := fun A i s Q E st h => by
    obtain ⟨⟨_, he⟩, _⟩ := st
    exact wpAny_pyIter_enum he h
def iEnumT (K : PySem.W.Frag) (ta : TA) : TI := fun σ H R => ta σ H fun vs H1 => ∃ a xs, vs = [.ref a] ∧ SqT K H1 a xs ∧ R (Iet K a) H1
theorem pi_enumT {X : Cx} {e : Expr} {ta : TA} {p pos tpos : Pos} {elts : List Expr} {kk : Nat} (hg : Gl X "enumerate") (hm : X.mg "enumerate" = none) (ha : PA X [e] ta) (hs : starEach [e] X.env = [(false, eval e X.env)] := by rfl) :
    PI X (.Tuple elts kk tpos) (.Call (.Name "enumerate" p) [e] [] pos) (iEnumT X.K ta) := by
  refine ⟨fun pins s σ H R I h => Call_ (ld_blt I hg hm boot_enumerate (PyProof.Rows.callWith_type1 (thn (ha.run pos pins s σ H _ I h) ?_) hs rfl))⟩
  rintro us s1 ⟨vs, H1, I1, r1, a, xs, rfl, hq, q⟩
  cases r1 with
  | cons r rr =>
    cases rr
    cases r
    obtain ⟨its, rv, p', hz⟩ := I1.tuple hq
    refine call_enumT p' fun h' he hit hk => wpAny_pyIter_enum he ?_
    have I2 : Inv X pins σ H1 { s1 with heap := h' } := I1.kept (t' := s1.toks) hk
    refine ⟨s1.heap.objs.size + 1, [s1.heap.objs.size + 1, s1.heap.objs.size], _, _, H1, rfl, I2, turn_enumT a (s1.heap.objs.size + 1) s1.heap.objs.size, ⟨⟨.none, he⟩, hit, Nat.succ_ne_self _⟩, fun b hb => ?_, q⟩
    have hle : s1.heap.objs.size ≤ b := by
      rcases (show b = s1.heap.objs.size + 1 ∨ b = s1.heap.objs.size by simpa using hb) with z | z <;> rw [z]
      · exact Nat.le_add_right _ _
      · exact Nat.le_refl _
    exact I1.fpOk hle (I1.hok.fresh hle)
theorem walk_enumT {K : PySem.W.Frag} {a : Addr} {xs : List V} : Walk (Iet K a) xs.length (fun H => SqT K H a xs) (YPair (fun i => some (.int (i : Nat))) (fun i => xs[i]?)) := by
  refine ⟨fun i _ hi q => ⟨xs, xs[i], q, by simp [hi]⟩, fun _ q => ⟨xs, q, rfl⟩, fun i H v H' _ q y => ?_⟩
  obtain ⟨T, x, h1, h2, h3, h4⟩ := y
  exact ⟨T, .int (i : Nat), x, h1, h2, h3, rfl, h4 xs q⟩
theorem wd_enumT {K : PySem.W.Frag} {Z : Hp} {a : Addr} {xs : List V} {ds : List PyData} (h : SqT K Z a xs) (hd : DDs K Z xs ds) : WalkD K (Iet K a) Z (enumD ds) := by
  refine ⟨_, _, ((enumD_len ds).trans (dds_len hd).symm) ▸ walk_enumT (K := K) (a := a) (xs := xs), fun H s => same_sqT s h, fun i H x H' Zc hi y s1 s2 => ?_⟩
  obtain ⟨T, u, v, rfl, nT, rfl, e1, e2⟩ := y
  cases e1
  obtain ⟨d, e3, e4⟩ := dds_get' hd e2
  exact ⟨_, _, grow_new s2 nT _, enumD_get e3, new_tup s2 nT (.cons (.int _) (.cons (DDm e4 s1) .nil))⟩
def enumTA : List PyData → Option (List PyData)
  | [.list ds] => some (enumD ds)
  | [.tuple ds] => some (enumD ds)
  | _ => none
theorem di_enumA {X : Cx} {F : Fm} {e : Expr} {fa : DEnv → Option (List PyData × DEnv)} {p pos : Pos} {elts : List Expr} {kk : Nat} {tpos : Pos} (hm : X.mg "enumerate" = none) (ha : PDA X F [e] fa) (hg : Gl X "enumerate" := by rfl) (hs : starEach [e] X.env = [(false, eval e X.env)] := by rfl) :
    PDI X F (.Tuple elts kk tpos) (.Call (.Name "enumerate" p) [e] [] pos) (iArg enumTA fa) := pi_imp (pi_orr (pi_enum hg hm ha hs) (pi_enumT hg hm ha hs)) fun σ H Q h => by
  obtain ⟨Z, env, ds, env', r, e, q⟩ := h
  obtain ⟨⟨d, e1⟩, h1, h⟩ := bnd e
  obtain ⟨ds', h2, h⟩ := mpd h
  cases h
  match d, h1, h2 with
  | [.list js], h1, h2 =>
    cases h2
    refine .inl ⟨Z, env, _, e1, r, h1, fun vs Z1 H1 r1 s1 d1 => ?_⟩
    obtain ⟨v, rfl, d2⟩ := dds1 d1
    cases d2 with
    | @lst a xs _ hr hd => exact ⟨a, xs, rfl, (same_ls r1.zh hr).sq, q _ Z1 H1 r1 s1 (wd_enum hr hd)⟩
  | [.tuple js], h1, h2 =>
    cases h2
    refine .inr ⟨Z, env, _, e1, r, h1, fun vs Z1 H1 r1 s1 d1 => ?_⟩
    obtain ⟨v, rfl, d2⟩ := dds1 d1
    cases d2 with
    | @tup a xs _ hr hd => exact ⟨a, xs, rfl, same_sqT r1.zh hr, q _ Z1 H1 r1 s1 (wd_enumT hr hd)⟩
/-! ### isinstance over written types -/
theorem kit_int (K : PySem.W.Frag) : KitOk K "int" := by
  intro t ht
  simp only [List.mem_cons, List.not_mem_nil, or_false] at ht
  rcases ht with rfl | rfl | rfl | rfl | rfl | rfl | rfl <;> rfl
theorem kit_bool (K : PySem.W.Frag) : KitOk K "bool" := by
  intro t ht
  simp only [List.mem_cons, List.not_mem_nil, or_false] at ht
  rcases ht with rfl | rfl | rfl | rfl | rfl | rfl | rfl <;> rfl
theorem kit_str (K : PySem.W.Frag) : KitOk K "str" := by
  intro t ht
  simp only [List.mem_cons, List.not_mem_nil, or_false] at ht
  rcases ht with rfl | rfl | rfl | rfl | rfl | rfl | rfl <;> rfl
theorem kit_tuple (K : PySem.W.Frag) : KitOk K "tuple" := by
  intro t ht
  simp only [List.mem_cons, List.not_mem_nil, or_false] at ht
  rcases ht with rfl | rfl | rfl | rfl | rfl | rfl | rfl <;> rfl
theorem kit_list (K : PySem.W.Frag) : KitOk K "list" := by
  intro t ht
  simp only [List.mem_cons, List.not_mem_nil, or_false] at ht
  rcases ht with rfl | rfl | rfl | rfl | rfl | rfl | rfl <;> rfl
/-! ### tests that compare -/
section
variable {X : Cx} {F : Fm} {a b c e : Expr} {pos p : Pos} {f g k : DEnv → Option (PyData × DEnv)}
def IsB (o : PyData → PyData → Option PyData) : Prop := ∀ a b d, o a b = some d → ∃ k, d = .bool k
theorem tst_read {K : PySem.W.Frag} {t : TE} {f : DEnv → Option (PyData × DEnv)} (hb : ∀ env d e, f env = some (d, e) → ∃ k, d = .bool k) (ht : ∀ σ H Q, tD K F f σ H Q → t σ H Q) {σ : St} {H : Hp} {Q : Bool → Hp → Prop} (h : tDT K F (fTst f) σ H Q) : tTest t σ H Q := by
  obtain ⟨Z, env, d, env', r, e, q⟩ := h
  obtain ⟨⟨x, e1⟩, h1, h⟩ := bnd e
  obtain ⟨k, h2, h⟩ := mpd h
  cases h
  obtain ⟨k', rfl⟩ := hb _ _ _ h1
  cases h2
  exact ht σ H _ ⟨Z, env, _, e1, r, h1, fun v Z1 H1 r1 s1 d1 => ⟨_, d1.bool_inv, q Z1 H1 r1 s1⟩⟩
theorem fBin_b {o : PyData → PyData → Option PyData} (hb : IsB o) (env : DEnv) (d : PyData) (e : DEnv) (h : fBin o f g env = some (d, e)) : ∃ k, d = .bool k := by
  obtain ⟨x, _, h⟩ := bnd h
  obtain ⟨y, _, h⟩ := bnd h
  obtain ⟨z, h1, h⟩ := mpd h
  cases h
  exact hb _ _ _ h1
theorem pdt_cmp {op : CmpOp} {o : PyData → PyData → Option PyData} (ho : OpD X (compareOp op) o) (hb : IsB o) (ha : PD X F a f) (hc : PD X F b g) (hm : behindInMarks op b = false := by first | exact nomark _ | rfl) : PDT X F (.Compare a [op] [b] pos) (fTst (fBin o f g)) :=
  pt_imp (pt_cmpR ho ha hc hm) fun _ _ _ h => tst_read (fBin_b hb) (fun _ _ _ h => bin_read h) h
theorem cmpN_read {K : PySem.W.Frag} {o : PyData → PyData → Option PyData} {i : Nat} (hs : ∀ a b d, o a b = some d → scalD d = true) {σ : St} {H : Hp} {Q : VK} (h : tD K F (fCmpN o f i) σ H Q) : tOp (r2D K o) (tD K F f) (tVar i) σ H Q := by
  obtain ⟨Z, env, d, env', r, e, q⟩ := h
  obtain ⟨⟨x, e1⟩, h1, h⟩ := bnd e
  obtain ⟨y, h2, h⟩ := bnd h
  obtain ⟨d', h3, h⟩ := mpd h
  cases h
  refine ⟨Z, env, x, e1, r, h1, fun v1 Z1 H1 r1 s1 d1 => ?_⟩
  obtain ⟨v, ev, dv⟩ := r1.rdB h2
  refine ⟨v, ev, H1, x, y, d, Same.refl H1, DDm d1 r1.zh, dv, h3, fun v' Z' H' gr dd => ?_⟩
  have gr' : Grow Z1 H1 Z1 H' := ⟨Same.refl _, r1.zh.trans gr.h, gr.h, gr.t, fun _ z => .inl z⟩
  exact q v' Z1 H' (r1.grow gr') (s1.trans gr'.stp) (dd.scal (hs _ _ _ h3))
theorem pdt_cmpN {op : CmpOp} {o : PyData → PyData → Option PyData} (ho : OpD X (compareOp op) o) (hs : ∀ a b d, o a b = some d → scalD d = true) (hb : IsB o) (ha : PD X F a f) (i : Nat) {x : Str} (hm : behindInMarks op (.Name x p) = false := by first | exact nomark _ | rfl)
    (hN : X.N[i]? = some x := by rfl) (hv : Vis X.env.scope x := by first | exact Or.inl rfl | exact Or.inr (Or.inl rfl) | exact Or.inr (Or.inr rfl)) (hd : (x == ("__debug__" : Str)) = false := by decide)
    (hcd : (x == ("__classdict__" : Str)) = false := by decide) : PDT X F (.Compare a [op] [.Name x p] pos) (fTst (fCmpN o f i)) :=
  pt_imp (pt_cmpR ho ha (pe_var hN hv hd hcd) hm) fun _ _ _ h => tst_read (fun env d e h => by
    obtain ⟨x, _, h⟩ := bnd h
    obtain ⟨y, _, h⟩ := bnd h
    obtain ⟨z, h1, h⟩ := mpd h
    cases h
    exact hb _ _ _ h1) (fun _ _ _ h => cmpN_read hs h) h
theorem chain_read {K : PySem.W.Frag} {o o' : PyData → PyData → Option PyData} {σ : St} {H : Hp} {Q : VK} (h : tD K F (fChain o o' f g k) σ H Q) : tChain (r2D K o) (r2D K o') (tD K F f) (tD K F g) (tD K F k) σ H Q := by
  obtain ⟨Z, env, d, env', r, e, q⟩ := h
  obtain ⟨⟨x, e1⟩, h1, h⟩ := bnd e
  obtain ⟨⟨y, e2⟩, h2, h⟩ := bnd h
  obtain ⟨z, h3, h⟩ := bnd h
  refine ⟨Z, env, x, e1, r, h1, fun v1 Z1 H1 r1 s1 d1 => ⟨Z1, e1, y, e2, r1, h2, fun v2 Z2 H2 r2 s2 d2 => ⟨Z2, x, y, z, r2.zh, DDm d1 s2.z, d2, h3, fun vz Z3 H3 gr dz => ?_⟩⟩⟩
  have s12 := s1.trans s2
  match z, h, dz with
  | .bool true, h, dz =>
    obtain ⟨⟨w, e3⟩, h4, h⟩ := bnd h
    obtain ⟨d', h5, h⟩ := mpd h
    cases h
    cases dz.bool_inv
    refine ⟨true, rfl, iteT ⟨Z3, e2, w, e3, r2.grow gr, h4, fun v3 Z4 H4 r4 s4 d4 => ⟨Z4, y, w, d, r4.zh, DDm (DDm d2 gr.z) s4.z, d4, h5, fun v5 Z5 H5 g5 d5 => ?_⟩⟩⟩
    exact q v5 Z5 H5 (r4.grow g5) (((s12.trans gr.stp).trans s4).trans g5.stp) d5
  | .bool false, h, dz =>
    cases h
    cases dz.bool_inv
    exact ⟨false, rfl, iteF (q _ Z3 H3 (r2.grow gr) (s12.trans gr.stp) (.bl false))⟩
theorem pdt_chain {op op' : CmpOp} {o o' : PyData → PyData → Option PyData} (ho : OpD X (compareOp op) o) (ho' : OpD X (compareOp op') o') (hb' : IsB o') (ha : PD X F a f) (hb : PD X F b g) (hc : PD X F c k) (hm : lastMarks [op, op'] [b, c] = false := by with_unfolding_all rfl) :
    PDT X F (.Compare a [op, op'] [b, c] pos) (fTst (fChain o o' f g k)) := pt_imp (pt_chain ho ho' ha hb hc hm) fun _ _ _ h => tst_read (fun env d e h => by
  obtain ⟨x, _, h⟩ := bnd h
  obtain ⟨y, _, h⟩ := bnd h
  obtain ⟨z, _, h⟩ := bnd h
  match z, h with
  | .bool true, h =>
    obtain ⟨w, _, h⟩ := bnd h
    obtain ⟨z, h1, h⟩ := mpd h
    cases h
    exact hb' _ _ _ h1
  | .bool false, h => cases h; exact ⟨_, rfl⟩) (fun _ _ _ h => chain_read h) h
theorem eqD_b : IsB eqD := fun a b d h => by obtain ⟨k, _, rfl⟩ := mpd h; exact ⟨_, rfl⟩
theorem neD_b : IsB neD := fun a b d h => by obtain ⟨k, _, rfl⟩ := mpd h; exact ⟨_, rfl⟩
theorem inD_b : IsB inD := fun a b d h => by obtain ⟨k, _, rfl⟩ := mpd h; exact ⟨_, rfl⟩
theorem notInD_b : IsB notInD := fun a b d h => by obtain ⟨k, _, rfl⟩ := mpd h; exact ⟨_, rfl⟩
theorem intD_b {c : Int → Int → Bool} {o : Int → Int → Bool} : IsB (intD c fun i j => .bool (o i j)) := fun a b d h => by
  match a, b, h with
  | .int i, .int j, h =>
    change (if c i j then some (PyData.bool (o i j)) else none) = some d at h
    split at h <;> cases h
    exact ⟨_, rfl⟩
def fNeg (f : DEnv → Option (PyData × DEnv)) (env : DEnv) : Option (PyData × DEnv) := (f env).bind fun x => match x.1 with
  | .int i => some (.int (-i), x.2)
  | _ => none
theorem pd_neg (ha : PD X F a f) : PD X F (.UnaryOp .USub a pos) (fNeg f) := pe_imp (pe_un un_neg ha) fun σ H Q h => by
  obtain ⟨Z, env, d, env', r, e, q⟩ := h
  obtain ⟨⟨x, e1⟩, h1, h⟩ := bnd e
  match x, h1, h with
  | .int i, h1, h =>
    cases h
    refine ⟨Z, env, .int i, e1, r, h1, fun v Z1 H1 r1 s1 d1 => ?_⟩
    cases d1.int_inv
    exact ⟨i, rfl, q _ Z1 H1 r1 s1 (.int _)⟩
end
end DL
end L2

set_option Elab.async false
set_option maxRecDepth 100000
set_option maxHeartbeats 4000000
set_option autoImplicit false
namespace L2
namespace DL
open PySem PySem.Spec PyProof.Rows
variable [Lab]
section
variable {X : Cx} {F : Fm} {a b c e tg iter : Expr} {es : List Expr} {s : Stmt} {ss s2 : List Stmt} {pos p pn : Pos} {x y : Str} {f g : DEnv → Option (PyData × DEnv)} {fa fn : DEnv → Option (List PyData × DEnv)} {ft : DEnv → Option (Bool × DEnv)} {h1 h2 : DEnv → Option DFlow}
/-! ### while, op=, sum, reversed(range) -/
def whileD (ft : DEnv → Option (Bool × DEnv)) (b : DEnv → Option DFlow) : Nat → DEnv → Option DFlow
  | 0, _ => none
  | n + 1, env => (ft env).bind fun t => if t.1 then (b t.2).bind fun fl => match fl with
    | .nx e => whileD ft b n e
    | .ct e => whileD ft b n e
    | .bk e => some (.nx e)
    | fl => some fl
    else some (.nx t.2)
theorem ds_while (n : Nat) (hc : PDT X F c ft) (hb : PDSs X F ss h1) (hp : PassesOwn (model X.prog X.w) X.A X.env X.xe := by exact PassesOwn.never) : PDS X F (.While c ss [] pos) (whileD ft h1 n) := ps_imp (ps_while hp hc hb) fun D σ H h => by
  obtain ⟨Z, env, fl, r, e, q⟩ := h
  refine ⟨fun m σ' H' => ∃ Z' env', Same Z Z' ∧ Rel X.K F Z' H' σ' env' ∧ whileD ft h1 m env' = some fl, ⟨n, Z, env, Same.refl _, r, e⟩, ?_⟩
  rintro m σ' H' ⟨Z', env', s', r', e'⟩
  cases m with
  | zero => cases e'
  | succ m =>
    obtain ⟨⟨k, e1⟩, t1, e'⟩ := bnd e'
    refine ⟨Z', env', k, e1, r', t1, fun Z1 H1 r1 s1 => ?_⟩
    have sa := s'.trans s1.z
    cases k with
    | false =>
      cases e'
      exact iteF (q σ' Z1 H1 r1 sa)
    | true =>
      obtain ⟨f2, b2, e'⟩ := bnd e'
      refine iteT ⟨fun σ2 H2 => ∃ Z2 e2, Same Z Z2 ∧ Rel X.K F Z2 H2 σ2 e2 ∧ whileD ft h1 m e2 = some fl, fun σ2 H2 w => ⟨m, Nat.lt_succ_self m, w⟩, Z1, e1, f2, r1, b2, ?_⟩
      cases f2 with
      | nx e3 => exact fun σ3 Z3 H3 r3 s3 => ⟨Z3, e3, sa.trans s3, r3, e'⟩
      | ct e3 => exact fun σ3 Z3 H3 r3 s3 => ⟨Z3, e3, sa.trans s3, r3, e'⟩
      | bk e3 =>
        cases e'
        exact fun σ3 Z3 H3 r3 s3 => q σ3 Z3 H3 r3 (sa.trans s3)
      | rt d3 e3 =>
        cases e'
        exact fun v σ3 Z3 H3 r3 s3 => q v σ3 Z3 H3 r3 (sa.trans s3)
      | rn d3 e3 =>
        cases e'
        exact fun p xs σ3 Z3 H3 r3 s3 => q p xs σ3 Z3 H3 r3 (sa.trans s3)
      | ex c3 a3 d3 e3 =>
        cases e'
        exact fun v p σ3 Z3 H3 r3 s3 => q v p σ3 Z3 H3 r3 (sa.trans s3)
def sAug (i : Nat) (o : PyData → PyData → Option PyData) (f : DEnv → Option (PyData × DEnv)) (env : DEnv) : Option DFlow := (rdF i env).bind fun x => (f x.2).bind fun y => (o x.1 y.1).map fun d => .nx (y.2.set i (some (.fr d)))
theorem ds_aug (i : Nat) {op : Operator} {o : PyData → PyData → Option PyData} {pos' : Pos} (ho : OpD X (inplaceOp op) o) (ha : PD X F e f) (hN : X.N.Nodup) (hi : X.N[i]? = some x := by rfl) (hx : Loc X.env.scope x := by first | exact Or.inl rfl | exact Or.inr rfl)
    (hf : X.fn x = true ∨ X.env.scope.names.lookup x = some .local := by first | exact .inl rfl | exact .inr rfl | assumption) : PDS X F (.AugAssign (.Name x pos') op e pos) (sAug i o f) := ps_imp (ps_aug hN hi hx ha ho hf) fun D σ H h => by
  obtain ⟨Z, env, fl, r, e, q⟩ := h
  obtain ⟨⟨x, e1⟩, h1, e⟩ := bnd e
  obtain ⟨⟨y, e2⟩, h2, e⟩ := bnd e
  obtain ⟨d, h3, e⟩ := mpd e
  subst e
  obtain ⟨Z1, v, r1, s1, sv, dv⟩ := r.rdF h1
  refine ⟨v, sv, Z1, e1, y, e2, r1, h2, fun w Z2 H2 r2 s2 dw => ⟨Z2, x, y, d, r2.zh, DDm dv s2.z, dw, h3, fun z Z3 H3 gr dz => ?_⟩⟩
  exact q _ Z3 H3 ((r2.grow gr).store i dz) ((s1.z.trans s2.z).trans gr.z)
abbrev iaddD := intD cTrue fun i j => .int (i + j)
theorem od_iadd : OpD X (inplaceOp .Add) iaddD := od_int (op_rI0 iop_add) (fun _ _ _ => trivial) fun _ _ _ _ => .int _
theorem od_isub : OpD X (inplaceOp .Sub) subD := od_int (op_rI0 iop_sub) (fun _ _ _ => trivial) fun _ _ _ _ => .int _
theorem od_imul : OpD X (inplaceOp .Mult) mulD := od_int iop_mul (fun i j h => by
  rw [cMul, Bool.or_eq_true, decide_eq_true_eq, decide_eq_true_eq] at h
  unfold CMul
  rcases h with h | h
  · left; omega
  · right; omega) fun _ _ _ _ => .int _
def intsD : List PyData → Option (List Int)
  | [] => some []
  | .int b :: r => (intsD r).map (b :: ·)
  | _ => none
theorem ints_of {K : PySem.W.Frag} {Z : Hp} : ∀ {vs : List V} {ds : List PyData} {bs : List Int}, DDs K Z vs ds → intsD ds = some bs → vs = bs.map V.int
  | _, [], bs, h, e => by cases e; cases h; rfl
  | _, .int b :: r, bs, h, e => by
    obtain ⟨cs, e1, rfl⟩ := mpd e
    cases h with
    | cons h1 h2 =>
      cases h1.int_inv
      rw [ints_of h2 e1]
      rfl
  | _, .none :: _, _, _, e => by cases e
  | _, .bool _ :: _, _, _, e => by cases e
  | _, .str _ :: _, _, _, e => by cases e
  | _, .list _ :: _, _, _, e => by cases e
  | _, .tuple _ :: _, _, _, e => by cases e
  | _, .dict _ :: _, _, _, e => by cases e
def sumD : List PyData → Option PyData
  | [.list ds] => (intsD ds).map fun bs => .int bs.sum
  | _ => none
theorem cd_sum (hc : X.calm = true) : CallD X (.builtin "sum") sumD := by
  intro pins s σ H xs us Q I r h
  obtain ⟨Z, ds, d, sz, hd, e, q⟩ := h
  match ds, hd, e with
  | [.list ds], hd, e =>
    obtain ⟨bs, e1, rfl⟩ := mpd e
    obtain ⟨v, rfl, h1⟩ := dds1 hd
    cases h1 with
    | @lst a ys _ hr ha =>
      have := ints_of ha e1
      subst this
      exact cr_sum hc pins s σ H _ us Q I r ⟨a, bs, rfl, (same_ls sz hr).sq, q _ Z H (Grow.refl sz) (.int _)⟩
def downD (n : Nat) : List PyData := (List.range n).map fun i => .int ((n : Int) - 1 - (i : Nat))
theorem downD_len (n : Nat) : (downD n).length = n := by unfold downD; rw [List.length_map, List.length_range]
theorem wd_down {K : PySem.W.Frag} {Z : Hp} (j : Int) : WalkD K (Itc (0 + (((j - 0).toNat : Nat) : Int) - 1) (-1) (j - 0).toNat) Z (downD j.toNat) := by
  have e0 : (j - 0).toNat = j.toNat := by rw [show j - 0 = j by omega]
  rw [e0]
  refine ⟨fun _ => True, YFn fun i => .int ((0 + ((j.toNat : Nat) : Int) - 1) + (i : Nat) * (-1)), by rw [downD_len]; exact walk_rangeC, fun _ _ => trivial, fun i H x H' Zc hi y s1 s2 => ?_⟩
  rw [downD_len] at hi
  obtain ⟨rfl, rfl⟩ := y
  refine ⟨Zc, _, Grow.refl s2, ?_, .int _⟩
  unfold downD
  rw [List.getElem?_map, List.getElem?_range hi]
  show some (PyData.int _) = some (PyData.int _)
  congr 2
  omega
def iRev (f : DEnv → Option (PyData × DEnv)) (env : DEnv) : Option (List PyData × DEnv) := (f env).bind fun x => match x.1 with
  | .int j => if j ≤ 1000000 ∧ -1000000 ≤ j then some (downD j.toNat, x.2) else none
  | _ => none
theorem di_revR (hmv : X.mg "reversed" = none) (hmr : X.mg "range" = none) (ha : PD X F a f) (hgv : Gl X "reversed" := by rfl) (hgr : Gl X "range" := by rfl) {q0 q1 : Pos} (na : starEach [a] X.env = (false, eval a X.env) :: starEach [] X.env := by rfl)
    (na2 : starEach [.Call (.Name "range" q0) [a] [] q1] X.env = (false, eval (.Call (.Name "range" q0) [a] [] q1) X.env) :: starEach [] X.env := by rfl) :
    PDI X F tg (.Call (.Name "reversed" p) [.Call (.Name "range" q0) [a] [] q1] [] pos) (iRev f) := pi_imp (pi_revR hgv hmv (prg_1 hgr hmr ha na) na2) fun σ H Q h => by
  obtain ⟨Z, env, d, env', r, e, q⟩ := h
  obtain ⟨⟨i, e1⟩, h1, e⟩ := bnd e
  match i, h1, e with
  | .int j, h1, e =>
    change (if j ≤ 1000000 ∧ -1000000 ≤ j then some (downD j.toNat, e1) else none) = some (d, env') at e
    split at e
    case isFalse => cases e
    rename_i hj
    cases e
    refine ⟨Z, env, .int j, _, r, h1, fun v Z1 H1 r1 s1 d1 => ?_⟩
    cases d1.int_inv
    exact ⟨j, rfl, by omega, by omega, by omega, by omega, q _ Z1 H1 r1 s1 (wd_down j)⟩
/-- list(e): a new list -/
def nListOf (f : DEnv → Option (PyData × DEnv)) (env : DEnv) : Option (List PyData × DEnv) := (f env).bind fun x => (seqD x.1).map fun ds => (ds, x.2)
theorem pn_listOf (hm : X.mg "list" = none) (ha : PD X F e f) (hg : Gl X "list" := by rfl) (he : starEach [e] X.env = (false, eval e X.env) :: starEach [] X.env := by rfl) (hpl : (backTo pos (starEach [] X.env)).any (·.1) = false := by rfl) :
    PN X F (.Call (.Name "list" p) [e] [] pos) (nListOf f) := pe_imp (pe_callTy call_list_of hg hm (by decide +kernel) (pa_cons ha pa_nil he) (by decide) (by decide) he hpl) fun σ H Q h => by
  obtain ⟨Z, env, ds, env', r, e, q⟩ := h
  obtain ⟨⟨d, e1⟩, h1, e⟩ := bnd e
  obtain ⟨ds', h2, e⟩ := mpd e
  cases e
  refine ⟨Z, env, d, e1, r, h1, fun v Z1 H1 r1 s1 d1 => ?_⟩
  cases d with
  | list ds =>
    cases h2
    cases d1 with
    | @lst a xs _ hr hd =>
      refine ⟨a, xs, rfl, .inl (same_ls r1.zh hr).sq, fun p hp => ?_⟩
      have gr := grow_own r1.zh hp (.lst xs)
      exact q p _ _ _ (r1.grow gr) (s1.trans gr.stp) (s1.new hp) (r1.zh.free hp) upd_same hd
  | tuple ds =>
    cases h2
    cases d1 with
    | @tup a xs _ hr hd =>
      refine ⟨a, xs, rfl, .inr (same_sqT r1.zh hr), fun p hp => ?_⟩
      have gr := grow_own r1.zh hp (.lst xs)
      exact q p _ _ _ (r1.grow gr) (s1.trans gr.stp) (s1.new hp) (r1.zh.free hp) upd_same hd
  | _ => cases h2
end
/-! ### small data -/
structure Sm (k w : Nat) (d : PyData) : Prop where
  lay : d.canLay0 = true
  sh : d.showable = true
  nd : d.hasDict = false
  sho : d.intsShort 13 = true
  dp : d.depth ≤ k
  wt : d.weight ≤ w
theorem Sm.mono {k w k' w' : Nat} {d : PyData} (h : Sm k w d) (hk : k ≤ k') (hw : w ≤ w') : Sm k' w' d := ⟨h.lay, h.sh, h.nd, h.sho, Nat.le_trans h.dp hk, Nat.le_trans h.wt hw⟩
theorem sm_all {k w : Nat} : ∀ (ds : List PyData), (∀ d ∈ ds, Sm k w d) → PyData.canLayAll0 ds = true ∧ PyData.showableAll ds = true ∧ PyData.hasDictAll ds = false ∧ PyData.intsShortAll 13 ds = true ∧ PyData.depthAll ds ≤ k ∧ PyData.weightAll ds ≤ ds.length * (w + 1)
  | [], _ => ⟨rfl, rfl, rfl, rfl, Nat.zero_le _, by simp [PyData.weightAll]⟩
  | d :: ds, h => by
    obtain ⟨a, b, c, e, f, g⟩ := sm_all ds fun x hx => h x (List.mem_cons_of_mem _ hx)
    have hd := h d List.mem_cons_self
    refine ⟨by simp [PyData.canLayAll0, hd.lay, a], by simp [PyData.showableAll, hd.sh, b], by simp [PyData.hasDictAll, hd.nd, c], by simp [PyData.intsShortAll, hd.sho, e], ?_, ?_⟩
    · simp only [PyData.depthAll]
      exact Nat.max_le.mpr ⟨hd.dp, f⟩
    · simp only [PyData.weightAll, List.length_cons, Nat.succ_mul]
      have := hd.wt
      omega
theorem Sm.tuple {k w n : Nat} {ds : List PyData} (h : ∀ d ∈ ds, Sm k w d) (hn : ds.length ≤ n) : Sm (k + 1) (n * (w + 1)) (.tuple ds) := by
  obtain ⟨a, b, c, e, f, g⟩ := sm_all ds h
  exact ⟨a, b, c, e, Nat.succ_le_succ f, Nat.le_trans g (Nat.mul_le_mul_right _ hn)⟩
theorem Sm.list {k w n : Nat} {ds : List PyData} (h : ∀ d ∈ ds, Sm k w d) (hn : ds.length ≤ n) : Sm (k + 1) (n * (w + 1)) (.list ds) := by
  obtain ⟨a, b, c, e, f, g⟩ := sm_all ds h
  exact ⟨a, b, c, e, Nat.succ_le_succ f, Nat.le_trans g (Nat.mul_le_mul_right _ hn)⟩
theorem Sm.shaped {k w : Nat} {d : PyData} (h : Sm k w d) (hk : k ≤ 64) : SeqAt.shaped d = true := by
  unfold SeqAt.shaped
  rw [h.lay, decide_eq_true (Nat.le_trans h.dp hk)]
  rfl
theorem Sm.repr {k w : Nat} {d : PyData} (h : Sm k w d) (hk : k ≤ 64) (hw : w ≤ 1048576) : reprOk d = true := by
  have hl : PyData.layable0 d = true := by
    unfold PyData.layable0
    rw [h.lay, decide_eq_true (Nat.le_trans h.dp hk), decide_eq_true (Nat.le_trans h.wt hw)]
    rfl
  have h1 := PyProof.Rows.shown_le13 hl h.sho
  have h2 : d.shown.length ≤ sizeLine := Nat.le_trans h1 (by decide)
  rw [reprOk, h.sh, h.nd, decide_eq_true h2, decide_eq_true (Nat.le_trans h.dp hk)]
  rfl
theorem Sm.of_dec (k w : Nat) (d : PyData) (h : (d.canLay0 && d.showable && !d.hasDict && d.intsShort 13 && decide (d.depth ≤ k) && decide (d.weight ≤ w)) = true) : Sm k w d := by
  simp only [Bool.and_eq_true, decide_eq_true_eq, Bool.not_eq_true'] at h
  obtain ⟨⟨⟨⟨⟨a, b⟩, c⟩, e⟩, f⟩, g⟩ := h
  exact ⟨a, b, c, e, f, g⟩
theorem reprD_sm {k w : Nat} {d : PyData} (h : Sm k w d) (hk : k ≤ 64) (hw : w ≤ 1048576) : reprD [d] = some (.str d.shown) := by
  show (if reprOk d then some (PyData.str d.shown) else none) = _
  rw [if_pos (h.repr hk hw)]
theorem Sm.shD {k w : Nat} {d : PyData} (h : Sm k w d) (hk : k ≤ 64) : DL.shD d = true := by
  unfold DL.shD
  rw [h.shaped hk, h.nd]
  rfl
theorem eqB_refl {k w : Nat} {d : PyData} (h : Sm k w d) (hk : k ≤ 64) : eqB d d = some true := by
  cases d with
  | int i => simp [eqB]
  | str i => simp [eqB]
  | none => simp [eqB, h.shD hk, SeqAt.eqv_refl _ h.lay]
  | bool b => simp [eqB, h.shD hk, SeqAt.eqv_refl _ h.lay]
  | list ds => simp [eqB, h.shD hk, SeqAt.eqv_refl _ h.lay]
  | tuple ds => simp [eqB, h.shD hk, SeqAt.eqv_refl _ h.lay]
  | dict ds => simp [eqB, h.shD hk, SeqAt.eqv_refl _ h.lay]
/-! ### evaluating a mirror step by step -/
theorem ev_cb {o : List PyData → Option PyData} {fa : DEnv → Option (List PyData × DEnv)} {env e1 : DEnv} {ds : List PyData} {d : PyData} (h : fa env = some (ds, e1)) (h2 : o ds = some d) : fCB o fa env = some (d, e1) := by
  unfold fCB; rw [h]; show (o ds).map _ = _; rw [h2]; rfl
theorem ev_frz {fa : DEnv → Option (List PyData × DEnv)} {env e1 : DEnv} {ds : List PyData} (h : fa env = some (ds, e1)) : fFrz fa env = some (.list ds, e1) := by
  unfold fFrz; rw [h]; rfl
theorem ev_cons {f : DEnv → Option (PyData × DEnv)} {fa : DEnv → Option (List PyData × DEnv)} {env e1 e2 : DEnv} {d : PyData} {ds : List PyData} (h : f env = some (d, e1)) (h2 : fa e1 = some (ds, e2)) : fCons f fa env = some (d :: ds, e2) := by
  unfold fCons; rw [h]; show (fa e1).map _ = _; rw [h2]; rfl
theorem ev_nil {env : DEnv} : fNil env = some ([], env) := rfl
theorem ev_seq {f g : DEnv → Option DFlow} {env e1 : DEnv} {fl : DFlow} (h : f env = some (.nx e1)) (h2 : g e1 = some fl) : sSeq f g env = some fl := by
  unfold sSeq; rw [h]; exact h2
theorem ev_set {i : Nat} {f : DEnv → Option (PyData × DEnv)} {env e1 : DEnv} {d : PyData} (h : f env = some (d, e1)) : sSet i f env = some (.nx (e1.set i (some (.fr d)))) := by
  unfold sSet; rw [h]; rfl
theorem ev_for {fi : DEnv → Option (List PyData × DEnv)} {g : PyData → DEnv → Option DEnv} {b : DEnv → Option DFlow} {env e1 : DEnv} {ds : List PyData} {fl : DFlow} (h : fi env = some (ds, e1)) (h2 : forD g b ds e1 = some fl) : sFor fi g b env = some fl := by
  unfold sFor; rw [h]; exact h2
theorem ev_ret {f : DEnv → Option (PyData × DEnv)} {env e1 : DEnv} {d : PyData} (h : f env = some (d, e1)) : sRet f env = some (.rt d e1) := by
  unfold sRet; rw [h]; rfl
theorem ev_ifT {ft : DEnv → Option (Bool × DEnv)} {h1 h2 : DEnv → Option DFlow} {env e1 : DEnv} {fl : DFlow} (h : ft env = some (true, e1)) (h' : h1 e1 = some fl) : sIf ft h1 h2 env = some fl := by
  unfold sIf; rw [h]; exact h'
theorem ev_ifF {ft : DEnv → Option (Bool × DEnv)} {h1 h2 : DEnv → Option DFlow} {env e1 : DEnv} {fl : DFlow} (h : ft env = some (false, e1)) (h' : h2 e1 = some fl) : sIf ft h1 h2 env = some fl := by
  unfold sIf; rw [h]; exact h'
theorem ev_tst {f : DEnv → Option (PyData × DEnv)} {env e1 : DEnv} {d : PyData} {k : Bool} (h : f env = some (d, e1)) (h2 : truthD d = some k) : fTst f env = some (k, e1) := by
  unfold fTst; rw [h]; show (truthD d).map _ = _; rw [h2]; rfl
theorem ev_bin {o : PyData → PyData → Option PyData} {f g : DEnv → Option (PyData × DEnv)} {env e1 e2 : DEnv} {a b d : PyData} (h : f env = some (a, e1)) (h2 : g e1 = some (b, e2)) (h3 : o a b = some d) : fBin o f g env = some (d, e2) := by
  unfold fBin; rw [h]; show (g e1).bind _ = _; rw [h2]; show (o a b).map _ = _; rw [h3]; rfl
theorem ev_cmpN {o : PyData → PyData → Option PyData} {f : DEnv → Option (PyData × DEnv)} {i : Nat} {env e1 : DEnv} {a b d : PyData} (h : f env = some (a, e1)) (h2 : rdB i e1 = some b) (h3 : o a b = some d) : fCmpN o f i env = some (d, e1) := by
  unfold fCmpN; rw [h]; show (rdB i e1).bind _ = _; rw [h2]; show (o a b).map _ = _; rw [h3]; rfl
theorem ev_ck0 {gD : List PyData → List PyData} {o : List PyData → Option PyData} {fa : DEnv → Option (List PyData × DEnv)} {env e1 : DEnv} {ds : List PyData} {d : PyData} (h : fa env = some (ds, e1)) (h2 : o (gD ds) = some d) : fCK0 gD o fa env = some (d, e1) := by
  unfold fCK0; rw [h]; show (o (gD ds)).map _ = _; rw [h2]; rfl
theorem ev_seqI {f : DEnv → Option (PyData × DEnv)} {env e1 : DEnv} {d : PyData} {ds : List PyData} (h : f env = some (d, e1)) (h2 : seqD d = some ds) : iSeq f env = some (ds, e1) := by
  unfold iSeq; rw [h]; show (seqD d).map _ = _; rw [h2]; rfl
theorem ev_lst {fa : DEnv → Option (List PyData × DEnv)} {env e1 : DEnv} {ds : List PyData} (h : fa env = some (ds, e1)) (h2 : ds.length ≤ lim) : fLst fa env = some (ds, e1) := by
  unfold fLst; rw [h]; exact if_pos h2
theorem ev_forN {g : PyData → DEnv → Option DEnv} {b : DEnv → Option DFlow} {d : PyData} {ds : List PyData} {env e1 e2 : DEnv} {fl : DFlow} (hg : g d env = some e1) (hb : b e1 = some (.nx e2)) (h : forD g b ds e2 = some fl) : forD g b (d :: ds) env = some fl := by
  rw [forD, hg]; show (b e1).bind _ = _; rw [hb]; exact h
/-- what is known of the law's def at the head's heap -/
def LawG (l : PySem.W.OpenLaw) (w : World) (K : PySem.W.Frag) (k : Nat) (x : Str) (m : List PyData → Option PyData) (mg : Str → Option Value) (fa : Addr) (h : Heap) : Prop :=
  ∃ (fd : FuncData) (cs : List (Addr × Addr)) (L : Lab), (∀ c q, (c, q) ∈ cs → h.get? q = some { cls := .none, data := .fields #[] } ∧ K.lookup q = none ∧ PySem.W.CodeHd h c q) ∧ (∀ q ∈ L.T, ∃ c, (c, q.1) ∈ cs) ∧
    (∀ (s : Shared) (u : Value), BindsTo s fd ⟨[u], []⟩ [(x, u)]) ∧ ∀ base : Heap, K.In base → base.Ns mainGlobals mg → (∀ c q, (c, q) ∈ cs → LamX.TabB base mg c q) → FnG l.prog w K mg base k fa fd [x] (spF K 1 m)
omit [Lab] in
theorem walk_g {l : PySem.W.OpenLaw} {n k : Nat} {q : Program} {loose : List Str} {XP : (Str → Option Value) → Heap → Prop} {YP : World → Heap → Prop} {d : DefRec} {K : Params → PySem.W.Frag} {m : List PyData → Option PyData} {x : Str}
    (hn : l.most = some n) (hn2 : n ≤ sizeLine) (hdf : d.params.defaults = []) (hr : Room k callerA) (hY : ∀ (w : World) (h : Heap), YP w h → (K w.params).In h)
    (G : ∀ (w : World) (mg : Str → Option Value) (fa : Addr) (h : Heap), YP w h → (K w.params).In h → h.Ns mainGlobals mg → mg d.name = some (.ref fa) → LawG l w (K w.params) k x m mg fa h)
    (hm : ∀ ns : List Int, ns.length ≤ n → m [.list (ns.map PyData.int)] = some (.bool true)) :
    PySem.W.WalkO q loose XP YP l.row.toRowW d [] (fun f vs => PySem.call f vs) := by
  refine Att.attach_call hn hdf fun w s0 s1 mg mb fa o pm cd doc a vs ns Gr Y ho hd hcd hmg hobj hints hlen hg => ?_
  have KX := hY w _ Y
  obtain ⟨fd, cs, L, h1, h2, hb, hF⟩ := G w mg fa _ Y KX Gr.T.g hmg
  letI := L
  exact law_callG KX Gr.T.g Gr.T.b Gr.T.builtins Gr.T.nolimit hg h1 Gr.T.bmain hobj hints (Nat.le_trans hlen hn2) hr h2 hF hb (hm ns hlen)
omit [Lab] in
theorem cInt [LabW] {K : PySem.W.Frag} {h : Heap} {mg : Str → Option Value} (X : K.In h) (G : h.Ns mainGlobals mg) {x : Str} {i : Int} {t : Tok} (a : PySem.W.nsIn K mainGlobals x = some (some (.int i t))) : ∃ uv : Value × V, mg x = some uv.1 ∧ RelV uv.2 uv.1 ∧ ∀ Z, DD K Z uv.2 (.int i) :=
  ⟨(.int i t, .int i), PySem.W.mg_of X G a, ⟨t, rfl⟩, fun _ => .int i⟩
omit [Lab] in
theorem cStrs [LabW] {K : PySem.W.Frag} {h : Heap} {mg : Str → Option Value} (X : K.In h) (G : h.Ns mainGlobals mg) {x : Str} {p : Addr} {oc : Value} {od : Option Addr} {its : Array Value} {n : Nat} {sl : Array (Option Value)} {ss : List Str} (a : PySem.W.nsIn K mainGlobals x = some (some (.ref p)))
    (l : K.lookup p = some ⟨oc, od, .seq its n, sl⟩) (hc : oc = .type "tuple") (hz : its.size ≤ sizeLine) (hv : Vals (ss.map V.str) its.toList) : ∃ uv : Value × V, mg x = some uv.1 ∧ RelV uv.2 uv.1 ∧ ∀ Z, DD K Z uv.2 (.tuple (ss.map PyData.str)) := by
  refine ⟨(.ref p, .ref p), PySem.W.mg_of X G a, rfl, fun Z => .tup (.inr ⟨_, its, n, l, hc, rfl, hz, hv⟩) ?_⟩
  clear hv
  induction ss with
  | nil => exact .nil
  | cons s ss ih => exact .cons (.str s) ih
end DL
end L2

set_option Elab.async false
set_option maxRecDepth 100000
set_option maxHeartbeats 4000000
set_option autoImplicit false
namespace L2
namespace DL
open PySem PySem.Spec PyProof.Rows
variable [Lab]
/-! ### exceptions: what a def may let out -/
inductive XR where
  | ok (d : PyData) | ex (c a : Str) (d : PyData)
inductive DX where
  | ok (d : PyData) (env : DEnv) | ex (c a : Str) (d : PyData) (env : DEnv)
/-- a wish by the classes' names, as one by their addresses -/
def wx (C : Str → Addr) (W : Str → Option Addr → St → Hp → Prop) : WX := fun cls d σ H => ∃ c, cls = .ref (C c) ∧ W c d σ H
structure FnX (P : Program) (w : World) (K : PySem.W.Frag) (mg : Str → Option Value) (base : Heap) (k : Nat) (f : Addr) (fd : FuncData) (ps : List Str) (sp : Sp) : Prop where
  len : ∀ vs H Q E, sp vs H Q E → vs.length = ps.length
  run : ∀ (A : Around) (outer : List Env) (s : Shared) (H : Hp) (args : Args) (us : List Value) (vs : List V) (Q : VK) (E : XK),
    GdOk A → Room k A → Env0 P w K mg base A outer s H → BindsTo s fd args (ps.zip us) → Vals vs us → sp vs H Q E →
    codeAny (model P w) A (.call (.ref f) args) (CR (L2.CX P w) outer P w H s Q E) s
theorem FnX.mono {P : Program} {w : World} {K : PySem.W.Frag} {mg : Str → Option Value} {base : Heap} {j k : Nat} {f : Addr} {fd : FuncData} {ps : List Str} {sp : Sp}
    (G : FnX P w K mg base j f fd ps sp) (h : j ≤ k) : FnX P w K mg base k f fd ps sp :=
  ⟨G.len, fun A outer s H args us vs Q E hg hr => G.run A outer s H args us vs Q E hg (hr.mono h)⟩
section
variable {P : Program} {w : World} {K : PySem.W.Frag} {mg : Str → Option Value} {base : Heap}
theorem fnx_of {x qual : Str} {st : Stmt} {f : Addr} {fd : FuncData} {N ps : List Str} {k : Nat} {sp : Sp} (D : Fun K x qual st f fd) (S : FnScope N ps (defScope st)) (len : ∀ vs H Q E, sp vs H Q E → vs.length = ps.length)
    (hbody : ∀ (cdv : Value) (A : Around) (outer : List Env) (s : Shared) (H : Hp) (vs : List V) (Q : VK) (E : XK), cdv = fd.code → GdOk A →
      Room k (A.deeper (envOfC qual (defScope st) s.heap.objs.size f cdv)) → sp vs H Q E →
      ∃ t, PSs (cxOf (L2.CX P w) P w K mg base N qual (defScope st) f cdv A outer s H E) (defBody st) t ∧ t { nx := fun _ H' => Q .non H', rt := Q } (start N vs) H) :
    FnX P w K mg base (k + 1) f fd ps sp := by
  obtain ⟨oc, od, kV, doc, pm, an, cdv, ct, osl, rfl, lk, hcd⟩ := D.ex
  refine ⟨len, fun A outer s H args us vs Q E hgd hr e0 hb rv hsp => ?_⟩
  have sl := len vs H Q E hsp
  have kin : K.In s.heap := e0.mod.kin.keeps fun b o q => (e0.bs b o q).1
  have nol : s.heap.NoLimit := e0.mod.nolimit.keeps fun b o q => (e0.bs b o q).1
  have kinds : ∀ y ∈ ps.zip us, (defScope st).names.lookup y.1 = some .local ∨
      ((defScope st).names.lookup y.1 = some .cell ∧ ((cellsFrom (s.heap.objs.size + 1) (defScope st).names []).lookup y.1).isSome = true) := by
    rintro ⟨n, z⟩ hy
    rcases S.par n (List.of_mem_zip hy).1 with e | e
    · exact .inl e
    · exact .inr ⟨e, PySem.W.cellsFrom_some _ _ _ (.inl e)⟩
  refine codeAny_call_function hr.depth (kin _ _ lk) rfl S.co S.gen rfl (PySem.W.codeRec_of kin hcd) (hb _ _ _ _ (wpAny_newFunctionEnv_cells S.kind kinds fun env he s1 x1 => ?_))
  subst he
  obtain ⟨t, ht, hq⟩ := hbody cdv A outer s H vs Q E rfl hgd (hr.deeper _) hsp
  have J0 : Inv (cxOf (L2.CX P w) P w K mg base N qual (defScope st) f cdv A outer s H E) [] (start N vs) H s1 := inv_start S hr.hd e0 sl rv x1
  refine ⟨nol.keeps x1.toInCall.keep, codeAny_func (wpAny_mono (ht.run [] s1 (start N vs) H _ J0 hq) (fun fl s' hs => ?_) fun e s' hs => hs)⟩
  cases fl with
  | ret u => obtain ⟨v, s2, H', J, r1, q⟩ := hs; exact ⟨v, H', J.os, J.bare, J.base, J.hok, r1, q⟩
  | next => obtain ⟨s2, H', J, q⟩ := hs; exact ⟨V.non, H', J.os, J.bare, J.base, J.hok, rfl, q⟩
  | brk => obtain ⟨_, _, _, q⟩ := hs; cases q
  | cont => obtain ⟨_, _, _, q⟩ := hs; cases q
end
section
variable {X : Cx} {F : Fm} {W : WX} {k : Nat} {f : Addr} {fd : FuncData} {ps ks : List Str} {sp : Sp} {x : Str} {p pos : Pos} {e : Expr} {es : List Expr} {t tk : TA} {kws : List Keyword}
theorem run_x {pins : List (Addr × Obj)} {σ : St} {H : Hp} {s : Shared} {Q : VK} {args : Args} {us : List Value} {vs : List V} (tk : Takes X W) (G : FnX X.prog X.w X.K X.mg X.base k f fd ps sp) (hg : GdOk X.A) (hr : Room k X.A)
    (hb : BindsTo s fd args (ps.zip us)) (I : Inv X pins σ H s) (rv : Vals vs us) (h : sp vs H Q fun cls d H' => W cls d σ H') : wpAny (model X.prog X.w) X.A (call (.ref f) args.pos args.kw) (EP X pins σ Q) X.xe s := by
  refine wpAny_call (codeAny_mono (G.run X.A X.stack s H args us vs Q _ hg hr I.env0 hb rv h) fun r s' hq => ?_)
  cases r with
  | error z => exact tk _ _ (XE.of_call I (fun _ _ _ h => h) hq)
  | ok fl =>
    cases fl with
    | ret u => exact I.after hq
    | next => cases hq
    | brk => cases hq
    | cont => cases hq
theorem pe_xcall (tk : Takes X W) (G : FnX X.prog X.w X.K X.mg X.base k f fd ps sp) (hgd : GdOk X.A) (hr : Room k X.A) (hm : X.mg x = some (.ref f)) (hk : PySem.W.keepIn X.K (.ref f) = true) (hb : Binds X.K fd ps [])
    (ha : PA X (e :: es) t) (hg : Gl X x := by rfl) (hdb : (x == ("__debug__" : Str)) = false := by decide)
    (he : starEach (e :: es) X.env = (false, eval e X.env) :: starEach es X.env := by rfl) (hpl : (backTo pos (starEach es X.env)).any (·.1) = false := by rfl) :
    PE X (.Call (.Name x p) (e :: es) [] pos) (fun σ H Q => t σ H fun vs H1 => sp vs H1 Q fun cls d H' => W cls d σ H') := by
  refine ⟨fun pins s σ H Q I h => wpAny_Call_Name_kw (ld_glob I hg hm (PySem.W.callWith_K (h₀ := X.base) I.ok.mod.kin hk (thn (ha.run pos pins s σ H _ I h) ?_) he hpl) hdb)⟩
  rintro us s1 ⟨vs, H1, I1, rv, q⟩
  have hl : us.length = ps.length := by rw [← rv.length]; exact G.len _ _ _ _ q
  refine ⟨I1.kIn, run_x (args := ⟨us, []⟩) (us := us) tk G hgd hr ?_ I1 rv q⟩
  have := hb s1 us I1.kIn (by rw [List.append_nil]; exact hl)
  rw [List.append_nil] at this
  exact this
end

/-! ### the promise -/
def FinX (K : PySem.W.Frag) (C : Str → Addr) (Z H : Hp) (Q : VK) (E : XK) : XR → Prop
  | .ok d => ∀ v Z' H', Grow Z H Z' H' → DD K Z' v d → Q v H'
  | .ex c a d => ∀ v p Z' H', Grow Z H Z' H' → H p = none → Z' p = none → H' p = some (.xd [(a, v)]) → DD K Z' v d → E (.ref (C c)) (some p) H'
def spX (K : PySem.W.Frag) (C : Str → Addr) (n : Nat) (m : List PyData → Option XR) : Sp := fun vs H Q E => vs.length = n ∧ ∃ Z ds r, Same Z H ∧ TB H ∧ DDs K Z vs ds ∧ m ds = some r ∧ FinX K C Z H Q E r
def okX (o : Option XR) : Option PyData := match o with
  | some (.ok d) => some d
  | _ => none
theorem okX_eq {o : Option XR} {d : PyData} (h : okX o = some d) : o = some (.ok d) := by
  match o, h with
  | some (.ok _), h => cases h; rfl
/-- called where it does not raise -/
theorem fng_of_x {P : Program} {w : World} {K : PySem.W.Frag} {mg : Str → Option Value} {base : Heap} {C : Str → Addr} {k n : Nat} {f : Addr} {fd : FuncData} {ps : List Str} {m : List PyData → Option XR} (G : FnX P w K mg base k f fd ps (spX K C n m)) (hn : n = ps.length) :
    FnG P w K mg base k f fd ps (spF K n fun ds => okX (m ds)) := by
  refine ⟨fun vs H Q E h => h.1.trans hn, fun A outer s H args us vs Q E hgd hr e0 hb rv h => ?_⟩
  obtain ⟨hl, Z, ds, r, sz, tb, hd, e, q⟩ := h
  refine codeAny_mono (G.run A outer s H args us vs Q (fun _ _ _ => False) hgd hr e0 hb rv ⟨hl, Z, ds, .ok r, sz, tb, hd, okX_eq e, q⟩) fun r s' hq => ?_
  cases r with
  | error z =>
    obtain ⟨_, _, _, _, _, _, _, _, _, _, _, _, z⟩ := hq
    exact z.elim
  | ok fl =>
    cases fl with
    | ret u => exact hq
    | next => cases hq
    | brk => cases hq
    | cont => cases hq

/-! ### readings that may raise -/
def FinE (K : PySem.W.Frag) (F : Fm) (Z : Hp) (env : DEnv) (σ : St) (H : Hp) (Q : VK) : DX → Prop
  | .ok d e' => ∀ v Z' H', Rel K F Z' H' σ e' → Stp σ env Z H e' Z' H' → DD K Z' v d → Q v H'
  | .ex c a d e' => ∀ v p Z' H', Rel K F Z' H' σ e' → Stp σ env Z H e' Z' H' → Z' p = none → F.G p = none → ¬ F.P p → H' p = some (.xd [(a, v)]) → DD K Z' v d → F.W c (some p) σ H'
def tDX (K : PySem.W.Frag) (F : Fm) (f : DEnv → Option DX) : TE := fun σ H Q => ∃ Z env r, Rel K F Z H σ env ∧ f env = some r ∧ FinE K F Z env σ H Q r
def PDX (X : Cx) (F : Fm) (e : Expr) (f : DEnv → Option DX) : Prop := PE X e (tDX X.K F f)
def toX (env : DEnv) : XR → DX
  | .ok d => .ok d env
  | .ex c a d => .ex c a d env
def fCX (m : List PyData → Option XR) (fa : DEnv → Option (List PyData × DEnv)) (env : DEnv) : Option DX := (fa env).bind fun x => (m x.1).map (toX x.2)
section
variable {X : Cx} {F : Fm} {C : Str → Addr} {k n : Nat} {f : Addr} {fd : FuncData} {ps ks : List Str} {x : Str} {p pos : Pos} {e : Expr} {es : List Expr} {fa : DEnv → Option (List PyData × DEnv)} {fx : DEnv → Option DX}
theorem pdx_call {m : List PyData → Option XR} (tk : Takes X (wx C F.W)) (G : FnX X.prog X.w X.K X.mg X.base k f fd ps (spX X.K C n m)) (hn : ∀ ds r, m ds = some r → ds.length = n) (hgd : GdOk X.A) (hr : Room k X.A) (hm : X.mg x = some (.ref f)) (hk : PySem.W.keepIn X.K (.ref f) = true) (hb : Binds X.K fd ps [])
    (ha : PDA X F (e :: es) fa) (hg : Gl X x := by rfl) (hdb : (x == ("__debug__" : Str)) = false := by decide)
    (he : starEach (e :: es) X.env = (false, eval e X.env) :: starEach es X.env := by rfl) (hpl : (backTo pos (starEach es X.env)).any (·.1) = false := by rfl) :
    PDX X F (.Call (.Name x p) (e :: es) [] pos) (fCX m fa) :=
  pe_imp (pe_xcall tk G hgd hr hm hk hb ha hg hdb he hpl) fun σ H Q h => by
    obtain ⟨Z, env, r0, r, e, q⟩ := h
    obtain ⟨⟨xs, e1⟩, h1, h⟩ := bnd e
    obtain ⟨y, h2, h⟩ := mpd h
    subst h
    refine ⟨Z, env, xs, e1, r, h1, fun vs Z1 H1 r1 s1 d1 => ⟨(dds_len d1).trans (hn _ _ h2), Z1, xs, y, r1.zh, r1.tb, d1, h2, ?_⟩⟩
    cases y with
    | ok d => exact fun v Z' H' gr dd => q v Z' H' (r1.grow gr) (s1.trans gr.stp) dd
    | ex c a d => exact fun v p Z' H' gr h0 hz hp dd => ⟨c, rfl, q v p Z' H' (r1.grow gr) (s1.trans gr.stp) hz (r1.gh.free h0) (fun z => (r1.pp p z).1 h0) hp dd⟩
/-! ### statements of them -/
def sExprX (f : DEnv → Option DX) (env : DEnv) : Option DFlow := (f env).map fun r => match r with
  | .ok _ e => .nx e
  | .ex c a d e => .ex c a d e
def sSetX (i : Nat) (f : DEnv → Option DX) (env : DEnv) : Option DFlow := (f env).map fun r => match r with
  | .ok d e => .nx (e.set i (some (.fr d)))
  | .ex c a d e => .ex c a d e
def sRetX (f : DEnv → Option DX) (env : DEnv) : Option DFlow := (f env).map fun r => match r with
  | .ok d e => .rt d e
  | .ex c a d e => .ex c a d e
theorem ds_exprX (ha : PDX X F e fx) (hs : swapsWith e none pos.line X.env = pure false := by rfl) : PDS X F (.Expr e pos) (sExprX fx) := ps_imp (ps_expr ha hs) fun D σ H h => by
  obtain ⟨Z, env, fl, r, e, q⟩ := h
  obtain ⟨y, h1, h⟩ := mpd e
  subst h
  refine ⟨Z, env, y, r, h1, ?_⟩
  cases y with
  | ok d e1 => exact fun v Z' H' r' s' _ => q σ Z' H' r' s'.z
  | ex c a d e1 => exact fun v p Z' H' r' s' hz hg hp hx dd => q v p σ Z' H' r' s'.z hz hg hp hx dd
theorem ds_setX (i : Nat) {pos' : Pos} (ha : PDX X F e fx) (hN : X.N.Nodup) (hi : X.N[i]? = some x := by rfl) (hx : Loc X.env.scope x := by first | exact Or.inl rfl | exact Or.inr rfl) (hs : swapsWith e (some (.Name x pos')) pos.line X.env = pure false := by rfl)
    (hf : X.fn x = true ∨ X.env.scope.names.lookup x = some .local := by first | exact .inl rfl | exact .inr rfl | assumption) : PDS X F (.Assign [.Name x pos'] e pos) (sSetX i fx) := ps_imp (ps_set hN hi hx ha hs hf) fun D σ H h => by
  obtain ⟨Z, env, fl, r, e, q⟩ := h
  obtain ⟨y, h1, h⟩ := mpd e
  subst h
  refine ⟨Z, env, y, r, h1, ?_⟩
  cases y with
  | ok d e1 => exact fun v Z' H' r' s' dd => q _ Z' H' (r'.store i dd) s'.z
  | ex c a d e1 => exact fun v p Z' H' r' s' hz hg hp hx dd => q v p σ Z' H' r' s'.z hz hg hp hx dd
theorem ds_retX (ha : PDX X F e fx) : PDS X F (.Return (some e) pos) (sRetX fx) := ps_imp (ps_ret ha) fun D σ H h => by
  obtain ⟨Z, env, fl, r, e, q⟩ := h
  obtain ⟨y, h1, h⟩ := mpd e
  subst h
  refine ⟨Z, env, y, r, h1, ?_⟩
  cases y with
  | ok d e1 => exact fun v Z' H' r' s' dd => q v σ Z' H' r' s'.z dd
  | ex c a d e1 => exact fun v p Z' H' r' s' hz hg hp hx dd => q v p σ Z' H' r' s'.z hz hg hp hx dd
end

/-! ### defs that may raise -/
def runX (n N : Nat) (g : DEnv → Option DFlow) (ds : List PyData) : Option XR := if ds.length = n then (match g (startE N ds) with
  | some (.rt d _) => some (.ok d)
  | some (.nx _) => some (.ok .none)
  | some (.ex c a d _) => some (.ex c a d)
  | _ => none) else none
theorem runX_len {n N : Nat} {g : DEnv → Option DFlow} (ds : List PyData) (r : XR) (h : runX n N g ds = some r) : ds.length = n := by
  unfold runX at h
  split at h
  · assumption
  · cases h
theorem okX_len {n N : Nat} {g : DEnv → Option DFlow} (ds : List PyData) (r : PyData) (h : okX (runX n N g ds) = some r) : ds.length = n := runX_len ds _ (okX_eq h)
section
variable {P : Program} {w : World} {K : PySem.W.Frag} {mg : Str → Option Value} {base : Heap} {x qual : Str} {st : Stmt} {f : Addr} {fd : FuncData} {N ps : List Str} {k : Nat} {g : DEnv → Option DFlow} {C : Str → Addr}
/-- what a body's derivation is asked for -/
abbrev BodyX (C : Str → Addr) (P : Program) (w : World) (K : PySem.W.Frag) (mg : Str → Option Value) (base : Heap) (N : List Str) (qual : Str) (st : Stmt) (f : Addr) (cv : Value) (k : Nat) (g : DEnv → Option DFlow) : Prop :=
  ∀ (cdv : Value) (A : Around) (outer : List Env) (s : Shared) (H : Hp) (E : XK) (F : Fm), cdv = cv → Takes (cxOf (L2.CX P w) P w K mg base N qual (defScope st) f cdv A outer s H E) (wx C F.W) →
    PassesOwn (model P w) (cxOf (L2.CX P w) P w K mg base N qual (defScope st) f cdv A outer s H E).A (cxOf (L2.CX P w) P w K mg base N qual (defScope st) f cdv A outer s H E).env (cxOf (L2.CX P w) P w K mg base N qual (defScope st) f cdv A outer s H E).xe →
    GdOk (A.deeper (envOfC qual (defScope st) s.heap.objs.size f cdv)) → Room k (A.deeper (envOfC qual (defScope st) s.heap.objs.size f cdv)) →
    PDSs (cxOf (L2.CX P w) P w K mg base N qual (defScope st) f cdv A outer s H E) F (defBody st) g
theorem pure_startW {Z H : Hp} {vs : List V} {ds : List PyData} {W : Str → Option Addr → St → Hp → Prop} (sz : Same Z H) (tb : TB H) (hd : DDs K Z vs ds) (hl : vs.length ≤ N.length) : Rel K ⟨Z, H, fun _ => False, W⟩ Z H (start N vs) (startE N.length ds) := by
  have r := pure_start (K := K) (N := N) sz tb hd hl
  exact ⟨r.z0, r.zh, r.gh, r.nw, r.pp, r.len, fun i dv e => by have := r.sl i dv e; cases dv <;> exact this, r.inj, r.tb⟩
theorem fn_X (D : Fun K x qual st f fd) (S : FnScope N ps (defScope st)) {n m : Nat} (hn : ps.length = n) (hN' : N.length = m) (hb : BodyX C P w K mg base N qual st f fd.code k g) : FnX P w K mg base (k + 1) f fd ps (spX K C n (runX n m g)) := by
  subst hn hN'
  refine fnx_of D S (fun vs H Q E h => h.1) fun cdv A outer s H vs Q E hcv hg hr h => ?_
  obtain ⟨hl, Z, ds, r, sz, tb, hd, e, q⟩ := h
  have hN : ps.length ≤ N.length := by
    have := congrArg List.length S.pre
    rw [List.length_take] at this
    omega
  refine ⟨_, hb cdv A outer s H E ⟨Z, H, fun _ => False, fun c d _ H' => E (.ref (C c)) d H'⟩ hcv ?_ (passes_of rfl) hg hr, Z, startE N.length ds, ?_⟩
  · refine (takes_of (E := E) rfl rfl rfl rfl).imp fun cls d σ H' h => ?_
    obtain ⟨c, rfl, h⟩ := h
    exact h
  have r0 := pure_startW (K := K) (N := N) (W := fun c d _ H' => E (.ref (C c)) d H') sz tb hd (by omega)
  have fin : ∀ {Z' H' : Hp} {σ' : St} {e' : DEnv}, Rel K ⟨Z, H, fun _ => False, fun c d _ H' => E (.ref (C c)) d H'⟩ Z' H' σ' e' → Grow Z H Z' H' := fun {Z' H' σ' e'} r' => ⟨r'.z0, r'.zh, r'.gh, fun _ => r'.tb, fun q hq => (r'.nw q hq).imp id (·.1)⟩
  unfold runX at e
  split at e
  case isFalse => cases e
  generalize hh : g (startE N.length ds) = o at e
  match o, e with
  | some (.rt d e'), e =>
    cases e
    exact ⟨_, r0, rfl, fun v σ' Z' H' r' s' dd => q v Z' H' (fin r') dd⟩
  | some (.nx e'), e =>
    cases e
    exact ⟨_, r0, rfl, fun σ' Z' H' r' s' => q .non Z' H' (fin r') .non⟩
  | some (.ex c a d e'), e =>
    cases e
    exact ⟨_, r0, rfl, fun v p σ' Z' H' r' s' hz hg' hp' hx dd => q v p Z' H' (fin r') hg' hz hx dd⟩
end

/-! ### try .. except X: .. -/
theorem Rel.wish {K : PySem.W.Frag} {F : Fm} {Z H : Hp} {σ : St} {env : DEnv} {W : Str → Option Addr → St → Hp → Prop} (r : Rel K F Z H σ env) : Rel K { F with W := W } Z H σ env :=
  ⟨r.z0, r.zh, r.gh, r.nw, r.pp, r.len, fun i dv e => by have := r.sl i dv e; cases dv <;> exact this, r.inj, r.tb⟩
theorem Rel.unwish {K : PySem.W.Frag} {F : Fm} {Z H : Hp} {σ : St} {env : DEnv} {W : Str → Option Addr → St → Hp → Prop} (r : Rel K { F with W := W } Z H σ env) : Rel K F Z H σ env :=
  ⟨r.z0, r.zh, r.gh, r.nw, r.pp, r.len, fun i dv e => by have := r.sl i dv e; cases dv <;> exact this, r.inj, r.tb⟩
def sTry (mt : Str → Option Bool) (gb gh : DEnv → Option DFlow) (env : DEnv) : Option DFlow := (gb env).bind fun fl => match fl with
  | .ex c a d e => (mt c).bind fun b => if b then gh e else some (.ex c a d e)
  | fl => some fl
theorem ds_try {X : Cx} {F : Fm} {C : Str → Addr} {x : Str} {cv : Value} {body suite : List Stmt} {b₀ : Stmt} {np pos pos' : Pos} {mt : Str → Option Bool} {gb gh : DEnv → Option DFlow} (hmt : ∀ c b, mt c = some b → PySem.W.exmOne X.K (.ref (C c)) cv = some b)
    (hs : X.stack = X.env :: X.outer) (hf : X.env.frame = some X.env.locals) (hc : Names X x cv) (tk : Takes X (wx C F.W))
    (hb : ∀ (F' : Fm) (pn : List (Addr × Obj)) (xe : Value → Shared → Prop), Takes (X.tr pn xe) (wx C F'.W) → PassesOwn (model X.prog X.w) X.A X.env xe → PDSs (X.tr pn xe) F' body gb)
    (hsu : ∀ (a : Addr) (oe : Obj) (cls : Value) (d : Option Addr) (pn : List (Addr × Obj)), Zc cls d oe → (∃ vs, oe.data = .fields vs) → PDSs (X.suite a ((a, oe) :: pn)) F (b₀ :: suite) gh) :
    PDS X F (.Try body [.ExceptHandler (some (.Name x np)) none (b₀ :: suite) pos'] [] [] pos) (sTry mt gb gh) := by
  refine ps_imp (ps_try_only (tb := fun W => tDS X.K { F with W := fun c d σ H => W (.ref (C c)) d σ H } gb) (ts := fun _ _ _ => tDS X.K F gh) hs hf hc tk (fun W pn xe tk' hp => hb _ pn xe (tk'.imp fun cls d σ H h => ?_) hp) fun a oe cls d pn hz hv => hsu a oe cls d pn hz hv) fun D σ H h => ?_
  · obtain ⟨c, rfl, h⟩ := h
    exact h
  · obtain ⟨Z, env, fl, r, e, q⟩ := h
    obtain ⟨f1, h1, h⟩ := bnd e
    refine ⟨Z, env, f1, r.wish, h1, ?_⟩
    cases f1 with
    | nx e1 => cases h; exact fun σ' Z' H' r' s' => q σ' Z' H' r'.unwish s'
    | rt d e1 => cases h; exact fun v σ' Z' H' r' s' dd => q v σ' Z' H' r'.unwish s' dd
    | rn ds e1 => cases h; exact fun p xs σ' Z' H' r' s' a1 a2 a3 a4 dd => q p xs σ' Z' H' r'.unwish s' a1 a2 a3 a4 dd
    | bk e1 => cases h; exact fun σ' Z' H' r' s' => q σ' Z' H' r'.unwish s'
    | ct e1 => cases h; exact fun σ' Z' H' r' s' => q σ' Z' H' r'.unwish s'
    | ex c a d e1 =>
      obtain ⟨b, h2, h⟩ := bnd h
      refine fun v p σ' Z' H' r' s' a1 a2 a3 a4 dd => ⟨b, hmt c b h2, fun hbt a0 _ => ?_, fun hbf => ?_⟩
      · rw [hbt] at h
        exact ⟨Z', e1, fl, r'.unwish, h, q.mono s'⟩
      · rw [hbf] at h
        cases h
        exact ⟨c, rfl, q v p σ' Z' H' r'.unwish s' a1 a2 a3 a4 dd⟩
theorem takes_W0 {X : Cx} {C : Str → Addr} {F : Fm} (h : F.W = W0) : Takes X (wx C F.W) := takes0.imp fun cls d σ H z => by
  obtain ⟨c, _, z⟩ := z
  rw [h] at z
  exact z

/-! ### raise X(e), X an own class over ValueError that keeps its one argument -/
/-- what such an __init__ does -/
def spI (C : Addr) (an : Str) : Sp := fun vs H Q _ => ∃ a y, vs = [.ref a, y] ∧ H a = some (exo a C none) ∧ ∀ dx, H dx = none → dx ≠ a → Q .non (upd (upd H dx (exd dx [(an, y)])) a (exo a C (some dx)))
theorem init_ok {P : Program} {w : World} {K : PySem.W.Frag} {mg : Str → Option Value} {base : Heap} {qual : Str} {st : Stmt} {fI C : Addr} {fd : FuncData} {an : Str} {p1 p2 p3 p4 : Pos} (D : Fun K "__init__" qual st fI fd) (S : FnScope ["self", an] ["self", an] (defScope st)) (T : OexC K C) (hno : PySem.W.findIn K (.ref C) an = some none)
    (hbd : defBody st = [.Assign [.Attribute (.Name "self" p1) an p2] (.Name an p3) p4]) (hv1 : Vis (defScope st) "self") (hv2 : Vis (defScope st) an) (hd : (an == ("__debug__" : Str)) = false) (hcd : (an == ("__classdict__" : Str)) = false) :
    FnOk P w K mg base CX0 1 fI fd ["self", an] (spI C an) := by
  refine D.ok S (fun vs H Q E h => by obtain ⟨a, y, rfl, _⟩ := h; rfl) fun cdv A outer s H vs Q E hr h => ?_
  obtain ⟨a, y, rfl, ha, q⟩ := h
  rw [hbd]
  refine ⟨_, pss_one (ps_ost (pe_var (i := 0) rfl hv1) (pe_var (i := 1) rfl hv2 hd hcd)), ?_⟩
  exact ⟨y, rfl, .ref a, rfl, a, C, rfl, T, hno, .inl ⟨ha, fun dx h1 h2 => q dx h1 h2⟩⟩
def sRaise (c an : Str) (f : DEnv → Option (PyData × DEnv)) (env : DEnv) : Option DFlow := (f env).map fun x => .ex c an x.1 x.2
theorem upd_back {H : Hp} {a dx : Addr} {o1 o2 o3 : HO} {x : HO} (ha : H a = none) (hne : dx ≠ a) : upd (del (upd (upd (upd H a o1) dx o2) a o3) a) dx x = upd H dx x := by
  funext b
  by_cases h1 : b = dx
  · subst h1; rw [upd_same, upd_same]
  · rw [upd_ne h1, upd_ne h1]
    by_cases h2 : b = a
    · subst h2; rw [del_same, ha]
    · rw [del_ne h2, upd_ne h2, upd_ne h1, upd_ne h2]
theorem ds_raise {X : Cx} {F : Fm} {C : Str → Addr} {cn an : Str} {fI : Addr} {fd : FuncData} {p pos pos' : Pos} {e : Expr} {f : DEnv → Option (PyData × DEnv)} (hc : X.calm = true) (tk : Takes X (wx C F.W)) (T : OexC X.K (C cn)) (iC : PySem.W.findIn X.K (.ref (C cn)) "__init__" = some (some (.ref fI))) (tI : PySem.W.typeIn X.K (.ref fI) = some (.type "function"))
    (F1 : FnOk X.prog X.w X.K X.mg X.base CX0 1 fI fd ["self", an] (spI (C cn) an)) (hr : Room 2 X.A) (hb : Binds X.K fd ["self", an] []) (hm : X.mg cn = some (.ref (C cn))) (ha : PD X F e f) (hg : Gl X cn := by rfl)
    (hdb : (cn == ("__debug__" : Str)) = false := by decide) (he : starEach [e] X.env = (false, eval e X.env) :: starEach [] X.env := by rfl) (hpl : (backTo pos (starEach [] X.env)).any (·.1) = false := by rfl) :
    PDS X F (.Raise (some (.Call (.Name cn p) [e] [] pos)) none pos') (sRaise cn an f) :=
  ps_imp (ps_raise hc tk (pmk_oex T iC tI F1 hr hb .nil (fun _ _ _ _ _ _ _ z => z.elim) hg hm (pa_cons ha pa_nil he) hdb he hpl)) fun D σ H h => by
    obtain ⟨Z, env, fl, r, e, q⟩ := h
    obtain ⟨⟨d, e1⟩, h1, h⟩ := mpd e
    subst h
    refine ⟨Z, env, d, e1, r, h1, fun v Z1 H1 r1 s1 dd => ⟨by show 1 ≤ 1000; decide, fun a na => ⟨a, v, rfl, upd_same, fun dx hdx hne => ⟨rfl, dx, [(an, v)], upd_same, ?_, ?_, cn, rfl, ?_⟩⟩⟩⟩
    · rw [upd_ne hne, upd_same]
    · rw [upd_ne hne] at hdx; exact hdx
    · rw [upd_ne hne] at hdx
      rw [upd_back na hne]
      have hS : Same H1 (upd H1 dx (.xd [(an, v)])) := .of (same_new hdx _)
      have gr : Grow Z1 H1 Z1 (upd H1 dx (.xd [(an, v)])) := ⟨Same.refl _, r1.zh.trans hS, hS, fun t => t.ext (same_new hdx _), fun _ z => .inl z⟩
      exact q v dx σ Z1 _ (r1.grow gr) s1.z (r1.zh.free hdx) (r1.gh.free hdx) (fun z => (r1.pp dx z).1 hdx) upd_same dd

/-! ### {}, is, tuple * n, int(b) -/
section
variable {X : Cx} {F : Fm} {pos : Pos}
theorem pd_dict0 : PD X F (.Dict [] [] pos) (fC (.dict [])) := pe_imp pe_dnewK fun σ H Q h => by
  obtain ⟨Z, env, d, env', r, e, q⟩ := h
  cases e
  refine fun p hp => ?_
  have gr := grow_new r.zh hp (.dK [])
  exact q _ _ _ (r.grow gr) gr.stp (.dct upd_same)
def isD : PyData → PyData → Option PyData
  | .bool a, .bool b => some (.bool (decide (a = b)))
  | _, _ => none
def isNotD : PyData → PyData → Option PyData
  | .bool a, .bool b => some (.bool (!decide (a = b)))
  | _, _ => none
theorem od_is : OpD X (compareOp .Is) isD := by
  intro pins s σ H x y v u Q I rx ry h
  obtain ⟨Z, a, b, d, sz, ha, hb, e, q⟩ := h
  match a, b, ha, hb, e with
  | .bool a, .bool b, ha, hb, e =>
    cases e
    cases ha
    cases hb
    exact op_isBl pins s σ H _ _ v u Q I rx ry ⟨a, b, rfl, rfl, q _ Z H (Grow.refl sz) (.bl _)⟩
theorem od_isNot : OpD X (compareOp .IsNot) isNotD := by
  intro pins s σ H x y v u Q I rx ry h
  obtain ⟨Z, a, b, d, sz, ha, hb, e, q⟩ := h
  match a, b, ha, hb, e with
  | .bool a, .bool b, ha, hb, e =>
    cases e
    cases ha
    cases hb
    exact op_notBl pins s σ H _ _ v u Q I rx ry ⟨a, b, rfl, rfl, q _ Z H (Grow.refl sz) (.bl _)⟩
theorem isD_b : IsB isD := fun a b d h => by
  match a, b, h with
  | .bool a, .bool b, h => cases h; exact ⟨_, rfl⟩
theorem isNotD_b : IsB isNotD := fun a b d h => by
  match a, b, h with
  | .bool a, .bool b, h => cases h; exact ⟨_, rfl⟩
def repTD : PyData → PyData → Option PyData
  | .tuple xs, .int k => if xs ≠ [] ∧ 2 ≤ k ∧ k ≤ 1000 ∧ xs.length ≤ 1000 then some (.tuple (List.replicate k.toNat xs).flatten) else none
  | _, _ => none
theorem dds_app2 {K : PySem.W.Frag} {Z : Hp} : ∀ {vs ws : List V} {ds es : List PyData}, DDs K Z vs ds → DDs K Z ws es → DDs K Z (vs ++ ws) (ds ++ es)
  | _, _, [], _, h, h2 => by cases h; exact h2
  | _, _, _ :: _, _, h, h2 => by
    cases h with
    | cons a b => exact .cons a (dds_app2 b h2)
theorem dds_rep {K : PySem.W.Frag} {Z : Hp} {vs : List V} {ds : List PyData} (h : DDs K Z vs ds) : ∀ n : Nat, DDs K Z (List.replicate n vs).flatten (List.replicate n ds).flatten
  | 0 => .nil
  | n + 1 => by
    rw [List.replicate_succ, List.replicate_succ, List.flatten_cons, List.flatten_cons]
    exact dds_app2 h (dds_rep h n)
theorem od_repT : OpD X (binaryOp .Mult) repTD := by
  intro pins s σ H x y v u Q I rx ry h
  obtain ⟨Z, a, b, d, sz, ha, hb, e, q⟩ := h
  match a, b, ha, hb, e with
  | .tuple ds, .int k, ha, hb, e =>
    change (if ds ≠ [] ∧ 2 ≤ k ∧ k ≤ 1000 ∧ ds.length ≤ 1000 then some (PyData.tuple (List.replicate k.toNat ds).flatten) else none) = some d at e
    split at e
    case isFalse => cases e
    rename_i hc
    cases e
    cases hb.int_inv
    cases ha with
    | @tup l xs _ hr hd =>
      have hl := dds_len hd
      refine op_repT pins s σ H _ _ v u Q I rx ry ⟨l, k, xs, rfl, rfl, same_sqT sz hr, ?_, hc.2.1, hc.2.2.1, by omega, fun p hp => ?_⟩
      · intro z
        subst z
        cases hd
        exact hc.1 rfl
      · have gr := grow_new sz hp (.tup (List.replicate k.toNat xs).flatten)
        exact q _ _ _ gr (.tup (.inl (Rd.of upd_same)) (DDsm (dds_rep hd k.toNat) gr.z))
def intOfD : List PyData → Option PyData
  | [.int i] => some (.int i)
  | [.bool b] => some (.int (if b then 1 else 0))
  | _ => none
theorem cd_intOf : CallD X (.type "int") intOfD := by
  intro pins s σ H xs us Q I r h
  obtain ⟨Z, ds, d, sz, hd, e, q⟩ := h
  match ds, hd, e with
  | [.int i], hd, e =>
    cases e
    obtain ⟨v, rfl, h1⟩ := dds1 hd
    cases h1.int_inv
    exact call_int1 pins s σ H _ us Q I r (.inl ⟨i, rfl, q _ Z H (Grow.refl sz) (.int _)⟩)
  | [.bool b], hd, e =>
    cases e
    obtain ⟨v, rfl, h1⟩ := dds1 hd
    cases h1
    exact call_int1 pins s σ H _ us Q I r (.inr ⟨b, rfl, q _ Z H (Grow.refl sz) (.int _)⟩)
end
/-! ### classes by name -/
def clsOf {α : Type} (l : List (Str × α)) (d : α) (c : Str) : α := match l with
  | [] => d
  | (n, a) :: l => if c = n then a else clsOf l d c
omit [Lab] in
theorem oex_mk {K : PySem.W.Frag} {C : Addr} {nm q N bs bm sn sub ab col dd k0 k1 k2 k3 k5} (l : K.lookup C = some (excClassObj nm q C N bs bm true sn sub ab col dd k0 k1 k2 k3 k5 "ValueError.__new__")) (r : PySem.HandSPX.refsVE bm = true)
    (sa : PySem.W.findIn K (.ref C) "__setattr__" = some (some (.builtin "object.__setattr__"))) (ex : PySem.W.subIn K (.ref C) (.type "BaseException") = some true) (ty : PySem.W.typeIn K (.ref C) = some (.type "type")) (k : PySem.W.keepIn K (.ref C) = true) : OexC K C :=
  ⟨⟨nm, q, N, bs, bm, sn, sub, ab, col, dd, k0, k1, k2, k3, k5, l, r⟩, sa, ex, ty, k⟩
end DL
end L2

set_option Elab.async false
set_option maxRecDepth 100000
set_option maxHeartbeats 4000000
set_option autoImplicit false
namespace L2
namespace DL
open PySem PySem.Spec PyProof.Rows
variable [Lab]
/-! ### comparisons whose left side is a name: its list as it stands -/
section
variable {X : Cx} {F : Fm} {a b c e : Expr} {pos p : Pos} {f g k : DEnv → Option (PyData × DEnv)}
def fCmpL (o : PyData → PyData → Option PyData) (i : Nat) (g : DEnv → Option (PyData × DEnv)) (env : DEnv) : Option (PyData × DEnv) := (rdB i env).bind fun _ => (g env).bind fun y => (rdB i y.2).bind fun x => (o x y.1).map fun d => (d, y.2)
theorem cmpL_read {K : PySem.W.Frag} {o : PyData → PyData → Option PyData} {i : Nat} (hs : ∀ a b d, o a b = some d → scalD d = true) {σ : St} {H : Hp} {Q : VK} (h : tD K F (fCmpL o i g) σ H Q) : tOp (r2D K o) (tVar i) (tD K F g) σ H Q := by
  obtain ⟨Z, env, d, env', r, e, q⟩ := h
  obtain ⟨x0, h0, h⟩ := bnd e
  obtain ⟨⟨y, e1⟩, h1, h⟩ := bnd h
  obtain ⟨x, h2, h⟩ := bnd h
  obtain ⟨d', h3, h⟩ := mpd h
  cases h
  obtain ⟨v, ev, _⟩ := r.rdB h0
  refine ⟨v, ev, Z, env, y, e1, r, h1, fun v2 Z1 H1 r1 s1 d2 => ?_⟩
  obtain ⟨v', ev', dv⟩ := r1.rdB h2
  rw [ev] at ev'
  cases ev'
  refine ⟨H1, x, y, d, Same.refl H1, dv, DDm d2 r1.zh, h3, fun v' Z' H' gr dd => ?_⟩
  have gr' : Grow Z1 H1 Z1 H' := ⟨Same.refl _, r1.zh.trans gr.h, gr.h, gr.t, fun _ z => .inl z⟩
  exact q v' Z1 H' (r1.grow gr') (s1.trans gr'.stp) (dd.scal (hs _ _ _ h3))
theorem pd_cmpL {op : CmpOp} {o : PyData → PyData → Option PyData} (ho : OpD X (compareOp op) o) (hs : ∀ a b d, o a b = some d → scalD d = true) (i : Nat) (hb : PD X F b g) {x : Str} (hm : behindInMarks op b = false := by first | exact nomark _ | rfl)
    (hN : X.N[i]? = some x := by rfl) (hv : Vis X.env.scope x := by first | exact Or.inl rfl | exact Or.inr (Or.inl rfl) | exact Or.inr (Or.inr rfl)) (hd : (x == ("__debug__" : Str)) = false := by decide)
    (hcd : (x == ("__classdict__" : Str)) = false := by decide) : PD X F (.Compare (.Name x p) [op] [b] pos) (fCmpL o i g) :=
  pe_imp (pe_cmpR ho (pe_var hN hv hd hcd) hb hm) fun _ _ _ h => cmpL_read hs h
theorem pdt_cmpL {op : CmpOp} {o : PyData → PyData → Option PyData} (ho : OpD X (compareOp op) o) (hs : ∀ a b d, o a b = some d → scalD d = true) (hb : IsB o) (i : Nat) (hc : PD X F b g) {x : Str} (hm : behindInMarks op b = false := by first | exact nomark _ | rfl)
    (hN : X.N[i]? = some x := by rfl) (hv : Vis X.env.scope x := by first | exact Or.inl rfl | exact Or.inr (Or.inl rfl) | exact Or.inr (Or.inr rfl)) (hd : (x == ("__debug__" : Str)) = false := by decide)
    (hcd : (x == ("__classdict__" : Str)) = false := by decide) : PDT X F (.Compare (.Name x p) [op] [b] pos) (fTst (fCmpL o i g)) :=
  pt_imp (pt_cmpR ho (pe_var hN hv hd hcd) hc hm) fun _ _ _ h => tst_read (fun env d e h => by
    obtain ⟨x, _, h⟩ := bnd h
    obtain ⟨y, _, h⟩ := bnd h
    obtain ⟨y, _, h⟩ := bnd h
    obtain ⟨z, h1, h⟩ := mpd h
    cases h
    exact hb _ _ _ h1) (fun _ _ _ h => cmpL_read hs h) h
/-! ### a tuple beside () -/
def eqTE : PyData → PyData → Option PyData
  | .tuple a, .tuple [] => some (.bool a.isEmpty)
  | a, b => eqD a b
theorem od_eqTE {k : Nat} (hr : Room k X.A) : OpD X (compareOp .Eq) eqTE := by
  intro pins s σ H x y v u Q I rx ry h
  obtain ⟨Z, a, b, d, sz, ha, hb, e, q⟩ := h
  unfold eqTE at e
  split at e
  · rename_i as
    cases e
    cases ha with
    | @tup p xs _ hx dx =>
      cases hb with
      | @tup p' ys _ hy dy =>
        cases dy
        obtain ⟨its, rv, t1, _⟩ := I.tuple (same_sqT sz hx)
        obtain ⟨its', rv', t2, _⟩ := I.tuple (same_sqT sz hy)
        cases rv'
        cases rx
        cases ry
        have hl := dds_len dx
        have hl2 := rv.length
        refine SeqAt.RcAt.tuples (e := fun _ => true) t1 t2 (by have := hr.units; omega) (fun j _ h2 => absurd h2 (by simp)) _ _ _ _ ?_
        refine ⟨.bl as.isEmpty, H, I, ?_, q _ Z H (Grow.refl sz) (.bl _)⟩
        show Value.bool _ = Value.bool _
        congr 1
        cases as with
        | nil =>
          have : its = [] := by
            cases its with
            | nil => rfl
            | cons _ _ => rw [hl2] at hl; exact nomatch hl
          subst this
          rfl
        | cons _ _ =>
          cases its with
          | nil => rw [hl2] at hl; exact nomatch hl
          | cons _ _ => simp
  · exact od_eq hr pins s σ H x y v u Q I rx ry ⟨Z, a, b, d, sz, ha, hb, e, q⟩
theorem eqTE_b : IsB eqTE := fun a b d h => by
  unfold eqTE at h
  split at h
  · cases h; exact ⟨_, rfl⟩
  · exact eqD_b _ _ _ h
/-! ### list + list, new -/
def nAdd (f g : DEnv → Option (PyData × DEnv)) (env : DEnv) : Option (List PyData × DEnv) := (f env).bind fun x => (g x.2).bind fun y => match x.1, y.1 with
  | .list a, .list b => if a.length + b.length ≤ lim then some (a ++ b, y.2) else none
  | _, _ => none
def rAddL (K : PySem.W.Frag) : R2 := fun x y H Q => ∃ Z a b, Same Z H ∧ DD K Z x (.list a) ∧ DD K Z y (.list b) ∧ a.length + b.length ≤ lim ∧ ∀ p xs, H p = none → DDs K Z xs (a ++ b) → Q (.ref p) (upd H p (.lst xs))
theorem op_addL : OpR X (binaryOp .Add) (rAddL X.K) := by
  intro pins s σ H x y v u Q I rx ry h
  obtain ⟨Z, i, j, sz, ha, hb, hle, q⟩ := h
  have hlim : lim = 100000 := rfl
  have hsl := sizeLine_eq
  cases ha with
  | @lst p xs _ hx dx =>
    cases hb with
    | @lst p' ys _ hy dy =>
      have l1 := dds_len dx
      have l2 := dds_len dy
      cases rx
      cases ry
      obtain ⟨z, its, n, r, e1⟩ := (same_ls sz hx).isL I
      obtain ⟨z2, its2, n2, r2, e2⟩ := (same_ls sz hy).isL I
      have k1 := r.length
      have k2 := r2.length
      refine PySem.P.add_list e1 e2 ?_ (by rw [List.size_toArray, List.size_toArray]; omega)
      have ea : its.toArray ++ its2.toArray = (its ++ its2).toArray := by simp
      rw [ea]
      exact ⟨.ref _, _, I.lnew (t' := s.toks) (r.append r2) (by rw [List.length_append]; omega), rfl, q _ _ I.fresh (dds_app dx dy)⟩
theorem pn_addL (ha : PD X F a f) (hb : PD X F b g) : PN X F (.BinOp a .Add b pos) (nAdd f g) := pe_imp (pe_op op_addL ha hb) fun σ H Q h => by
  obtain ⟨Z, env, d, env', r, e, q⟩ := h
  obtain ⟨⟨x, e1⟩, h1, h⟩ := bnd e
  obtain ⟨⟨y, e2⟩, h2, h⟩ := bnd h
  refine ⟨Z, env, x, e1, r, h1, fun v1 Z1 H1 r1 s1 d1 => ⟨Z1, e1, y, e2, r1, h2, fun v2 Z2 H2 r2 s2 d2 => ?_⟩⟩
  match x, y, d1, d2, h with
  | .list a, .list b, d1, d2, h =>
    change (if a.length + b.length ≤ lim then some (a ++ b, e2) else none) = some (d, env') at h
    split at h
    case isFalse => cases h
    rename_i hl
    cases h
    refine ⟨Z2, a, b, r2.zh, DDm d1 s2.z, d2, hl, fun p xs hp hd => ?_⟩
    have gr := grow_own r2.zh hp (.lst xs)
    exact q p xs _ _ (r2.grow gr) ((s1.trans s2).trans gr.stp) ((s1.trans s2).new hp) (r2.zh.free hp) upd_same hd
end
end DL
end L2

set_option Elab.async false
set_option maxRecDepth 100000
set_option maxHeartbeats 4000000
set_option autoImplicit false
namespace L2
namespace DL
open PySem PySem.Spec PyProof.Rows
variable [Lab]
/-! ### more of evaluation -/
theorem ev_forE {g : PyData → DEnv → Option DEnv} {b : DEnv → Option DFlow} {d : PyData} {ds : List PyData} {env e1 e2 : DEnv} {r : PyData} (hg : g d env = some e1) (hb : b e1 = some (.rt r e2)) : forD g b (d :: ds) env = some (.rt r e2) := by
  rw [forD, hg]; show (b e1).bind _ = _; rw [hb]; rfl
theorem ev_forX {g : PyData → DEnv → Option DEnv} {b : DEnv → Option DFlow} {d : PyData} {ds : List PyData} {env e1 e2 : DEnv} {c a : Str} {r : PyData} (hg : g d env = some e1) (hb : b e1 = some (.ex c a r e2)) : forD g b (d :: ds) env = some (.ex c a r e2) := by
  rw [forD, hg]; show (b e1).bind _ = _; rw [hb]; rfl
theorem ev_seqR {f g : DEnv → Option DFlow} {env e1 : DEnv} {d : PyData} (h : f env = some (.rt d e1)) : sSeq f g env = some (.rt d e1) := by
  unfold sSeq; rw [h]; rfl
theorem ev_seqX {f g : DEnv → Option DFlow} {env e1 : DEnv} {c a : Str} {d : PyData} (h : f env = some (.ex c a d e1)) : sSeq f g env = some (.ex c a d e1) := by
  unfold sSeq; rw [h]; rfl
theorem ev_or1 {f g : DEnv → Option (Bool × DEnv)} {env e1 : DEnv} (h : f env = some (true, e1)) : fOr f g env = some (true, e1) := by
  unfold fOr; rw [h]; rfl
theorem ev_or0 {f g : DEnv → Option (Bool × DEnv)} {env e1 e2 : DEnv} {k : Bool} (h : f env = some (false, e1)) (h2 : g e1 = some (k, e2)) : fOr f g env = some (k, e2) := by
  unfold fOr; rw [h]; exact h2
theorem ev_and0 {f g : DEnv → Option (Bool × DEnv)} {env e1 : DEnv} (h : f env = some (false, e1)) : fAnd f g env = some (false, e1) := by
  unfold fAnd; rw [h]; rfl
theorem ev_and1 {f g : DEnv → Option (Bool × DEnv)} {env e1 e2 : DEnv} {k : Bool} (h : f env = some (true, e1)) (h2 : g e1 = some (k, e2)) : fAnd f g env = some (k, e2) := by
  unfold fAnd; rw [h]; exact h2
theorem ev_not {f : DEnv → Option (Bool × DEnv)} {env e1 : DEnv} {k : Bool} (h : f env = some (k, e1)) : fNot f env = some (!k, e1) := by
  unfold fNot; rw [h]; rfl
theorem ev_cr {j : Nat} {m : List PyData → List PyData → Option (PyData × List PyData)} {fa : DEnv → Option (List PyData × DEnv)} {env e1 : DEnv} {es0 es es' ds : List PyData} {d : PyData} (h0 : rdO j env = some es0) (h : fa env = some (ds, e1)) (h1 : rdO j e1 = some es) (h2 : m es ds = some (d, es')) : fCR j m fa env = some (d, wrO j es' e1) := by
  unfold fCR; rw [h0]; show (fa env).bind _ = _; rw [h]; show (rdO j e1).bind _ = _; rw [h1]; show (m es ds).map _ = _; rw [h2]; rfl
theorem ev_runF {n N : Nat} {g : DEnv → Option DFlow} {ds : List PyData} {d : PyData} {env : DEnv} (hl : ds.length = n) (h : g (startE N ds) = some (.rt d env)) : runF n N g ds = some d := by
  unfold runF; rw [if_pos hl, h]
theorem ev_runF0 {n N : Nat} {g : DEnv → Option DFlow} {ds : List PyData} {env : DEnv} (hl : ds.length = n) (h : g (startE N ds) = some (.nx env)) : runF n N g ds = some .none := by
  unfold runF; rw [if_pos hl, h]
theorem ev_runX {n N : Nat} {g : DEnv → Option DFlow} {ds : List PyData} {d : PyData} {env : DEnv} (hl : ds.length = n) (h : g (startE N ds) = some (.rt d env)) : runX n N g ds = some (.ok d) := by
  unfold runX; rw [if_pos hl, h]
theorem ev_runX0 {n N : Nat} {g : DEnv → Option DFlow} {ds : List PyData} {env : DEnv} (hl : ds.length = n) (h : g (startE N ds) = some (.nx env)) : runX n N g ds = some (.ok .none) := by
  unfold runX; rw [if_pos hl, h]
theorem ev_runXX {n N : Nat} {g : DEnv → Option DFlow} {ds : List PyData} {c a : Str} {d : PyData} {env : DEnv} (hl : ds.length = n) (h : g (startE N ds) = some (.ex c a d env)) : runX n N g ds = some (.ex c a d) := by
  unfold runX; rw [if_pos hl, h]
theorem ev_runR {n N : Nat} {g : DEnv → Option DFlow} {es es' ds : List PyData} {d : PyData} {env : DEnv} (hl : ds.length + 1 = n) (h : g (some (.rf es) :: startE (N - 1) ds) = some (.rt d (some (.rf es') :: env))) : runR n N g es ds = some (d, es') := by
  unfold runR; rw [if_pos hl, h]; rfl
theorem ev_setE {i : Nat} {f : DEnv → Option (PyData × DEnv)} {env e1 e2 : DEnv} {d : PyData} (h : f env = some (d, e1)) (he : e1.set i (some (.fr d)) = e2) : sSet i f env = some (.nx e2) := by
  unfold sSet; rw [h, ← he]; rfl
theorem ev_crE {j : Nat} {m : List PyData → List PyData → Option (PyData × List PyData)} {fa : DEnv → Option (List PyData × DEnv)} {env e1 e2 : DEnv} {es0 es es' ds : List PyData} {d : PyData} (h0 : rdO j env = some es0) (h : fa env = some (ds, e1)) (h1 : rdO j e1 = some es) (h2 : m es ds = some (d, es')) (he : wrO j es' e1 = e2) : fCR j m fa env = some (d, e2) := by
  rw [← he]; exact ev_cr h0 h h1 h2
/-- a comprehension whose element is a function of its item -/
theorem lc_map {i : Nat} {fe : DEnv → Option (PyData × DEnv)} {p : PyData → PyData} {env : DEnv} (hw : env.set i none = env) : ∀ ds : List PyData, (∀ d ∈ ds, fe (env.set i (some (.fr d))) = some (p d, env.set i (some (.fr d)))) → lcD (gSet i) fYes fe [i] ds env = some (ds.map p, env)
  | [], _ => rfl
  | d :: ds, h => by
    have ih := lc_map hw ds fun x hx => h x (List.mem_cons_of_mem _ hx)
    rw [lcD]
    show ((fe (env.set i (some (.fr d)))).bind fun y => (lcD (gSet i) fYes fe [i] ds (wipeE y.2 [i])).map fun r => (y.1 :: r.1, r.2)) = _
    rw [h d List.mem_cons_self]
    show (lcD (gSet i) fYes fe [i] ds ((env.set i (some (.fr d))).set i none)).map _ = _
    rw [List.set_set, hw, ih]
    rfl
theorem bools_map {α : Type} (p : α → Bool) : ∀ ds : List α, boolsD (ds.map fun d => PyData.bool (p d)) = some (ds.map p)
  | [] => rfl
  | d :: ds => by
    show (boolsD (ds.map fun d => PyData.bool (p d))).map (p d :: ·) = _
    rw [bools_map p ds]
    rfl
theorem all_map {α : Type} (p : α → Bool) (ds : List α) : allD [.list (ds.map fun d => PyData.bool (p d))] = some (.bool (ds.all p)) := by
  show (boolsD (ds.map fun d => PyData.bool (p d))).map _ = _
  rw [bools_map]
  show some (PyData.bool ((ds.map p).all id)) = _
  rw [List.all_map]
  rfl
theorem rangeD_succ (lo : Int) (n : Nat) : rangeD lo (n + 1) = .int lo :: rangeD (lo + 1) n := by
  unfold rangeD
  rw [List.range_succ_eq_map, List.map_cons, List.map_map]
  congr 1
  · simp
  · refine List.map_congr_left fun i _ => ?_
    show PyData.int (lo + ((i + 1 : Nat) : Int)) = PyData.int (lo + 1 + (i : Int))
    congr 1
    omega
theorem enum_cons (d : PyData) (ds : List PyData) : enumD (d :: ds) = .tuple [.int 0, d] :: (rangeD 1 ds.length).zipWith (fun a b => .tuple [a, b]) ds := by
  unfold enumD
  rw [List.length_cons, rangeD_succ, List.zipWith_cons_cons]
  rfl
/-! ### data that may be laid -/
structure Ly (k : Nat) (d : PyData) : Prop where
  lay : d.canLay0 = true
  nd : d.hasDict = false
  dp : d.depth ≤ k
theorem Ly.mono {k k' : Nat} {d : PyData} (h : Ly k d) (hk : k ≤ k') : Ly k' d := ⟨h.lay, h.nd, Nat.le_trans h.dp hk⟩
theorem ly_all {k : Nat} : ∀ (ds : List PyData), (∀ d ∈ ds, Ly k d) → PyData.canLayAll0 ds = true ∧ PyData.hasDictAll ds = false ∧ PyData.depthAll ds ≤ k
  | [], _ => ⟨rfl, rfl, Nat.zero_le _⟩
  | d :: ds, h => by
    obtain ⟨a, b, c⟩ := ly_all ds fun x hx => h x (List.mem_cons_of_mem _ hx)
    have hd := h d List.mem_cons_self
    refine ⟨by simp [PyData.canLayAll0, hd.lay, a], by simp [PyData.hasDictAll, hd.nd, b], ?_⟩
    simp only [PyData.depthAll]
    exact Nat.max_le.mpr ⟨hd.dp, c⟩
theorem Ly.tuple {k : Nat} {ds : List PyData} (h : ∀ d ∈ ds, Ly k d) : Ly (k + 1) (.tuple ds) := by
  obtain ⟨a, b, c⟩ := ly_all ds h
  exact ⟨a, b, Nat.succ_le_succ c⟩
theorem Ly.list {k : Nat} {ds : List PyData} (h : ∀ d ∈ ds, Ly k d) : Ly (k + 1) (.list ds) := by
  obtain ⟨a, b, c⟩ := ly_all ds h
  exact ⟨a, b, Nat.succ_le_succ c⟩
theorem ly_int (i : Int) : Ly 0 (.int i) := ⟨rfl, rfl, Nat.le_refl _⟩
theorem ly_bool (i : Bool) : Ly 0 (.bool i) := ⟨rfl, rfl, Nat.le_refl _⟩
theorem ly_none : Ly 0 .none := ⟨rfl, rfl, Nat.le_refl _⟩
theorem Ly.sh {k : Nat} {d : PyData} (h : Ly k d) (hk : k ≤ 64) : shD d = true := by
  unfold shD SeqAt.shaped
  rw [h.lay, h.nd, decide_eq_true (Nat.le_trans h.dp hk)]
  rfl
theorem ly_ints (is : List Int) : ∀ d ∈ is.map PyData.int, Ly 0 d := fun d hd => by
  obtain ⟨i, _, rfl⟩ := List.mem_map.mp hd
  exact ly_int i
end DL
end L2

set_option Elab.async false
set_option maxRecDepth 100000
set_option maxHeartbeats 4000000
set_option autoImplicit false
namespace L2
namespace DL
open PySem PySem.Spec PyProof.Rows
variable [Lab]
/-! ### lambdas are made -/
abbrev lamQ (X : Cx) : Str := X.env.qual ++ "<lambda>"
/-- a lambda's object -/
def LamO (f : Addr) (q : Str) (params : Arguments) (body : Expr) (scope : Scope) (cl : List (Str × Addr)) (c' : Addr) : HO :=
  .ext fun h => ∃ pm ctv, h.get? f = some (PySem.W.kla_obj "<lambda>" q params body scope cl pm c' ctv)
omit [Lab] in
theorem nt_ext {φ : Heap → Prop} : NT (.ext φ) := fun _ h => nomatch h
section
variable {X : Cx} {pins : List (Addr × Obj)} {σ : St} {H : Hp} {s : Shared}
omit [Lab] in
theorem lamO_ok {f c' : Addr} {q : Str} {params : Arguments} {body : Expr} {scope : Scope} {cl : List (Str × Addr)} {pm ctv : Value} {H' : Hp} {h : Heap} (e : h.get? f = some (PySem.W.kla_obj "<lambda>" q params body scope cl pm c' ctv)) :
    ObjOk X.prog X.w H' h f (LamO f q params body scope cl c') := ⟨⟨pm, ctv, e⟩, ⟨_, e⟩, fun _ _ ⟨a, b, z⟩ k => ⟨a, b, k _ z⟩⟩
omit [Lab] in
theorem newFr (I : Inv X pins σ H s) {f : Addr} (hf : s.heap.objs.size ≤ f) : f ∉ frs X.stack := fun z => by
  rcases List.mem_cons.mp (I.stkSub _ z) with e | e
  · have h1 : X.env.locals < s.heap.objs.size := I.lt
    exact Nat.lt_irrefl _ (Nat.lt_of_lt_of_le (by rw [e]; exact h1) hf)
  · exact I.nofs hf e
def tLam (X : Cx) (params : Arguments) (body : Expr) (scope : Scope) : TE := fun _ H Q => TB H ∧ ∀ f c' H1, Same H H1 → TB H1 → H f = none →
  H1 f = some (LamO f (lamQ X) params body scope (cloFrom X.env.cells scope.names []) c') → H1 c' = some (LamX.CodeO c' (lamQ X)) → Q (.ref f) H1
theorem pe_lam {c P : Addr} {params : Arguments} {body : Expr} {scope : Scope} {pos : Pos} (tb0 : LamX.TabB X.base X.mg c P) (hcode : X.env.code = .ref c) (hm : (P, lamQ X) ∈ Lab.T) (hu : ∀ p ∈ Lab.T, p.1 = P → p.2 = lamQ X)
    (hfree : X.Ok → ∀ y ∈ scope.names, y.2 = .free → ∃ c, X.env.cells.lookup y.1 = some c) (hdef : defaultsOf params X.env = ([], [])) : PE X (.Lambda params body scope pos) (tLam X params body scope) := by
  refine ⟨fun pins s σ H Q I h => PySem.W.kla_eval hdef ?_⟩
  obtain ⟨tb, h⟩ := h
  obtain ⟨ps, hP, tri, all⟩ := tb _ hm
  have gP : s.heap.get? P = some { cls := .none, data := .fields ps } := I.hok P _ hP
  have bP : s.heap.BuiltinsAt X.mg P := tb0.bm.keeps I.bk
  have cl := closure_ok (hfree I.ok)
  cases hit : codeAmong pos ps.toList with
  | some cv =>
    obtain ⟨c', rfl, hc⟩ := all pos cv hit
    refine PySem.W.kla_makeFunctionHit (c := c) cl I.ok.glob (I.mod.glob.keeps I.bk) hcode (tb0.code.keeps I.bk) gP tri hit bP fun ctv h' tk kp hsz => ?_
    have I0 : Inv X pins σ H { s with heap := h', toks := tk } := I.kept kp
    have hf : H h'.objs.size = none := I0.hok.fresh (Nat.le_refl _)
    have nw := same_new hf (LamO h'.objs.size (lamQ X) params body scope (cloFrom X.env.cells scope.names []) c')
    have I1 := I0.laid (a := h'.objs.size) (o := LamO h'.objs.size (lamQ X) params body scope (cloFrom X.env.cells scope.names []) c') (h' := h'.push (PySem.W.kla_obj "<lambda>" (lamQ X) params body scope (cloFrom X.env.cells scope.names []) ((X.mg "__name__").getD .none) c' ctv)) (t' := tk)
      (fun b u e => Heap.get?_push_of_some _ e) (Nat.le_refl _) (lamO_ok (X := X) (Heap.get?_push_size _ rfl))
    exact ⟨.ref h'.objs.size, _, I1, rfl, h _ c' _ (.of nw) (tb.ext nw) hf upd_same (nw _ _ hc)⟩
  | none =>
    refine PySem.W.kla_makeFunction (c := c) cl I.ok.glob (I.mod.glob.keeps I.bk) hcode (tb0.code.keeps I.bk) gP tri hit tb0.gP bP fun c' ctv h' tk kp hge hlt hrec htb => ?_
    obtain ⟨c2, oc, vs, t, e2, hoc, hd, hv⟩ := hrec
    cases e2
    have nC : H c' = none := I.hok.fresh hge
    have I0 := LamX.inv_table (t' := tk) (q := lamQ X) (more := #[rawInt pos.line, rawInt pos.col, .ref c']) (h' := h') I hP (fun b o hb e => kp b o hb e) htb hge ⟨oc, vs, t, hoc, hd, hv⟩
    have nP : P ≠ c' := ne_of_none hP nC
    have s01 : Same H (upd (upd H P (.tbl (ps ++ #[rawInt pos.line, rawInt pos.col, .ref c']))) c' (LamX.CodeO c' (lamQ X))) := by
      refine ⟨fun b o e n => ?_, fun b e => ?_⟩
      · rw [upd_ne (ne_of_none e nC), upd_ne (fun z => n ps (by rw [z, hP] at e; exact (Option.some.inj e).symm))]
        exact e
      · by_cases h1 : b = c'
        · rw [h1, upd_same]; simp
        · rw [upd_ne h1]
          by_cases h2 : b = P
          · rw [h2, upd_same]; simp
          · rw [upd_ne h2]; exact e
    have eL : (ps ++ #[rawInt pos.line, rawInt pos.col, Value.ref c']).toList = ps.toList ++ [rawInt pos.line, rawInt pos.col, .ref c'] := by simp
    have nt : NT (LamX.CodeO c' (lamQ X)) := fun ps => LamX.codeO_ne ps
    have t1 : TB (upd (upd H P (.tbl (ps ++ #[rawInt pos.line, rawInt pos.col, .ref c']))) c' (LamX.CodeO c' (lamQ X))) := fun p hp => by
      by_cases hb : p.1 = P
      · rw [hu p hp hb, hb]
        refine ⟨_, (upd_ne nP).trans upd_same, by rw [eL]; exact PySem.TriplesOk_snoc _ _ _ _ tri, fun p' cv hcv => ?_⟩
        rw [eL] at hcv
        rcases LamX.among_app _ tri hcv with z | z
        · obtain ⟨c0, e1, e2⟩ := all p' cv z
          exact ⟨c0, e1, s01.h _ _ e2 LamX.codeO_ne⟩
        · exact ⟨c', z, upd_same⟩
      · obtain ⟨ps', a1, a2, a3⟩ := tb p hp
        refine ⟨ps', ?_, a2, fun p' cv hcv => ?_⟩
        · rw [upd_ne (ne_of_none a1 nC), upd_ne hb]
          exact a1
        · obtain ⟨c0, e1, e2⟩ := a3 p' cv hcv
          exact ⟨c0, e1, s01.h _ _ e2 LamX.codeO_ne⟩
    have hsz : s.heap.objs.size ≤ h'.objs.size := Nat.le_trans hge (Nat.le_of_lt hlt)
    have hf : (upd (upd H P (.tbl (ps ++ #[rawInt pos.line, rawInt pos.col, .ref c']))) c' (LamX.CodeO c' (lamQ X))) h'.objs.size = none := I0.hok.fresh (Nat.le_refl _)
    have nw := same_new hf (LamO h'.objs.size (lamQ X) params body scope (cloFrom X.env.cells scope.names []) c')
    have I1 := I0.laid (a := h'.objs.size) (o := LamO h'.objs.size (lamQ X) params body scope (cloFrom X.env.cells scope.names []) c') (h' := h'.push (PySem.W.kla_obj "<lambda>" (lamQ X) params body scope (cloFrom X.env.cells scope.names []) ((X.mg "__name__").getD .none) c' ctv)) (t' := tk)
      (fun b u e => Heap.get?_push_of_some _ e) (Nat.le_refl _) (lamO_ok (X := X) (Heap.get?_push_size _ rfl))
    exact ⟨.ref h'.objs.size, _, I1, rfl, h _ c' _ (s01.trans (.of nw)) (t1.ext nw) (I.hok.fresh hsz) upd_same (nw _ _ upd_same)⟩
end
/-! ### a lambda of one parameter, called by a built-in -/
/-- its names: the parameter, captured ones, globals -/
structure Lam1 (sc scope : Scope) (y : Str) : Prop where
  kind : scope.kind = .function
  co : scope.isCoroutine = false
  gen : scope.isGenerator = false
  loc : ∀ z ∈ scope.names, z.2 = .local → z.1 = y
  own : ∀ z ∈ scope.names, z.2 ≠ .cell
  par : scope.names.lookup y = some .local
  free : ∀ z ∈ scope.names, z.2 = .free → sc.names.lookup z.1 = some .cell ∨ sc.names.lookup z.1 = some .free
def lam1B (sc scope : Scope) (y : Str) : Bool :=
  decide (scope.kind = .function) && (!scope.isCoroutine && (!scope.isGenerator && (decide (scope.names.lookup y = some .local) && scope.names.all fun z => !decide (z.2 = .cell) && ((!decide (z.2 = .local) || decide (z.1 = y)) && (!decide (z.2 = .free) || (decide (sc.names.lookup z.1 = some .cell) || decide (sc.names.lookup z.1 = some .free)))))))
omit [Lab] in
theorem lam1_by {sc scope : Scope} {y : Str} (h : lam1B sc scope y = true) : Lam1 sc scope y := by
  unfold lam1B at h
  simp only [Bool.and_eq_true, Bool.or_eq_true, Bool.not_eq_true', decide_eq_true_eq, decide_eq_false_iff_not, List.all_eq_true] at h
  obtain ⟨h1, h2, h3, h4, h5⟩ := h
  exact ⟨h1, h2, h3, fun z hz e => (h5 z hz).2.1.elim (fun w => absurd e w) id, fun z hz => (h5 z hz).1, h4, fun z hz e => (h5 z hz).2.2.elim (fun w => absurd e w) id⟩
omit [Lab] in
theorem Lam1.has {X : Cx} {scope : Scope} {y : Str} (L : Lam1 X.env.scope scope y) (ok : X.Ok) : ∀ z ∈ scope.names, z.2 = .free → ∃ c, X.env.cells.lookup z.1 = some c := fun z hz e => ok.has _ (L.free z hz e)
/-- the context of its body -/
abbrev lam1Cx (X : Cx) (A : Around) (outer : List Env) (s : Shared) (H : Hp) (E : XK) (scope : Scope) (f c' : Addr) (y : Str) : Cx := { LamX.lamCx X A outer s H E scope f c' with N := X.N ++ [y] }
section
variable {X : Cx} {pins : List (Addr × Obj)} {σ : St} {H : Hp} {s : Shared}
omit [Lab] in
theorem lam1_start {A : Around} {E : XK} {scope : Scope} {f c' : Addr} {h₁ : Heap} {tk : Nat} {y : Str} {v : V} {u : Value} (I : Inv X pins σ H s) (L : Lam1 X.env.scope scope y) (hA : A.frames = some X.stack) (hd : A.handled = none) (hy : y ∉ X.N) (rv : RelV v u)
    (hns : h₁.Ns s.heap.objs.size fun z => [(y, u)].reverse.lookup z) (kp : ∀ b o, s.heap.get? b = some o → h₁.get? b = some o) :
    Inv (lam1Cx X A X.stack s H E scope f c' y) [] (σ ++ [some v]) H { s with heap := h₁, toks := tk } := by
  have e0 := I.env0
  have hfree := L.has I.ok
  have cm : ∀ {z : Str} {c : Addr}, (cloFrom X.env.cells scope.names []).lookup z = some c → X.env.cells.lookup z = some c := fun {z c} e => by
    rcases cloFrom_mem (PySem.mem_of_lookup e) with hm | ⟨h1, h2⟩
    · cases hm
    · obtain ⟨c1, hc⟩ := hfree _ h1 rfl
      have hc' : X.env.cells.lookup z = some c1 := hc
      rw [hc'] at h2
      rw [hc']
      exact congrArg some h2.symm
  have look : ∀ {z : Str}, scope.names.lookup z = some .free → ∃ c, (cloFrom X.env.cells scope.names []).lookup z = some c := fun {z} hl =>
    mem_lookup (cloFrom_has (cells := X.env.cells) (acc := []) (PySem.mem_of_lookup hl))
  have cellK : ∀ {c : Addr} {w : Option Value}, s.heap.IsCell c w → h₁.IsCell c w := fun {c w} ⟨o, ho, hd⟩ => ⟨o, kp _ _ ho, hd⟩
  have noA : ∀ b : Addr, b ∉ (lam1Cx X A X.stack s H E scope f c' y).ex := fun b z => nomatch (show b ∈ ([] : List Addr) from z)
  refine ⟨⟨e0.mod, L.kind, rfl, rfl, Nat.le_refl _, fun a b c e1 e2 => I.ok.inj a b c (cm e1) (cm e2), fun z hz => ?_, fun _ _ z _ => ?_, fun _ => hd, Around.frames_deeper hA, .inr ⟨rfl, rfl⟩, fun b z => absurd z (noA b), e0.bs, e0.bsz, fun b _ _ => noA b, fun b z => absurd z (noA b), e0.funs, e0.frf⟩,
    rfl, e0.bare, Un.kept kp, ⟨_, hns, fun i z w e1 e2 e3 => ?_⟩, fun z c e => ?_, e0.hok.fresh (Nat.le_refl _), fun z c e => ?_, fun q hq => ?_, e0.hok.kept kp, ?_⟩
  · rcases (show scope.names.lookup z = some .cell ∨ scope.names.lookup z = some .free from hz) with hz | hz
    · exact absurd rfl (L.own _ (PySem.mem_of_lookup hz))
    · exact look hz
  · cases (show false = true from z)
  · have hlen : σ.length = X.N.length := I.len
    have e1 : (X.N ++ [y])[i]? = some z := e1
    by_cases hi : i < X.N.length
    · rw [List.getElem?_append_left hi] at e1
      rw [List.getElem?_append_left (by omega)] at e2
      rcases (show Vis scope z from e3) with k | k | k
      · have : z = y := L.loc _ (PySem.mem_of_lookup k) rfl
        exact absurd (this ▸ List.mem_of_getElem? e1) hy
      · exact absurd rfl (L.own _ (PySem.mem_of_lookup k))
      · obtain ⟨m, hn, hl⟩ := I.loc
        have hvis : Vis X.env.scope z := (L.free _ (PySem.mem_of_lookup k) rfl).elim (fun k => .inr (.inl k)) (fun k => .inr (.inr k))
        obtain ⟨w', r, q⟩ := hl i z w e1 e2 hvis
        obtain ⟨c2, h2⟩ := look k
        refine ⟨w', r, .inr ⟨.inr k, c2, h2, ?_⟩⟩
        rcases q with ⟨k', _⟩ | ⟨_, c3, e', z'⟩
        · have k3 : X.env.scope.names.lookup z = some .local := k'
          rcases L.free _ (PySem.mem_of_lookup k) rfl with k2 | k2 <;> rw [show X.env.scope.names.lookup z = _ from k2] at k3 <;> cases k3
        · rw [cm h2] at e'
          cases e'
          exact cellK z'
    · have hi2 : i = X.N.length := by
        have := (List.getElem?_eq_some_iff.mp e1).1
        rw [List.length_append] at this
        have h1 : [y].length = 1 := rfl
        omega
      subst hi2
      rw [List.getElem?_append_right (Nat.le_refl _), Nat.sub_self] at e1
      rw [← hlen, List.getElem?_append_right (Nat.le_refl _), Nat.sub_self] at e2
      cases e1
      cases e2
      exact ⟨u, rv, .inl ⟨L.par, by simp⟩⟩
  · obtain ⟨w', z'⟩ := I.cell z c (cm e)
    exact ⟨w', cellK z'⟩
  · exact I.freeC z c (cm e)
  · exact nomatch (show q ∈ ([] : List (Addr × Obj)) ++ [] from hq)
  · show (σ ++ [some v]).length = (X.N ++ [y]).length
    rw [List.length_append, List.length_append, I.len]
    rfl
/-- f(u), f a lambda of one parameter made in this frame -/
theorem lam1_call {A : Around} {scope : Scope} {f c' : Addr} {y : Str} {v : V} {u : Value} {k : Nat} {params : Arguments} {body : Expr} {tb : TE} {Q : VK} {E0 : Value → Shared → Prop} (I : Inv X pins σ H s) (L : Lam1 X.env.scope scope y) (hA : A.frames = some X.stack) (hr : Room (k + 1) A) (hy : y ∉ X.N) (rv : RelV v u)
    (hf : H f = some (LamO f (lamQ X) params body scope (cloFrom X.env.cells scope.names []) c')) (hc : H c' = some (LamX.CodeO c' (lamQ X)))
    (hbind : ∀ (q : Str) (cl : List (Str × Addr)) (pm cv ctv : Value), bindArgs (PySem.W.kla_fn "<lambda>" q params body scope cl pm cv ctv) ⟨[u], []⟩ = pure [(y, u)])
    (hbody : Room k (A.deeper (LamX.lamEnv X scope s.heap.objs.size f c')) → PE (lam1Cx X A X.stack s H (fun _ _ _ => False) scope f c' y) body tb) (ht : tb (σ ++ [some v]) H Q) :
    wpAny (model X.prog X.w) A (call (.ref f) [u]) (fun z s' => CE X.stack X.prog X.w H s Q z s') E0 s := by
  obtain ⟨⟨pm, ctv, of1⟩, _, _⟩ := I.hok f _ hf
  obtain ⟨⟨oc, vs, t, hoc, hdc, hvc⟩, _, _⟩ := I.hok c' _ hc
  have rc : codeAny (model X.prog X.w) A (.call (.ref f) ⟨[u], []⟩) (CR (L2.CX X.prog X.w) X.stack X.prog X.w H s Q fun _ _ _ => False) s := by
    refine PySem.W.kla_callFunE hr.depth of1 rfl L.co L.gen rfl ⟨c', oc, vs, t, rfl, hoc, hdc, hvc⟩ ?_
    rw [hbind]
    refine wpAny_pure (wpAny_newFunctionEnv (fun z hz => L.own z hz) (fun z hz => ?_) (fun h₁ hns hsb => ⟨I.nolimit.fresh _ hsb, ?_⟩) L.kind)
    · rw [List.mem_singleton] at hz
      rw [hz]
      exact L.par
    show codeAny _ _ (.expr body (LamX.lamEnv X scope s.heap.objs.size f c')) _ _
    have kp : ∀ b o, s.heap.get? b = some o → h₁.get? b = some o := fun b o e => hsb.extBut b o (Nat.ne_of_lt (Heap.lt_size e)) (Heap.get?_push_of_some _ e)
    have J := lam1_start (tk := s.toks + [(y, u)].length) (E := fun _ _ _ => False) (f := f) (c' := c') I L hA hr.hd hy rv hns kp
    refine PySem.W.kla_codeExpr (wpAny_mono ((hbody (hr.deeper _)).run [] _ _ H Q J ht) (fun z s' hq => ?_) fun e s' hq => hq)
    obtain ⟨w', H', J', rv, q⟩ := hq
    exact ⟨w', H', J'.os, J'.bare, J'.base, J'.hok, rv, q⟩
  refine wpAny_call (codeAny_mono rc fun r s' hq => ?_)
  cases r with
  | error z =>
    obtain ⟨_, _, _, _, _, _, _, _, _, _, _, _, z⟩ := hq
    exact z.elim
  | ok fl =>
    cases fl with
    | ret u => exact hq
    | next => cases hq
    | brk => cases hq
    | cont => cases hq
end
end DL
end L2

set_option Elab.async false
set_option maxRecDepth 100000
set_option maxHeartbeats 4000000
set_option autoImplicit false
namespace L2
namespace DL
open PySem PySem.Spec PyProof.Rows PySem.Calls
variable [Lab]
/-! ### what a lambda's body sees of the slots -/
def frzO : Option DV → Option DV
  | some (.fr d) => some (.fr d)
  | _ => none
def frzE (env : DEnv) : DEnv := env.map frzO
omit [Lab] in
theorem frzO_some {o : Option DV} {dv : DV} (h : frzO o = some dv) : ∃ d, dv = .fr d ∧ o = some (.fr d) := by
  match o, h with
  | some (.fr d), h => cases h; exact ⟨d, rfl, rfl⟩
theorem frzE_get {env : DEnv} {d0 : PyData} {i : Nat} {dv : DV} (h : (frzE env ++ [some (.fr d0)])[i]? = some (some dv)) : (i < env.length ∧ ∃ d, dv = .fr d ∧ env[i]? = some (some (.fr d))) ∨ (i = env.length ∧ dv = .fr d0) := by
  have hl : (frzE env).length = env.length := List.length_map ..
  by_cases hi : i < env.length
  · rw [List.getElem?_append_left (by omega)] at h
    unfold frzE at h
    rw [List.getElem?_map] at h
    obtain ⟨o, h1, h2⟩ := mpd h
    obtain ⟨d, e1, e2⟩ := frzO_some h2
    exact .inl ⟨hi, d, e1, by rw [h1, e2]⟩
  · rw [List.getElem?_append_right (by omega)] at h
    have h2 : i - (frzE env).length = 0 := by
      have := (List.getElem?_eq_some_iff.mp h).1
      simp at this
      omega
    rw [h2] at h
    cases h
    exact .inr ⟨by omega, rfl⟩
theorem Rel.lam {K : PySem.W.Frag} {F : Fm} {Z H : Hp} {σ : St} {env : DEnv} {v : V} {d : PyData} (r : Rel K F Z H σ env) (hd : DD K Z v d) : Rel K F Z H (σ ++ [some v]) (frzE env ++ [some (.fr d)]) := by
  refine ⟨r.z0, r.zh, r.gh, r.nw, r.pp, ?_, fun i dv e => ?_, fun i j di dj p ei ej oi => ?_, r.tb⟩
  · rw [List.length_append, List.length_append]
    show (env.map frzO).length + 1 = _ + 1
    rw [List.length_map, r.len]
  · rcases frzE_get e with ⟨hi, d', rfl, e2⟩ | ⟨rfl, rfl⟩
    · obtain ⟨w, a, b⟩ := r.sl i _ e2
      refine ⟨w, ?_, b⟩
      rw [List.getElem?_append_left (by rw [← r.len]; exact hi)]
      exact a
    · refine ⟨v, ?_, hd⟩
      rw [r.len, List.getElem?_append_right (Nat.le_refl _), Nat.sub_self]
      rfl
  · rcases frzE_get ei with ⟨_, d', rfl, _⟩ | ⟨_, rfl⟩ <;> cases oi
theorem stp_grow {σ : St} {env env' : DEnv} {d : PyData} {Z H Z' H' : Hp} (zh : Same Z' H') (tb : TB H') (s : Stp σ (frzE env ++ [some (.fr d)]) Z H env' Z' H') : Grow Z H Z' H' := by
  have fr : ∀ q, Fre σ (frzE env ++ [some (.fr d)]) q := fun q i dv e o => by
    rcases frzE_get e with ⟨_, d', rfl, _⟩ | ⟨_, rfl⟩ <;> cases o
  refine ⟨s.z, zh, ⟨fun b o e n => s.h b o e n (fr b), s.k⟩, fun _ => tb, fun q hq => ?_⟩
  by_cases hz : Z q = none
  · exact .inr (Classical.byContradiction fun hh => s.n q hq hz hh (fr q))
  · exact .inl hz
/-- the key of an item -/
def keyOf (fb : DEnv → Option (PyData × DEnv)) (env : DEnv) (d : PyData) : Option PyData := (fb (frzE env ++ [some (.fr d)])).map (·.1)
/-! ### objects of a built-in's own -/
structure Nu (X : Cx) (pins : List (Addr × Obj)) (a : Addr) : Prop where
  l : a ≠ X.env.locals
  s0 : X.s_0.heap.objs.size ≤ a
  c : ∀ x c, X.env.cells.lookup x = some c → c ≠ a
  p : ∀ q ∈ X.pn ++ pins, q.1 ≠ a
  f : a ∉ frs X.stack
section
variable {X : Cx} {pins : List (Addr × Obj)} {σ : St} {H : Hp} {s : Shared}
omit [Lab] in
theorem Nu.new (I : Inv X pins σ H s) {a : Addr} (h : s.heap.objs.size ≤ a) : Nu X pins a := by
  refine ⟨fun z => ?_, Nat.le_trans I.sz h, fun x c e z => ?_, fun q hq z => ?_, newFr I h⟩
  · have := I.lt
    rw [← z] at this
    exact Nat.lt_irrefl _ (Nat.lt_of_lt_of_le this h)
  · obtain ⟨w, o, ho, _⟩ := I.cell x c e
    rw [z] at ho
    exact Nat.lt_irrefl _ (Nat.lt_of_lt_of_le (Heap.lt_size ho) h)
  · have ho := (I.pin q hq).1
    rw [z] at ho
    exact Nat.lt_irrefl _ (Nat.lt_of_lt_of_le (Heap.lt_size ho) h)
omit [Lab] in
theorem Inv.at_own (I : Inv X pins σ H s) {a : Addr} (n : Nu X pins a) (hn : H a = none) {h' : Heap} {t' : Nat} (k : ∀ b o, b ≠ a → s.heap.get? b = some o → h'.get? b = some o) : Inv X pins σ H { s with heap := h', toks := t' } :=
  L2.Inv.turned I k hn n.l (.inr n.s0) n.c n.p
/-- two own objects change, the first one is known from now on -/
theorem adopt (I : Inv X pins σ H s) {a b : Addr} (na : Nu X pins a) (nb : Nu X pins b) (ha : H a = none) (hb : H b = none) {h' : Heap} {t' : Nat} {xs : List V} {its : List Value} {n : Nat} (k : ∀ q o, q ≠ a → q ≠ b → s.heap.get? q = some o → h'.get? q = some o)
    (e : h'.get? a = some (seqObj "list" its.toArray n)) (rv : Vals xs its) (hl : xs.length ≤ sizeLine) : Inv X pins σ (upd H a (.lst xs)) { s with heap := h', toks := t' } := by
  have nit : ∀ q u, H q = some u → q ≠ a ∧ q ≠ b := fun q u e => ⟨ne_of_none e ha, ne_of_none e hb⟩
  refine I.step (g' := s.gens) (d' := s.drawn) (ch := [a, b]) (fun q hq => ?_) (fun q o _ _ hc e _ => k q o (fun z => hc (by simp [z])) (fun z => hc (by simp [z])) e) (fun q o _ _ hc e _ => ⟨o.slots, k q o (fun z => hc (by simp [z])) (fun z => hc (by simp [z])) e⟩)
    (fun q o hc e z => by rw [upd_ne (fun z => hc (by simp [z]))]; exact z) (fun q o hc e => ⟨o, k q o (fun z => hc (by simp [z])) (fun z => hc (by simp [z])) e⟩) (fun q xs e => by rw [upd_ne (nit q _ e).1]; exact e) (fun q o u e => by rw [upd_ne (nit q _ e).1]; exact e)
    (fun q ps e => ⟨#[], by rw [upd_ne (nit q _ e).1, e]; simp⟩) (fun m hm => ?_) (fun q u e1 => ?_) I.bare
  · rcases (show q = a ∨ q = b by simpa using hq) with rfl | rfl
    · exact ⟨.inr na.s0, na.l, na.c, na.p⟩
    · exact ⟨.inr nb.s0, nb.l, nb.c, nb.p⟩
  · obtain ⟨o, es, ep, ho, r⟩ := hm
    exact ⟨o, es, ep, k _ o (Ne.symm na.l) (Ne.symm nb.l) ho, r⟩
  · by_cases hq : q = a
    · subst hq
      rw [upd_same] at e1
      cases e1
      exact ⟨hl, its, n, rv, e⟩
    · rw [upd_ne hq] at e1
      refine (I.hok q u e1).stay (fun c v hc z => k c v ?_ ?_ z) (fun d z => by rw [upd_ne (nit d _ z).1]; exact z) fun d xs z => by rw [upd_ne (nit d _ z).1]; exact z
      · rcases hc with z | z
        · rw [z]; exact hq
        · exact (nit c _ z).1
      · rcases hc with z | z
        · rw [z]; exact (nit q u e1).2
        · exact (nit c _ z).2
end
end DL
end L2

set_option Elab.async false
set_option maxRecDepth 100000
set_option maxHeartbeats 4000000
set_option autoImplicit false
namespace L2
namespace DL
open PySem PySem.Spec PyProof.Rows PySem.Calls
variable [Lab]
theorem vals_each {K : PySem.W.Frag} {Z : Hp} {X : Cx} {pins : List (Addr × Obj)} {σ : St} {H : Hp} {s : Shared} (I : Inv X pins σ H s) (zh : Same Z H) : ∀ {vs : List V} {us : List Value} {ds : List PyData}, Vals vs us → DDs X.K Z vs ds → (∀ d ∈ ds, d.hasDict = false) →
    PySem.W.EachIs (fun v d => ∃ as, Reads s.heap v d as) us ds
  | _, _, [], h, g, _ => by cases g; cases h; exact .nil
  | _, _, d :: ds, h, g, n => by
    cases g with
    | cons g1 g2 =>
      cases h with
      | cons h1 h2 => exact .cons (Dp.reads I d _ _ ((DDm g1 zh).dp d _ (n d List.mem_cons_self)) h1) (vals_each (K := K) I zh h2 g2 fun x hx => n x (List.mem_cons_of_mem _ hx))
section
variable {X : Cx} {pins : List (Addr × Obj)} {σ : St} {H : Hp} {s : Shared} {F : Fm}
/-- what a key function is asked for -/
structure KeyFn (X : Cx) (F : Fm) (A : Around) (k : Nat) (y : Str) (scope : Scope) (params : Arguments) (body : Expr) (fb : DEnv → Option (PyData × DEnv)) (f c' : Addr) : Prop where
  L : Lam1 X.env.scope scope y
  fr : A.frames = some X.stack
  rm : Room (k + 1) A
  ny : y ∉ X.N
  bind : ∀ (u : Value) (q : Str) (cl : List (Str × Addr)) (pm cv ctv : Value), bindArgs (PySem.W.kla_fn "<lambda>" q params body scope cl pm cv ctv) ⟨[u], []⟩ = pure [(y, u)]
  body : ∀ (s : Shared) (H : Hp), Room k (A.deeper (LamX.lamEnv X scope s.heap.objs.size f c')) → PD (lam1Cx X A X.stack s H (fun _ _ _ => False) scope f c' y) F body fb
theorem key_turn {A : Around} {k : Nat} {y : Str} {scope : Scope} {params : Arguments} {body : Expr} {fb : DEnv → Option (PyData × DEnv)} {f c' : Addr} {Z : Hp} {env : DEnv} {v : V} {u : Value} {d q : PyData} {E : Value → Shared → Prop} (kf : KeyFn X F A k y scope params body fb f c') (I : Inv X pins σ H s) (r : Rel X.K F Z H σ env)
    (hf : H f = some (LamO f (lamQ X) params body scope (cloFrom X.env.cells scope.names []) c')) (hc : H c' = some (LamX.CodeO c' (lamQ X))) (rv : RelV v u) (dd : DD X.K Z v d) (hk : keyOf fb env d = some q) :
    wpAny (model X.prog X.w) A (call (.ref f) [u]) (fun z s' => ∃ w Z' H', Inv X pins σ H' s' ∧ Grow Z H Z' H' ∧ RelV w z ∧ DD X.K Z' w q ∧ Un (frs X.stack) [] H H' s.heap s'.heap) E s := by
  obtain ⟨⟨q', e'⟩, h1, rfl⟩ := mpd hk
  refine wpAny_mono (lam1_call (k := k) (tb := tD X.K F fb) (Q := fun w H' => ∃ Z', Grow Z H Z' H' ∧ DD X.K Z' w q') (E0 := E) I kf.L kf.fr kf.rm kf.ny rv hf hc (fun _ _ _ _ _ => kf.bind u _ _ _ _ _) (kf.body s H) ?_) (fun z s' hce => ?_) fun _ _ e => e
  · exact ⟨Z, frzE env ++ [some (.fr d)], q', e', r.lam dd, h1, fun w Z' H' r' s' d' => ⟨Z', stp_grow r'.zh r'.tb s', d'⟩⟩
  · obtain ⟨w, H', os, bare, un, hok, rz, Z', gr, dz⟩ := hce
    obtain ⟨w2, H2, I2, _, rfl, rfl⟩ := I.after (Q := fun w' H'' => w' = w ∧ H'' = H') ⟨w, H', os, bare, un, hok, rz, rfl, rfl⟩
    exact ⟨w2, Z', H2, I2, gr, rz, dz, un⟩
/-- how the items come to lie -/
def sortD (ds ks : List PyData) : List PyData := ((ds.zip ks).mergeSort (PySem.W.dataLe false (·.2))).map (·.1)
structure KeysOk (A : Around) (fb : DEnv → Option (PyData × DEnv)) (env : DEnv) (ds ks : List PyData) : Prop where
  key : ∀ (i : Nat) (d q : PyData), ds[i]? = some d → ks[i]? = some q → keyOf fb env d = some q
  len : ks.length = ds.length
  alike : PySem.W.AllAlike ks
  sortable : PySem.W.Sortable ks
  nd : ∀ d ∈ ks, d.hasDict = false
  dp : ∀ d, d ∈ ks → A.units + d.depth < cLine
theorem zip3 {α β γ : Type} : ∀ (xs : List α) (ds : List β) (ks : List γ), (xs.zip (ds.zip ks)).map (·.2) = (ds.zip ks).take xs.length
  | [], _, _ => rfl
  | x :: xs, [], _ => rfl
  | x :: xs, _ :: _, [] => rfl
  | x :: xs, d :: ds, k :: ks => by
    show (d, k) :: (xs.zip (ds.zip ks)).map (·.2) = (d, k) :: (ds.zip ks).take xs.length
    rw [zip3 xs ds ks]
theorem sort_run {A : Around} {a f c' : Addr} {n0 k : Nat} {y : Str} {scope : Scope} {params : Arguments} {body : Expr} {fb : DEnv → Option (PyData × DEnv)} {vs : List Value} {xs : List V} {ds ks : List PyData} {Z : Hp} {env : DEnv} {P : PySem.Fin → Shared → Prop} {E : Value → Shared → Prop}
    (kf : KeyFn X F A k y scope params body fb f c') (I : Inv X pins σ H s) (r : Rel X.K F Z H σ env) (hf : H f = some (LamO f (lamQ X) params body scope (cloFrom X.env.cells scope.names []) c')) (hc : H c' = some (LamX.CodeO c' (lamQ X)))
    (ha : s.heap.get? a = some (seqObj "list" vs.toArray n0)) (na : Nu X pins a) (hna : H a = none) (rv : Vals xs vs) (dd : DDs X.K Z xs ds) (ko : KeysOk A fb env ds ks) (hZ : vs.length ≤ sizeLine)
    (h : ∀ Z' H' s' xs', Inv X pins σ (upd H' a (.lst xs')) s' → Grow Z H Z' H' → H' a = none → DDs X.K Z' xs' (sortD ds ks) → P (.done (.ret .none)) s') :
    wpAny (model X.prog X.w) A (PyProof.Rows.ksk_tree a (.ref f) false) P E s := by
  have hlv := rv.length
  have hld := dds_len dd
  have hlk := ko.len
  have hlt : a < s.heap.objs.size := Heap.lt_size ha
  obtain ⟨e1, ho1⟩ : ∃ e1, (s.heap.update a (Obj.mapSeq fun _ => (#[] : Array Value))).get? a = some (seqObj "list" #[] e1) := ⟨_, get?_update_seq ha fun _ => #[]⟩
  have kS1 : ((s.heap.update a (Obj.mapSeq fun _ => (#[] : Array Value))).push (seqObj "tuple" vs.toArray 0)).objs.size = s.heap.objs.size + 1 := by rw [size_push', Heap.size_update]
  unfold PyProof.Rows.ksk_tree
  refine wpAny_bind (listItems_at ha rfl (wpAny_bind (listUpdate_at ha rfl ?_ (by rw [List.size_toArray]; exact hZ) (Nat.zero_le _))))
  refine wpAny_bind (seqEpoch_at ho1 rfl (wpAny_bind (wpAny_newTuple (wpAny_bind (wpAny_newList (wpAny_holding ?_) (Nat.zero_le _))) (show vs.length ≤ _ from hZ))))
  generalize hkS : ((s.heap.update a (Obj.mapSeq fun _ => (#[] : Array Value))).push (seqObj "tuple" vs.toArray 0)).objs.size = kS at *
  have nS : Nu X pins kS := Nu.new I (by rw [kS1]; exact Nat.le_succ _)
  have hnS : H kS = none := I.hok.fresh (by rw [kS1]; exact Nat.le_succ _)
  have hSa : kS ≠ a := by
    intro z
    rw [kS1] at z
    have hlt2 : a < s.heap.objs.size := hlt
    rw [← z] at hlt2
    exact Nat.lt_irrefl _ (Nat.lt_trans hlt2 (Nat.lt_succ_self _))
  have I0 : Inv X pins σ H { s with heap := PySem.W.sortingHeap s.heap a vs } := Inv.at_own (t' := s.toks) I na hna fun b o hb e => PySem.W.sortingHeap_old hb e
  have gS : (PySem.W.sortingHeap s.heap a vs).get? kS = some (seqObj "list" #[] 0) := by
    rw [← hkS]
    exact Heap.get?_push_size _ rfl
  have ga : (PySem.W.sortingHeap s.heap a vs).get? a = some (seqObj "list" #[] e1) := Heap.get?_push_of_some _ (Heap.get?_push_of_some _ ho1)
  show wpAny _ A (PyProof.Rows.ksk_rest a (.ref f) false vs.toArray e1 (.ref kS)) _ _ { s with heap := PySem.W.sortingHeap s.heap a vs }
  unfold PyProof.Rows.ksk_rest
  refine wpAny_bind (wpAny_rule ?_)
  first
    | rw [List.forIn_toArray]
    | (rw [← Array.forIn_toList]; simp only [List.toList_toArray])
  refine wpAny_bind (PyProof.Rows.ksk_fold (fun i s' => ∃ Zc Hc kA e kv, Inv X pins σ Hc s' ∧ Rel X.K F Zc Hc σ env ∧ Grow Z H Zc Hc ∧ s'.heap.get? kS = some (seqObj "list" kA e) ∧ s'.heap.get? a = some (seqObj "list" #[] e1) ∧ Hc kS = none ∧ Hc a = none ∧ Vals kv kA.toList ∧ DDs X.K Zc kv (ks.take i)) vs 0 _
    ⟨Z, H, #[], 0, [], I0, r, Grow.refl r.zh, gS, ga, hnS, hna, .nil, by rw [List.take_zero]; exact .nil⟩ ?step ?done)
  case step =>
    rintro j u s' hx ⟨Zc, Hc, kA, e, kv, Ic, rc, gr, gS', ga', nS', na', rk, dk⟩
    simp only [Nat.zero_add] at dk ⊢
    have hj : j < vs.length := (List.getElem?_eq_some_iff.mp hx).1
    obtain ⟨v, hv, ru⟩ : ∃ v, xs[j]? = some v ∧ RelV v u := by
      obtain ⟨u', hu', ru'⟩ := rv.get (List.getElem?_eq_getElem (show j < xs.length by omega))
      rw [hx] at hu'
      cases hu'
      exact ⟨_, List.getElem?_eq_getElem (show j < xs.length by omega), ru'⟩
    obtain ⟨d, hdj, ddj⟩ := dds_get' dd hv
    obtain ⟨q, hq⟩ : ∃ q, ks[j]? = some q := ⟨_, List.getElem?_eq_getElem (by omega)⟩
    have hz : kA.size ≤ vs.length := by
      have l1 : kv.length = kA.size := rk.length.trans (Array.length_toList ..)
      have l2 := dds_len dk
      rw [List.length_take] at l2
      omega
    refine wpAny_bind (wpAny_attempt (wpAny_mono (key_turn (E := fun _ _ => False) kf Ic rc (gr.h.h _ _ hf nt_ext) (gr.h.h _ _ hc LamX.codeO_ne) ru (DDm ddj gr.z) (ko.key j d q hdj hq)) (fun z s2 hz2 => ?_) fun _ _ w => w.elim))
    obtain ⟨w, Z2, H2, I2, gr2, rw2, dw, un⟩ := hz2
    have gS2 : s2.heap.get? kS = some (seqObj "list" kA e) := un.keep kS _ gS' nS' nS.f (by simp)
    have ga2 : s2.heap.get? a = some (seqObj "list" #[] e1) := un.keep a _ ga' na' na.f (by simp)
    have nS2 : H2 kS = none := un.free kS _ gS' nS' (by simp)
    have na2 : H2 a = none := un.free a _ ga' na' (by simp)
    have sb := Heap.SameBut.update s2.heap kS (Obj.mapSeq (·.push z))
    obtain ⟨c2, hc2⟩ : ∃ c2, (s2.heap.update kS (Obj.mapSeq (·.push z))).get? kS = some (seqObj "list" (kA.push z) c2) := ⟨_, get?_update_seq gS2 (·.push z)⟩
    refine wpAny_bind (listUpdate_at gS2 rfl ?_ (Nat.le_trans hz hZ) (Nat.le_trans (Nat.le_of_eq (Array.size_push ..)) (Nat.succ_le_succ (Nat.le_trans hz hZ))))
    refine wpAny_pure ⟨rfl, Z2, H2, kA.push z, c2, kv ++ [w], Inv.at_own (t' := s2.toks) I2 nS nS2 fun b o hb eb => (sb.2 b hb).trans eb, rc.grow gr2, gr.trans gr2, hc2, (sb.2 a (Ne.symm hSa)).trans ga2, nS2, na2, ?_, ?_⟩
    · rw [Array.toList_push]
      exact rk.append (.cons rw2 .nil)
    · rw [List.take_add_one, hq]
      exact dds_app (DDsm dk gr2.z) (.cons dw .nil)
  case done =>
    rintro s' ⟨Zc, Hc, kA, e, kv, Ic, rc, gr, gS', ga', nS', na', rk, dk⟩
    rw [Nat.zero_add, List.take_of_length_le (by omega)] at dk
    have each := vals_each (K := X.K) Ic rc.zh rk dk ko.nd
    have hsz : kA.size = vs.length := by
      have l1 : kv.length = kA.size := rk.length.trans (Array.length_toList ..)
      have l2 := dds_len dk
      omega
    refine wpAny_bind (listItems_at gS' rfl ?_)
    refine PySem.W.keyH_end (κ := PySem.W.dataKind s'.heap ks) (h₁ := PySem.W.hideAll s'.heap [kS]) (fun b o _ eb => PySem.W.of_hideAll _ eb) (PySem.W.hideAll_none _ (by simp)) gS' ga' hSa (PySem.W.SortsAt.data each ko.alike ko.sortable ko.dp) hsz hZ fun h' tk c kp hD => ?_
    have bsl : (xs.zip (ds.zip ks)).map (·.2.2) = ks := by
      have e1 : (xs.zip (ds.zip ks)).map (·.2.2) = ((xs.zip (ds.zip ks)).map (·.2)).map (·.2) := by rw [List.map_map]; rfl
      rw [e1, zip3, List.take_of_length_le (by rw [List.length_zip]; omega), List.map_snd_zip (by omega)]
    have ec : PySem.W.EachIs (fun v (b : V × PyData × PyData) => RelV b.1 v ∧ DD X.K Z b.1 b.2.1) vs (xs.zip (ds.zip ks)) := by
      refine PySem.W.EachIs.of_zip (by rw [List.length_zip, List.length_zip]; omega) fun p hp => ?_
      obtain ⟨i, hi, hpe⟩ := List.getElem_of_mem hp
      have g := List.getElem?_eq_getElem hi
      rw [hpe, List.getElem?_zip_eq_some] at g
      obtain ⟨g1, g2⟩ := g
      rw [List.getElem?_zip_eq_some] at g2
      obtain ⟨g2, g3⟩ := g2
      rw [List.getElem?_zip_eq_some] at g3
      obtain ⟨u', hu', ru'⟩ := rv.get g2
      rw [g1] at hu'
      cases hu'
      obtain ⟨d, hd1, hd2⟩ := dds_get' dd g2
      rw [g3.1] at hd1
      cases hd1
      exact ⟨ru', hd2⟩
    have out := PySem.W.keyedOut_each (rev := false) (fun b : V × PyData × PyData => b.2.2) (by rw [bsl]; exact ⟨s'.heap, kA.toList, ko.alike, rfl, each⟩) ec
    have ev : ∀ {us : List Value} {bs : List (V × PyData × PyData)}, PySem.W.EachIs (fun v (b : V × PyData × PyData) => RelV b.1 v ∧ DD X.K Z b.1 b.2.1) us bs → Vals (bs.map (·.1)) us ∧ DDs X.K Z (bs.map (·.1)) (bs.map (·.2.1)) := fun {us bs} e => by
      induction e with
      | nil => exact ⟨.nil, .nil⟩
      | cons a b ih => exact ⟨.cons a.1 ih.1, .cons a.2 ih.2⟩
    obtain ⟨o1, o2⟩ := ev out
    have e3 : ((xs.zip (ds.zip ks)).mergeSort (PySem.W.dataLe false fun b : V × PyData × PyData => b.2.2)).map (·.2.1) = sortD ds ks := by
      have e4 := PySem.W.sort_maps (r := PySem.W.dataLe false fun b : V × PyData × PyData => b.2.2) (s := PySem.W.dataLe false fun b : PyData × PyData => b.2) (fun b : V × PyData × PyData => b.2) (l := xs.zip (ds.zip ks)) fun _ _ _ _ => rfl
      rw [zip3, List.take_of_length_le (by rw [List.length_zip]; omega)] at e4
      unfold sortD
      rw [← e4, List.map_map]
      rfl
    rw [e3] at o2
    have lo := o1.length
    refine h Zc Hc _ _ (adopt (t' := tk) Ic na nS na' nS' (fun q o h1 h2 eq => kp q o h1 (PySem.W.hideAll_get _ eq (by simpa using h2))) hD o1 ?_) gr na' (DDsm o2 gr.z)
    · rw [List.length_map, List.length_mergeSort, List.length_zip, List.length_zip]
      omega

end
end DL
end L2

set_option Elab.async false
set_option maxRecDepth 100000
set_option maxHeartbeats 4000000
set_option autoImplicit false
namespace L2
namespace DL
open PySem PySem.Spec PyProof.Rows PySem.Calls
variable [Lab]
/-! ### sorted(range(e), key=lambda y: body) -/
def intsT : PyData → Bool
  | .tuple (x :: xs) => (x :: xs).all fun d => match d with
    | .int _ => true
    | _ => false
  | _ => false
theorem ints_all : ∀ ds : List PyData, (ds.all fun d => match d with | .int _ => true | _ => false) = true → ∃ ns : List Int, ds = ns.map .int
  | [], _ => ⟨[], rfl⟩
  | d :: ds, h => by
    rw [List.all_cons, Bool.and_eq_true] at h
    obtain ⟨ns, rfl⟩ := ints_all ds h.2
    cases d with
    | int n => exact ⟨n :: ns, rfl⟩
    | _ => cases h.1
theorem intsT_of {d : PyData} (h : intsT d = true) : ∃ (n : Int) (ns : List Int), d = .tuple ((n :: ns).map .int) := by
  match d, h with
  | .tuple (x :: xs), h =>
    obtain ⟨ns, e⟩ := ints_all (x :: xs) h
    cases ns with
    | nil => cases e
    | cons n ns => exact ⟨n, ns, by rw [e]⟩
def keysD (fb : DEnv → Option (PyData × DEnv)) (env : DEnv) : List PyData → Option (List PyData)
  | [] => some []
  | d :: ds => (keyOf fb env d).bind fun q => (keysD fb env ds).map (q :: ·)
theorem keysD_get {fb : DEnv → Option (PyData × DEnv)} {env : DEnv} : ∀ {ds ks : List PyData}, keysD fb env ds = some ks → ks.length = ds.length ∧ ∀ (i : Nat) (d q : PyData), ds[i]? = some d → ks[i]? = some q → keyOf fb env d = some q
  | [], ks, h => by cases h; exact ⟨rfl, fun i d q e => by simp at e⟩
  | d :: ds, ks, h => by
    obtain ⟨q, h1, h⟩ := bnd h
    obtain ⟨r, h2, rfl⟩ := mpd h
    obtain ⟨l, g⟩ := keysD_get h2
    refine ⟨by rw [List.length_cons, List.length_cons, l], fun i d' q' e1 e2 => ?_⟩
    cases i with
    | zero => cases e1; cases e2; exact h1
    | succ i => exact g i d' q' (by simpa using e1) (by simpa using e2)
theorem keys_ok {A : Around} {fb : DEnv → Option (PyData × DEnv)} {env : DEnv} {ds ks : List PyData} (h : keysD fb env ds = some ks) (hb : ks.all intsT = true) (hu : A.units + 1 < cLine) : KeysOk A fb env ds ks := by
  obtain ⟨l, g⟩ := keysD_get h
  have hb' : ∀ d ∈ ks, ∃ (n : Int) (ns : List Int), d = .tuple ((n :: ns).map .int) := fun d hd => intsT_of (List.all_eq_true.mp hb d hd)
  refine ⟨g, l, fun d hd d' hd' => ?_, .inl fun d hd => ?_, fun d hd => ?_, fun d hd => ?_⟩
  · obtain ⟨n, ns, rfl⟩ := hb' d hd
    obtain ⟨n', ns', rfl⟩ := hb' d' hd'
    exact PySem.W.alike_ints _ _
  · obtain ⟨n, ns, rfl⟩ := hb' d hd
    exact ⟨_, _, rfl⟩
  · obtain ⟨n, ns, rfl⟩ := hb' d hd
    exact (Ly.tuple (ly_ints (n :: ns))).nd
  · obtain ⟨n, ns, rfl⟩ := hb' d hd
    have : (PyData.tuple ((n :: ns).map .int)).depth ≤ 1 := (Ly.tuple (ly_ints (n :: ns))).dp
    omega
def nSortR (fi fb : DEnv → Option (PyData × DEnv)) (env : DEnv) : Option (List PyData × DEnv) := (fi env).bind fun x => match x.1 with
  | .int j => if j ≤ 100000 ∧ -100000 ≤ j then (keysD fb x.2 (rangeD 0 j.toNat)).bind fun ks => if ks.all intsT then some (sortD (rangeD 0 j.toNat) ks, x.2) else none else none
  | _ => none
section
variable {X : Cx} {pins : List (Addr × Obj)} {σ : St} {H : Hp} {s : Shared} {F : Fm}
omit [Lab] in
theorem cr_range1 : CallR X (.type "range") (fun vs H Q => ∃ j, vs = [V.int j] ∧ ∀ p, H p = none → Q (.ref p) (upd H p (.rng 0 j))) := by
  intro pins s σ H vs us Q I r h
  obtain ⟨j, rfl, q⟩ := h
  cases r with
  | cons r1 r2 =>
    cases r2
    obtain ⟨t, rfl⟩ := r1
    refine call_range_1 ⟨.ref s.heap.objs.size, upd H s.heap.objs.size (.rng 0 j), I.laid (fun b o e => Heap.get?_push_of_some _ e) (Nat.le_refl _) ?_, rfl, q _ (I.hok.fresh (Nat.le_refl _))⟩
    refine ⟨s.toks, t, s.toks + 1, ?_⟩
    exact Heap.get?_push_size _ rfl
theorem vals_items {acc : List Value} {n : Nat} (h : ItemsOf (fun i v => ∃ t, v = Value.int (0 + i * 1) t) acc.toArray n) {K : PySem.W.Frag} {Z : Hp} : ∃ xs : List V, Vals xs acc ∧ DDs K Z xs (rangeD 0 n) := by
  obtain ⟨h1, h2⟩ := h
  refine ⟨(List.range n).map fun i => V.int (0 + (i : Nat)), ?_, ?_⟩
  · rw [List.size_toArray] at h1
    have : ∀ (l : List Value) (k : Nat), (∀ j v, l[j]? = some v → ∃ t, v = Value.int (0 + ((k + j : Nat) : Int) * 1) t) → Vals ((List.range' k l.length).map fun i => V.int (0 + (i : Nat))) l := by
      intro l
      induction l with
      | nil => intro k _; exact .nil
      | cons v l ih =>
        intro k hk
        rw [List.length_cons, List.range'_succ, List.map_cons]
        refine .cons ?_ (ih (k + 1) fun j w hw => ?_)
        · obtain ⟨t, e⟩ := hk 0 v rfl
          exact ⟨t, by rw [e]; congr 1; omega⟩
        · obtain ⟨t, e⟩ := hk (j + 1) w (by simpa using hw)
          exact ⟨t, by rw [e]; congr 1; omega⟩
    have g := this acc 0 fun j v hv => by
      obtain ⟨t, e⟩ := h2 j v (by simpa using hv)
      exact ⟨t, by rw [e]; congr 1; omega⟩
    rw [h1] at g
    rw [List.range_eq_range']
    exact g
  · unfold rangeD
    generalize List.range n = l
    induction l with
    | nil => exact .nil
    | cons i l ih => exact .cons (.int _) ih
theorem sorted_rng {rr f c' : Addr} {k : Nat} {y : Str} {scope : Scope} {params : Arguments} {body : Expr} {fb : DEnv → Option (PyData × DEnv)} {j : Int} {ks : List PyData} {Z : Hp} {env : DEnv} {Q : VK} {E : Value → Shared → Prop}
    (kf : KeyFn X F X.A.in1.in1 k y scope params body fb f c') (hh : X.A.handled = none) (I : Inv X pins σ H s) (r : Rel X.K F Z H σ env) (hr : H rr = some (.rng 0 j)) (hf : H f = some (LamO f (lamQ X) params body scope (cloFrom X.env.cells scope.names []) c')) (hc : H c' = some (LamX.CodeO c' (lamQ X)))
    (hj : j ≤ 100000 ∧ -100000 ≤ j) (ko : KeysOk X.A.in1.in1 fb env (rangeD 0 j.toNat) ks)
    (h : ∀ p xs Z' H', Grow Z H Z' H' → H p = none → H' p = none → DDs X.K Z' xs (sortD (rangeD 0 j.toNat) ks) → Q (.ref p) (upd H' p (.lst xs))) :
    wpAny (model X.prog X.w) X.A (call (.builtin "sorted") [.ref rr] [(Str.ofString "key", .ref f)]) (EP X pins σ Q) E s := by
  obtain ⟨t1, t2, t3, gr⟩ := I.hok rr _ hr
  refine call_function_entry_kw kind_sorted plain_sorted entry_sorted (ksk_s1 _ _) ?_
  unfold Builtin.«sorted»
  refine wpAny_bind (m := checkCount "sorted" 1 1 _) (wpAny_pure ?_)
  refine wpAny_bind (collect_range (n := j.toNat) (show X.A.in1.handled = none from hh) gr (small_one (by omega) (by omega) (by omega) (by omega)) (by rw [rangeSize_nat, Int.sub_zero]) (by omega) fun h1 tk acc kp it => ?_)
  have hsz : acc.size = j.toNat := it.1
  have hZ : acc.toList.length ≤ sizeLine := by rw [Array.length_toList, sizeLine_eq]; omega
  refine wpAny_bind (wpAny_newList ?_ hZ)
  have I1 : Inv X pins σ H { s with heap := h1, toks := tk } := I.kept kp
  have na : Nu X pins h1.objs.size := Nu.new I1 (Nat.le_refl _)
  have hna : H h1.objs.size = none := I1.hok.fresh (Nat.le_refl _)
  have I2 : Inv X pins σ H { s with heap := h1.push (seqObj "list" acc.toList.toArray 0), toks := tk } := I1.kept fun b o e => Heap.get?_push_of_some _ e
  have ga : (h1.push (seqObj "list" acc.toList.toArray 0)).get? h1.objs.size = some (seqObj "list" acc.toList.toArray 0) := Heap.get?_push_size _ rfl
  obtain ⟨xs, rv, dd⟩ := vals_items (acc := acc.toList) (n := j.toNat) (by rw [Array.toArray_toList]; exact it) (K := X.K) (Z := Z)
  refine wpAny_bind (wpAny_holding (wpAny_call_entry_kw slot_list_sort ⟨_, ga, rfl⟩ entry_list_sort ?_ (ksk_l1 _ _)))
  show wpAny (model X.prog X.w) X.A.in1.in1 (Builtin.«list.sort» ⟨[.ref h1.objs.size], [(Str.ofString "key", .ref f)]⟩) _ _ _
  rw [ksk_t1]
  refine sort_run kf I2 r hf hc ga na hna rv dd ko hZ fun Z' H' s' xs' I' g' n' d' => ⟨_, rfl, wpAny_pure ⟨_, rfl, ?_⟩⟩
  exact ⟨.ref h1.objs.size, _, I', rfl, h _ _ _ _ g' hna n' d'⟩
omit [Lab] in
/-- a built-in with keywords, its reading told of the slots -/
theorem pe_callKs {x : Str} {p pos : Pos} {e : Expr} {es : List Expr} {kws : List Keyword} {t tk : TA} {id : String} {ks : List Str} {r : St → List V → List V → Hp → VK → Prop}
    (hc : ∀ (pins : List (Addr × Obj)) (s : Shared) (σ : St) (H : Hp) (xs zs : List V) (us ws : List Value) (Q : VK), Inv X pins σ H s → Vals xs us → Vals zs ws → r σ xs zs H Q → wpAny (model X.prog X.w) X.A (call (.builtin id) us (ks.zip ws)) (EP X pins σ Q) X.xe s)
    (hg : Gl X x) (hm : X.mg x = none) (hv : bootBuiltins x = some (.builtin id)) (ha : PA X (e :: es) t) (hk : PK X kws tk) (hn : x ≠ "__name__") (hdb : (x == ("__debug__" : Str)) = false)
    (he : backTo pos (starEach (e :: es) X.env) = (false, eval e X.env) :: backTo pos (starEach es X.env)) (hpl : (backTo pos (starEach (e :: es) X.env)).any (·.1) = false) (hall : (backToKw pos (keywordEach kws X.env)).all (·.1.isSome) = true)
    (hnone : (backToKw pos (keywordEach kws X.env)).any (·.1.isNone) = false) (hks : (backToKw pos (keywordEach kws X.env)).filterMap (·.1) = ks) : PE X (.Call (.Name x p) (e :: es) kws pos) (fun σ H Q => t σ H fun vs H1 => tk σ H1 fun zs H2 => r σ vs zs H2 Q) := by
  refine ⟨fun pins s σ H Q I h => wpAny_Call_Name_kw (ld_blt I hg hm hv (PyProof.Rows.callWith_kw (thn (ha.run pos pins s σ H _ I h) fun us s1 ⟨vs, H1, I1, r1, q1⟩ => thn (hk.run pos pins s1 σ H1 _ I1 q1) fun ws s2 ⟨zs, H2, I2, r2, q2⟩ => ?_) he hpl hall hnone) hn hdb)⟩
  rw [hks]
  exact hc pins s2 σ H2 vs zs us ws Q I2 r1 r2 q2
theorem pn_sortR {c P : Addr} {k : Nat} {y : Str} {params : Arguments} {a body : Expr} {scope : Scope} {lpos kpos p pos q0 q1 : Pos} {fi fb : DEnv → Option (PyData × DEnv)} (hms : X.mg "sorted" = none) (hmr : X.mg "range" = none)
    (tb0 : LamX.TabB X.base X.mg c P) (hcode : X.env.code = .ref c) (hm : (P, lamQ X) ∈ Lab.T) (hu : ∀ p ∈ Lab.T, p.1 = P → p.2 = lamQ X) (L : Lam1 X.env.scope scope y) (hr : Room (k + 3) X.A) (nyB : (X.N.all fun z => !(z == y)) = true)
    (bind : ∀ (u : Value) (q : Str) (cl : List (Str × Addr)) (pm cv ctv : Value), bindArgs (PySem.W.kla_fn "<lambda>" q params body scope cl pm cv ctv) ⟨[u], []⟩ = pure [(y, u)]) (ha : PD X F a fi)
    (hbody : ∀ (s : Shared) (H : Hp) (f c' : Addr), Room k (X.A.in1.in1.deeper (LamX.lamEnv X scope s.heap.objs.size f c')) → PD (lam1Cx X X.A.in1.in1 X.stack s H (fun _ _ _ => False) scope f c' y) F body fb)
    (hdef : defaultsOf params X.env = ([], []) := by rfl) (hgs : Gl X "sorted" := by rfl) (hgr : Gl X "range" := by rfl) (na : starEach [a] X.env = (false, eval a X.env) :: starEach [] X.env := by rfl) (npl : (backTo q1 (starEach [] X.env)).any (·.1) = false := by rfl)
    (na2 : starEach [.Call (.Name "range" q0) [a] [] q1] X.env = (false, eval (.Call (.Name "range" q0) [a] [] q1) X.env) :: starEach [] X.env := by rfl)
    (he : backTo pos (starEach [.Call (.Name "range" q0) [a] [] q1] X.env) = (false, eval (.Call (.Name "range" q0) [a] [] q1) X.env) :: backTo pos (starEach [] X.env) := by rfl) (hpl : (backTo pos (starEach [.Call (.Name "range" q0) [a] [] q1] X.env)).any (·.1) = false := by rfl) :
    PN X F (.Call (.Name "sorted" p) [.Call (.Name "range" q0) [a] [] q1] [⟨some "key", .Lambda params body scope lpos, kpos⟩] pos) (nSortR fi fb) := by
  have ny : y ∉ X.N := fun z => by
    have := List.all_eq_true.mp nyB y z
    simp at this
  have h0 := pe_callKs (X := X) (x := "sorted") (id := "sorted") (p := p) (pos := pos) (ks := [Str.ofString "key"]) (kws := [⟨some "key", .Lambda params body scope lpos, kpos⟩])
    (r := fun σ xs zs H Q => ∃ rr f c' j Z env ks, xs = [V.ref rr] ∧ zs = [V.ref f] ∧ Rel X.K F Z H σ env ∧ H rr = some (.rng 0 j) ∧ H f = some (LamO f (lamQ X) params body scope (cloFrom X.env.cells scope.names []) c') ∧ H c' = some (LamX.CodeO c' (lamQ X)) ∧ (j ≤ 100000 ∧ -100000 ≤ j) ∧
      keysD fb env (rangeD 0 j.toNat) = some ks ∧ ks.all intsT = true ∧ ∀ p xs Z' H', Grow Z H Z' H' → H p = none → H' p = none → DDs X.K Z' xs (sortD (rangeD 0 j.toNat) ks) → Q (.ref p) (upd H' p (.lst xs)))
    (fun pins s σ H xs zs us ws Q I rx rz ⟨rr, f, c', j, Z, env, ks, e1, e2, r, h1, h2, h3, h4, h5, h6, q⟩ => by
      subst e1 e2
      cases rx with
      | cons a1 a2 =>
        cases a2
        cases rz with
        | cons b1 b2 =>
          cases b2
          cases a1
          cases b1
          have kf : KeyFn X F X.A.in1.in1 k y scope params body fb f c' := ⟨L, I.env0.frames, hr.in1.in1, ny, bind, fun s H hr' => hbody s H f c' hr'⟩
          exact sorted_rng kf hr.hd I r h1 h2 h3 h4 (keys_ok h5 h6 (by have := hr.in1.in1.un; omega)) q)
    hgs hms (by decide +kernel) (pa_cons (pe_callTy (p := q0) (pos := q1) cr_range1 hgr hmr (by decide +kernel) (pa_cons ha pa_nil na) (by decide) (by decide) na npl) pa_nil na2) (pk_cons (pe_lam tb0 hcode hm hu (fun ok => L.has ok) hdef) pk_nil) (by decide) (by decide) he hpl rfl rfl rfl
  refine pe_imp h0 fun σ H Q h => ?_
  obtain ⟨Z, env, ds, env', r, e, q⟩ := h
  obtain ⟨⟨d, e1⟩, h1, e⟩ := bnd e
  match d, h1, e with
  | .int j, h1, e =>
    change (if j ≤ 100000 ∧ -100000 ≤ j then (keysD fb e1 (rangeD 0 j.toNat)).bind fun ks => if ks.all intsT then some (sortD (rangeD 0 j.toNat) ks, e1) else none else none) = some (ds, env') at e
    split at e
    case isFalse => cases e
    rename_i hj
    obtain ⟨ks, h2, e⟩ := bnd e
    split at e
    case isFalse => cases e
    rename_i hk
    cases e
    refine ⟨Z, env, .int j, env', r, h1, fun v Z1 H1 r1 s1 d1 => ?_⟩
    cases d1.int_inv
    refine ⟨j, rfl, fun rr hrr => ?_⟩
    have g1 := grow_own r1.zh hrr (.rng 0 j)
    have r2 := r1.grow g1
    refine ⟨r2.tb, fun f c' H2 sm tb2 hf0 hf hc => ?_⟩
    have g2 : Grow Z1 (upd H1 rr (.rng 0 j)) Z1 H2 := ⟨Same.refl _, r2.zh.trans sm, sm, fun _ => tb2, fun _ z => .inl z⟩
    have r3 := r2.grow g2
    refine ⟨rr, f, c', j, Z1, env', ks, rfl, rfl, r3, sm.h _ _ upd_same (fun _ z => nomatch z), hf, hc, hj, h2, hk, fun p xs Z' H' g3 hp hp' dd => ?_⟩
    have g4 := grow_own (r3.grow g3).zh hp' (.lst xs)
    have st := ((s1.trans g1.stp).trans g2.stp).trans (g3.trans g4).stp
    exact q p xs Z' _ (r3.grow (g3.trans g4)) st (((s1.trans g1.stp).trans g2.stp).new hp) ((r3.grow g3).zh.free hp') upd_same dd
end
end DL
end L2

set_option Elab.async false
set_option maxRecDepth 100000
set_option maxHeartbeats 4000000
set_option autoImplicit false
namespace L2
namespace DL
open PySem PySem.Spec PyProof.Rows PySem.Calls
variable [Lab]
/-! ### t[::-1], t a tuple -/
omit [Lab] in
theorem adjust_rev (n : Nat) : Builtin.Slice.sliceAdjust none none (-1) (n : Int) = ((n : Int) - 1, -1) := by
  unfold Builtin.Slice.sliceAdjust
  simp
omit [Lab] in
theorem places_rev (n : Nat) : Builtin.Slice.slicePlaces ((n : Int) - 1) (-1) (-1) = n := by
  unfold Builtin.Slice.slicePlaces
  simp
  omega
omit [Lab] in
theorem fm_map {α β : Type} {f : α → Option β} {g : α → β} : ∀ {ks : List α}, (∀ k ∈ ks, f k = some (g k)) → ks.filterMap f = ks.map g
  | [], _ => rfl
  | k :: ks, h => by
    rw [List.filterMap_cons, h k List.mem_cons_self, List.map_cons, fm_map fun x hx => h x (List.mem_cons_of_mem _ hx)]
omit [Lab] in
theorem pick_rev (xs : Array Value) : ((List.range xs.size).filterMap fun (k : Nat) => xs[(((xs.size : Int) - 1) + (k : Int) * (-1)).toNat]?).toArray = xs.toList.reverse.toArray := by
  congr 1
  have e : ∀ (l : List Value) , (List.range l.length).filterMap (fun (k : Nat) => l[(((l.length : Int) - 1) + (k : Int) * (-1)).toNat]?) = l.reverse := by
    intro l
    have g : ∀ k ∈ List.range l.length, l[(((l.length : Int) - 1) + (k : Int) * (-1)).toNat]? = some (l.reverse.getD k .none) := fun k hk => by
      have hk' := List.mem_range.mp hk
      have h1 : (((l.length : Int) - 1) + (k : Int) * (-1)).toNat = l.length - 1 - k := by omega
      rw [h1, List.getD_eq_getElem?_getD, List.getElem?_reverse hk']
      rw [List.getElem?_eq_getElem (show l.length - 1 - k < l.length by omega)]
      rfl
    rw [fm_map g]
    refine List.ext_getElem (by rw [List.length_map, List.length_range, List.length_reverse]) fun i h1 h2 => ?_
    rw [List.getElem_map, List.getElem_range, List.getD_eq_getElem?_getD, List.getElem?_eq_getElem h2]
    rfl
  have := e xs.toList
  simpa using this
section
variable {prog : Program} {w : World} {A : Around} {E : Value → Shared → Prop} {s : Shared}
omit [Lab] in
theorem sliceApplied_rev {sl : Addr} {t : Tok} {n : Nat} {Q : Int × Int × Nat → Shared → Prop} (hs : s.heap.IsSliceOf sl .none .none (.int (-1) t)) (h : Q ((n : Int) - 1, -1, n) s) : wpAny (model prog w) A (Builtin.Slice.sliceApplied (.ref sl) (pure (n : Int))) Q E s := by
  obtain ⟨os, hos, _, hds⟩ := id hs
  (unfold Builtin.Slice.sliceApplied Builtin.Slice.sliceFields)
  refine wpAny_bind (wpAny_bind (wpAny_field hos hds (x := .none) rfl (wpAny_bind (wpAny_field hos hds (x := .none) rfl (wpAny_bind (wpAny_field hos hds (x := .int (-1) t) rfl (wpAny_pure ?_)))))))
  refine wpAny_bind (HT.slicePart_ (.int (-1) t) ?_)
  show wpAny _ _ (if (((-1 : Int)) == 0) = true then _ else _) _ _ s
  rw [if_neg (by decide)]
  refine wpAny_bind (HT.slicePart_ .none (wpAny_bind (HT.slicePart_ .none (wpAny_bind (wpAny_pure ?_)))))
  show wpAny _ _ (match Builtin.Slice.sliceAdjust none none (-1) (n : Int) with | (lo, hi) => pure (lo, (-1 : Int), Builtin.Slice.slicePlaces lo hi (-1))) _ _ s
  rw [adjust_rev]
  show wpAny _ _ (pure ((n : Int) - 1, (-1 : Int), Builtin.Slice.slicePlaces ((n : Int) - 1) (-1) (-1))) _ _ s
  rw [places_rev]
  exact wpAny_pure h
omit [Lab] in
theorem getItem_tuple_rev {t sl : Addr} {items : Array Value} {u : Tok} {Q : Value → Shared → Prop} (ht : IsTup s.heap t items) (hs : s.heap.IsSliceOf sl .none .none (.int (-1) u))
    (h : Q (.ref s.heap.objs.size) { s with heap := s.heap.push { cls := .type "tuple", data := .seq items.toList.reverse.toArray } }) (hsz : items.size ≤ sizeLine) : wpAny (model prog w) A (getItem (.ref t) (.ref sl)) Q E s := by
  have hfit : sizeOk (.seq items.toList.reverse.toArray) := by
    show items.toList.reverse.toArray.size ≤ sizeLine
    rw [List.size_toArray, List.length_reverse, Array.length_toList]
    exact hsz
  obtain ⟨os, hos, hcs, _⟩ := id hs
  unfold getItem
  try (with_reducible refine wpAny_holding ?_)
  first | (refine wpAny_bind (wpAny_pure ?_)) | skip
  refine wpAny_bind (wpAny_sequenceKey ht.typeIs (by decide) (wpAny_bind (wpAny_callSpecial?_slot (name := Str.ofString "__getitem__") ht.typeIs PyProof.Rows.slot_tuple_getitem (wpAny_call_entry PyProof.Rows.slot_tuple_getitem ht.typeIs entry_tuple_getitem ?_ (args_tuple_getitem _ _)))))
  show wpAny _ _ (Builtin.Tuple.tupleItemsOf (.ref t) >>= _) _ _ _
  refine wpAny_bind (tupleItemsOf_ ht (wpAny_bind (wpAny_typeOf ⟨os, hos, hcs⟩ ?_)))
  rw [if_pos (by decide)]
  refine wpAny_bind (sliceApplied_rev hs ?_)
  show wpAny _ _ (if ((((items.size : Int) - 1) == 0 && (-1 : Int) == 1 && items.size == items.size) = true) then _ else _) _ _ s
  rw [if_neg (by simp), pick_rev]
  first
    | exact wpAny_bind (m := Builtin.Tuple.tupleExact _) (wpAny_newObj_type (wpAny_pure ⟨_, rfl, wpAny_pure h⟩) hfit)
    | exact wpAny_bind (wpAny_bind (m := Builtin.Tuple.tupleExact _) (wpAny_newObj_type (wpAny_pure (wpAny_pure ⟨_, rfl, wpAny_pure h⟩)) hfit))
    | exact wpAny_bind (wpAny_bind (m := Builtin.Tuple.tupleExact _) (wpAny_newObj_type (wpAny_pure ⟨_, rfl, wpAny_pure h⟩) hfit))
end
section
variable {X : Cx} {F : Fm} {e : Expr} {f : DEnv → Option (PyData × DEnv)}
def revD : PyData → Option PyData
  | .tuple ds => some (.tuple ds.reverse)
  | _ => none
def fRev (f : DEnv → Option (PyData × DEnv)) (env : DEnv) : Option (PyData × DEnv) := (f env).bind fun x => (revD x.1).map fun d => (d, x.2)
theorem dds_rev {K : PySem.W.Frag} {Z : Hp} : ∀ {vs : List V} {ds : List PyData}, DDs K Z vs ds → DDs K Z vs.reverse ds.reverse
  | _, [], h => by cases h; exact .nil
  | _, _ :: _, h => by
    cases h with
    | cons a b =>
      rw [List.reverse_cons, List.reverse_cons]
      exact dds_app (dds_rev b) (.cons a .nil)
theorem vals_rev : ∀ {vs : List V} {us : List Value}, Vals vs us → Vals vs.reverse us.reverse
  | _, _, .nil => .nil
  | _, _, .cons a b => by
    rw [List.reverse_cons, List.reverse_cons]
    exact (vals_rev b).append (.cons a .nil)
theorem pd_rev {j : Nat} {p1 p2 p3 pos : Pos} (he : PD X F e f) : PD X F (.Subscript e (.Slice none none (some (.UnaryOp .USub (.Constant (.int 1) j p1) p2)) p3) pos) (fRev f) := by
  refine ⟨fun pins s σ H Q I h => ?_⟩
  obtain ⟨Z, env, d, env', r, e, q⟩ := h
  obtain ⟨⟨d0, e1⟩, h1, e⟩ := bnd e
  obtain ⟨d', h2, e⟩ := mpd e
  cases e
  match d0, h1, h2 with
  | .tuple ds, h1, h2 =>
    cases h2
    refine Subscript_ (thn (he.run pins s σ H (fun v H1 => ∃ Z1, Rel X.K F Z1 H1 σ e1 ∧ Stp σ env Z H e1 Z1 H1 ∧ DD X.K Z1 v (.tuple ds)) I ⟨Z, env, _, _, r, h1, fun v Z1 H1 r1 s1 d1 => ⟨Z1, r1, s1, d1⟩⟩) fun v s1 ⟨x, H1, I1, rx, Z1, r1, st, dd⟩ => ?_)
    refine wpAny_Slice (thn (po_none.run pins s1 σ H1 (fun l H2 => l = none ∧ H2 = H1) I1 ⟨rfl, rfl⟩) fun vl s2 ⟨l, H2, I2, pl, e2, e3⟩ => ?_)
    subst e2 e3
    cases pl
    refine thn (po_none.run pins s2 σ H2 (fun l H3 => l = none ∧ H3 = H2) I2 ⟨rfl, rfl⟩) fun vu s3 ⟨l, H3, I3, pu, e2, e3⟩ => ?_
    subst e2 e3
    cases pu
    refine thn ((po_some (pe_un un_neg pe_int)).run pins s3 σ H3 (fun l H4 => l = some (-1) ∧ H4 = H3) I3 ⟨1, rfl, -1, rfl, rfl, rfl⟩) fun vk s4 ⟨l, H4, I4, pk, e2, e3⟩ => ?_
    subst e2 e3
    obtain ⟨tt, rfl⟩ : ∃ tt, vk = Value.int (-1) tt := by cases pk; exact ⟨_, rfl⟩
    cases dd with
    | @tup a xs _ hx dx =>
      cases rx
      have I5 : Inv X pins σ H4 { s4 with heap := s4.heap.push { cls := .type "slice", data := .fields #[.none, .none, .int (-1) tt] } } := I4.kept (t' := s4.toks) fun b ob q => Heap.get?_push_of_some _ q
      obtain ⟨its, rv, tp, hz⟩ := I5.tuple (same_sqT r1.zh hx)
      have hlen := rv.length
      refine tail_any (T := "tuple") (ops := [.ref a, .ref s4.heap.objs.size]) tp.typeIs PyProof.Rows.slot_tuple_getitem.lookup (getItem_tuple_rev tp (Heap.IsSliceOf.new ..) ?_ (by rw [List.size_toArray, ← hlen]; exact hz)) (by with_unfolding_all rfl)
      have I6 := I5.laid (t' := s4.toks) (o := .tup xs.reverse) (fun b u e => Heap.get?_push_of_some _ e) (Nat.le_refl _) (h' := (s4.heap.push { cls := .type "slice", data := .fields #[.none, .none, .int (-1) tt] }).push { cls := .type "tuple", data := .seq its.toArray.toList.reverse.toArray }) ⟨by rw [List.length_reverse]; exact hz, its.reverse, vals_rev rv, ⟨_, Heap.get?_push_size _ rfl, rfl, 0, by simp⟩⟩
      have hn := I5.hok.fresh (Nat.le_refl _)
      have gr := grow_new r1.zh hn (.tup xs.reverse)
      exact ⟨.ref _, _, I6, rfl, q _ _ _ (r1.grow gr) (st.trans gr.stp) (.tup (SqT.of upd_same) (DDsm (dds_rev dx) gr.z))⟩
end
end DL
end L2

set_option Elab.async false
set_option maxRecDepth 100000
set_option maxHeartbeats 4000000
set_option autoImplicit false
namespace L2
namespace DL
open PySem PySem.Spec PyProof.Rows PySem.Calls
variable [Lab]
/-! ### sorted(t), t a tuple or a list of ints -/
section
variable {X : Cx} {F : Fm} {e : Expr} {f : DEnv → Option (PyData × DEnv)}
omit [Lab] in
theorem cr_sortedTup : CallR X (.builtin "sorted") (fun vs H Q => ∃ (a : Addr) (ns : List Int), vs = [V.ref a] ∧ SqT X.K H a (ns.map V.int) ∧ ∀ (ns' : List Int) (p : Addr), ns'.Perm ns → ns'.Pairwise (· ≤ ·) → H p = none → Q (.ref p) (upd H p (.lst (ns'.map V.int)))) := by
  intro pins s σ H vs us Q I r h
  obtain ⟨a, ns, rfl, hs, q⟩ := h
  obtain ⟨its, rv, ⟨o, ho, hc, n, hd⟩, hz⟩ := I.tuple hs
  rw [Vals.ref1 r]
  have hi := rv.ints
  have hz' : its.length ≤ sizeLine := by rw [← rv.length]; exact hz
  refine call_function_entry kind_sorted plain_sorted entry_sorted (args_sorted1 _) ?_
  unfold Builtin.«sorted»
  refine wpAny_bind (m := checkCount "sorted" 1 1 _) (wpAny_pure (wpAny_bind (wpAny_collect_seq a (.inr rfl) ho hc hd (fun h' kp => ?_) (by rw [List.size_toArray]; exact hz'))))
  refine wpAny_bind (wpAny_newList ?_ (by simpa using hz'))
  rw [List.toList_toArray]
  have I1 : Inv X pins σ H { s with heap := h' } := I.kept (t' := s.toks) kp
  have ga : (h'.push (seqObj "list" its.toArray 0)).get? h'.objs.size = some (seqObj "list" its.toArray 0) := Heap.get?_push_size _ rfl
  refine wpAny_bind (wpAny_holding (wpAny_call_entry slot_list_sort ⟨_, ga, rfl⟩ entry_list_sort (SrtO.list_sort_ord SrtO.swo_int ga hz' (fun h2 => SrtO.ints_sortable hi h2) fun out h1 h2 => ⟨_, rfl, wpAny_pure ⟨_, rfl, ?_⟩⟩) (args_list_sort _)))
  obtain ⟨k1, k2, k3⟩ := SrtO.ints_out hi h1 h2
  obtain ⟨ep, he'⟩ := sortedHeap_at (out := out.toArray) ga
  refine ⟨.ref _, _, I1.laid (a := h'.objs.size) (t' := s.toks) (o := .lst ((out.map SrtO.iv).map V.int)) (fun b u hb => ?_) (Nat.le_refl _) ⟨?_, out, ep, vals_of_ints k1, he'⟩, rfl, q _ _ k2 k3 (I1.hok.fresh (Nat.le_refl _))⟩
  · have hlt : b < h'.objs.size := Heap.lt_size hb
    rw [sortedHeap_old (Nat.ne_of_lt hlt) (by rw [size_push']; exact Nat.lt_succ_of_lt hlt)]
    exact Heap.get?_push_of_some _ hb
  · rw [List.length_map, k2.length_eq]
    rw [List.length_map] at hz
    exact hz
def intsL : List PyData → Option (List Int)
  | [] => some []
  | .int i :: r => (intsL r).map (i :: ·)
  | _ => none
theorem intsL_of : ∀ {ds : List PyData} {ns : List Int}, intsL ds = some ns → ds = ns.map .int
  | [], ns, h => by cases h; rfl
  | .int i :: r, ns, h => by
    obtain ⟨ms, h1, rfl⟩ := mpd h
    rw [intsL_of h1]
    rfl
  | .none :: _, _, h => by cases h
  | .bool _ :: _, _, h => by cases h
  | .str _ :: _, _, h => by cases h
  | .list _ :: _, _, h => by cases h
  | .tuple _ :: _, _, h => by cases h
  | .dict _ :: _, _, h => by cases h
theorem intsL_map : ∀ ns : List Int, intsL (ns.map .int) = some ns
  | [] => rfl
  | n :: ns => by
    show (intsL (ns.map .int)).map (n :: ·) = _
    rw [intsL_map ns]
    rfl
theorem dds_intsV {K : PySem.W.Frag} {Z : Hp} : ∀ {ns : List Int} {vs : List V}, DDs K Z vs (ns.map .int) → vs = ns.map V.int
  | [], _, h => by cases h; rfl
  | n :: ns, _, h => by
    cases h with
    | cons a b =>
      cases a
      rw [dds_intsV b]
      rfl
def sortI (ns : List Int) : List Int := ns.mergeSort fun a b => decide (a ≤ b)
theorem perm_le_uniq : ∀ {l m : List Int}, l.Perm m → l.Pairwise (· ≤ ·) → m.Pairwise (· ≤ ·) → l = m
  | [], m, h, _, _ => by rw [List.Perm.nil_eq h]
  | a :: l, [], h, _, _ => by have := h.length_eq; simp at this
  | a :: l, b :: m, h, h1, h2 => by
    rw [List.pairwise_cons] at h1 h2
    have hab : a = b := by
      have ha : a ∈ b :: m := h.mem_iff.mp List.mem_cons_self
      have hb : b ∈ a :: l := h.mem_iff.mpr List.mem_cons_self
      have l1 : b ≤ a := by
        rcases List.mem_cons.mp ha with e | ha
        · omega
        · exact h2.1 a ha
      have l2 : a ≤ b := by
        rcases List.mem_cons.mp hb with e | hb
        · omega
        · exact h1.1 b hb
      omega
    subst hab
    rw [perm_le_uniq (List.Perm.cons_inv h) h1.2 h2.2]
theorem sortI_of {ns ns' : List Int} (h : ns'.Perm ns) (hs : ns'.Pairwise (· ≤ ·)) : ns' = sortI ns := by
  refine perm_le_uniq (h.trans (List.mergeSort_perm _ _).symm) hs ?_
  have := List.pairwise_mergeSort (le := fun a b : Int => decide (a ≤ b)) (fun a b c h1 h2 => by simp at *; omega) (fun a b => by simp; omega) ns
  exact this.imp fun h => by simpa using h
def nSorted (f : DEnv → Option (PyData × DEnv)) (env : DEnv) : Option (List PyData × DEnv) := (f env).bind fun x => (seqD x.1).bind fun ds => (intsL ds).map fun ns => ((sortI ns).map .int, x.2)
theorem dds_ints' {K : PySem.W.Frag} {Z : Hp} (ns : List Int) : DDs K Z (ns.map V.int) (ns.map PyData.int) := dds_ints ns
theorem pn_sorted {p pos : Pos} (hm : X.mg "sorted" = none) (ha : PD X F e f) (hg : Gl X "sorted" := by rfl) (he : starEach [e] X.env = (false, eval e X.env) :: starEach [] X.env := by rfl) (hpl : (backTo pos (starEach [] X.env)).any (·.1) = false := by rfl) :
    PN X F (.Call (.Name "sorted" p) [e] [] pos) (nSorted f) := by
  have h1 := pe_callB (p := p) (pos := pos) (cr_sortedI (X := X)) hg hm (by decide +kernel) (pa_cons ha pa_nil he) (by decide) (by decide) he hpl
  have h2 := pe_callB (p := p) (pos := pos) (cr_sortedTup (X := X)) hg hm (by decide +kernel) (pa_cons ha pa_nil he) (by decide) (by decide) he hpl
  refine ⟨fun pins s σ H Q I h => ?_⟩
  obtain ⟨Z, env, d, env', r, e, q⟩ := h
  obtain ⟨⟨d0, e1⟩, g1, e⟩ := bnd e
  obtain ⟨ds, g2, e⟩ := bnd e
  obtain ⟨ns, g3, e⟩ := mpd e
  cases e
  have ed := intsL_of g3
  subst ed
  have fin : ∀ {Z1 H1 : Hp} (r1 : Rel X.K F Z1 H1 σ e1) (s1 : Stp σ env Z H e1 Z1 H1) (ns' : List Int) (p : Addr), ns'.Perm ns → ns'.Pairwise (· ≤ ·) → H1 p = none → Q (.ref p) (upd H1 p (.lst (ns'.map V.int))) := fun {Z1 H1} r1 s1 ns' p hp hs hn => by
    have eo := sortI_of hp hs
    subst eo
    have gr := grow_own r1.zh hn (.lst ((sortI ns).map V.int))
    exact q p _ _ _ (r1.grow gr) (s1.trans gr.stp) (s1.new hn) (r1.zh.free hn) upd_same (dds_ints' _)
  cases d0 with
  | list ds =>
    cases g2
    refine h1.run pins s σ H Q I ⟨Z, env, _, e1, r, g1, fun v Z1 H1 r1 s1 d1 => ?_⟩
    cases d1 with
    | @lst a xs _ hx dx =>
      cases dds_intsV dx
      exact ⟨a, ns, rfl, (same_ls r1.zh hx).sq, fin r1 s1⟩
  | tuple ds =>
    cases g2
    refine h2.run pins s σ H Q I ⟨Z, env, _, e1, r, g1, fun v Z1 H1 r1 s1 d1 => ?_⟩
    cases d1 with
    | @tup a xs _ hx dx =>
      cases dds_intsV dx
      exact ⟨a, ns, rfl, same_sqT r1.zh hx, fin r1 s1⟩
  | _ => cases g2
end
end DL
end L2

set_option Elab.async false
set_option maxRecDepth 100000
set_option maxHeartbeats 4000000
set_option autoImplicit false
namespace L2
namespace DL
open PySem PySem.Spec PyProof.Rows PySem.Calls
variable [Lab]
/-! ### len(set(l)), l a list of ints or of tuples of ints -/
def cntI (ns : List Int) : Nat := (firstMet (fun i => ns.getD i 0) ns.length).length
def nubT : List (List Int) → List (List Int)
  | [] => []
  | k :: ks => if k ∈ nubT ks then nubT ks else k :: nubT ks
theorem nubT_mem {k : List Int} : ∀ {ks : List (List Int)}, k ∈ nubT ks ↔ k ∈ ks
  | [] => Iff.rfl
  | x :: ks => by
    rw [nubT]
    split
    · rename_i h
      rw [nubT_mem, List.mem_cons]
      constructor
      · exact .inr
      · rintro (rfl | h2)
        · exact nubT_mem.mp h
        · exact h2
    · rw [List.mem_cons, List.mem_cons, nubT_mem]
theorem nubT_nodup : ∀ ks : List (List Int), (nubT ks).Nodup
  | [] => .nil
  | x :: ks => by
    rw [nubT]
    split
    · exact nubT_nodup ks
    · rename_i h
      exact List.nodup_cons.mpr ⟨h, nubT_nodup ks⟩
theorem nubT_le : ∀ ks : List (List Int), (nubT ks).length ≤ ks.length
  | [] => Nat.le_refl _
  | x :: ks => by
    have := nubT_le ks
    rw [nubT]
    split
    · rw [List.length_cons]; omega
    · rw [List.length_cons, List.length_cons]; omega
theorem nubT_full : ∀ {ks : List (List Int)}, (nubT ks).length = ks.length → ks.Nodup
  | [], _ => .nil
  | x :: ks, h => by
    have hl := nubT_le ks
    rw [nubT] at h
    split at h
    · rw [List.length_cons] at h; omega
    · rename_i hn
      rw [List.length_cons, List.length_cons] at h
      exact List.nodup_cons.mpr ⟨fun z => hn (nubT_mem.mpr z), nubT_full (by omega)⟩
theorem met_mem (val : Nat → Int) : ∀ (i j : Nat), j < i → val j ∈ firstMet val i
  | 0, _, h => absurd h (Nat.not_lt_zero _)
  | i + 1, j, h => by
    rw [firstMet_succ]
    unfold step_dedup
    by_cases e : j = i
    · subst e
      split
      · rename_i z
        obtain ⟨x, hx, e⟩ := List.any_eq_true.mp z
        rw [← eq_of_beq e]
        exact hx
      · exact List.mem_append_right _ (List.mem_singleton.mpr rfl)
    · have := met_mem val i j (by omega)
      split
      · exact this
      · exact List.mem_append_left _ this
theorem cntI_one {ns : List Int} (h : cntI ns = 1) {x y : Int} (hx : x ∈ ns) (hy : y ∈ ns) : x = y := by
  have key : ∀ z ∈ ns, z ∈ firstMet (fun i => ns.getD i 0) ns.length := fun z hz => by
    obtain ⟨i, hi, rfl⟩ := List.mem_iff_getElem.mp hz
    have := met_mem (fun i => ns.getD i 0) ns.length i hi
    rwa [show ns.getD i 0 = ns[i] by rw [List.getD_eq_getElem?_getD, List.getElem?_eq_getElem hi]; rfl] at this
  have a := key x hx
  have b := key y hy
  unfold cntI at h
  generalize firstMet (fun i => ns.getD i 0) ns.length = l at *
  match l, h with
  | [z], _ => rw [List.mem_singleton.mp a, List.mem_singleton.mp b]
def cntT (ks : List (List Int)) : Nat := (nubT ks).length
theorem cntT_of {L ks : List (Addr × List Int)} (nd : (L.map (·.2)).Nodup) (h1 : ∀ p ∈ L, p ∈ ks) (h2 : ∀ p ∈ ks, p.2 ∈ L.map (·.2)) : L.length = cntT (ks.map (·.2)) := by
  have := (List.perm_ext_iff_of_nodup nd (nubT_nodup (ks.map (·.2)))).mpr fun k => by
    rw [nubT_mem]
    constructor
    · intro h
      obtain ⟨p, hp, rfl⟩ := List.mem_map.mp h
      exact List.mem_map.mpr ⟨p, h1 p hp, rfl⟩
    · intro h
      obtain ⟨p, hp, rfl⟩ := List.mem_map.mp h
      exact h2 p hp
  have h := this.length_eq
  rw [List.length_map] at h
  exact h
section
variable {X : Cx} {F : Fm} {e : Expr} {f : DEnv → Option (PyData × DEnv)}
def tLenSet2 (K : PySem.W.Frag) (te : TE) : TE := fun σ H Q => te σ H fun x H1 => (∃ (l : Addr) (ns : List Int), x = .ref l ∧ SqL K H1 l (ns.map V.int) ∧ ns.length < 64 ∧ Q (.int (cntI ns)) H1) ∨
  ∃ (l : Addr) (ks : List (Addr × List Int)), x = .ref l ∧ SqL K H1 l (ks.map fun p => V.ref p.1) ∧ (∀ p ∈ ks, SqT K H1 p.1 (p.2.map V.int)) ∧ ks.length < 64 ∧ Q (.int (cntT (ks.map (·.2)))) H1
theorem pe_lenSet2 {te : TE} {p1 p2 p3 p4 : Pos} (hc : X.calm = true) (hu : X.A.units + 64 < cLine) (h1 : Gl X "len") (m1 : X.mg "len" = none) (h2 : Gl X "set") (m2 : X.mg "set" = none) (he : PE X e te)
    (ne : starEach [e] X.env = (false, eval e X.env) :: starEach [] X.env) : PE X (.Call (.Name "len" p1) [.Call (.Name "set" p2) [e] [] p3] [] p4) (tLenSet2 X.K te) := by
  refine ⟨fun pins s σ H Q I h => Call_ (ld_blt I h1 m1 PySem.boot_len (callWith_builtin1 (args_cons (Call_ (ld_blt I h2 m2 PyProof.Rows.boot_set ?_)) rfl) rfl rfl))⟩
  refine callWith_type1 (args_cons (thn (he.run pins s σ H _ I h) fun v sa ⟨x, Ha, Ia, ra, qa⟩ => args_nil ?_) ne) ne rfl
  rcases qa with ⟨l, ns, rfl, hq, hl, qa⟩ | ⟨l, ks, rfl, hq, hk, hl, qa⟩
  · cases ra
    obtain ⟨its, rv, pl, hz⟩ := Ia.list hq
    have hn : its.toArray.size = ns.length := by rw [List.size_toArray, ← rv.length, List.length_map]
    refine call_set_list (ns := ns) (Ia.ok.hd hc) pl.isList (by simpa using rv.ints) (by unfold scanBound; omega) fun hp tk hS kp => args_nil ?_
    rw [hn] at hS
    obtain ⟨o, es, ep, t, ho, hex, hd, _, _, _, hf, hm⟩ := hS
    have hm' : es.size = cntI ns := hm
    have Ib : Inv X pins σ Ha { sa with heap := hp, toks := tk } := Ia.kept fun b o z => kp b o (Heap.lt_size z) z
    have small : cntI ns ≤ ns.length := firstMet_length_le _ _
    exact call_len_set ho hex hd hf (by rw [hm']; omega) ⟨.int (cntI ns), Ha, Ib.tok _, ⟨_, by rw [hm']⟩, qa⟩
  · cases ra
    obtain ⟨its, rv, pl, hz⟩ := Ia.list hq
    refine call_set_tups (P := X.prog) (w := X.w) ks (Ia.ok.hd hc) pl.isList (by simpa using refs_of_vals rv) (fun p hp => Ia.isT (hk p hp)) hl (by omega) fun hp tk L es ep t R g kp => args_nil ?_
    obtain ⟨o, ho, hex, hd⟩ := R.ob
    have hsz := SetTR.size (s := { sa with heap := hp, toks := tk }) R
    have hft := SetTR.fits (s := { sa with heap := hp, toks := tk }) R
    have hfw := R.few
    have hct := cntT_of R.nd (fun p hp => List.mem_of_mem_take (g.sub p hp)) fun p hp => g.all p (by rw [List.take_length]; exact hp)
    have Ib : Inv X pins σ Ha { sa with heap := hp, toks := tk } := Ia.kept fun b o z => kp b o z
    exact call_len_set ho hex hd hft (by rw [hsz]; omega) ⟨.int (cntT (ks.map (·.2))), Ha, Ib.tok _, ⟨_, by rw [hsz, hct]⟩, qa⟩
def tupsL : List PyData → Option (List (List Int))
  | [] => some []
  | .tuple ds :: r => (intsL ds).bind fun ns => (tupsL r).map (ns :: ·)
  | _ => none
theorem tupsL_of : ∀ {ds : List PyData} {ks : List (List Int)}, tupsL ds = some ks → ds = ks.map fun k => .tuple (k.map .int)
  | [], ks, h => by cases h; rfl
  | .tuple ds :: r, ks, h => by
    obtain ⟨ns, h1, h⟩ := bnd h
    obtain ⟨ms, h2, rfl⟩ := mpd h
    rw [tupsL_of h2, intsL_of h1]
    rfl
  | .int _ :: _, _, h => by cases h
  | .none :: _, _, h => by cases h
  | .bool _ :: _, _, h => by cases h
  | .str _ :: _, _, h => by cases h
  | .list _ :: _, _, h => by cases h
  | .dict _ :: _, _, h => by cases h
theorem tupsL_map : ∀ ks : List (List Int), tupsL (ks.map fun k => .tuple (k.map .int)) = some ks
  | [] => rfl
  | k :: ks => by
    show (intsL (k.map .int)).bind (fun ns => (tupsL (ks.map fun k => .tuple (k.map .int))).map (ns :: ·)) = _
    rw [intsL_map, tupsL_map ks]
    rfl
theorem dds_tups {K : PySem.W.Frag} {Z H : Hp} (sz : Same Z H) : ∀ {ks : List (List Int)} {vs : List V}, DDs K Z vs (ks.map fun k => .tuple (k.map .int)) → ∃ ps : List (Addr × List Int), vs = ps.map (fun p => V.ref p.1) ∧ ps.map (·.2) = ks ∧ ∀ p ∈ ps, SqT K H p.1 (p.2.map V.int)
  | [], _, h => by cases h; exact ⟨[], rfl, rfl, fun _ h => nomatch h⟩
  | k :: ks, _, h => by
    cases h with
    | cons a b =>
      obtain ⟨ps, rfl, rfl, h2⟩ := dds_tups sz b
      cases a with
      | @tup p xs _ hx dx =>
        cases dds_intsV dx
        refine ⟨(p, k) :: ps, rfl, rfl, fun q hq => ?_⟩
        rcases List.mem_cons.mp hq with rfl | hq
        · exact same_sqT sz hx
        · exact h2 q hq
def lenSetD : PyData → Option PyData
  | .list ds => if ds.length < 64 then (match intsL ds with
    | some ns => some (.int (cntI ns))
    | none => (tupsL ds).map fun ks => .int (cntT ks)) else none
  | _ => none
def fLenSet (f : DEnv → Option (PyData × DEnv)) (env : DEnv) : Option (PyData × DEnv) := (f env).bind fun x => (lenSetD x.1).map fun d => (d, x.2)
theorem pd_lenSet {k : Nat} {p1 p2 p3 p4 : Pos} (hr : Room k X.A) (m1 : X.mg "len" = none) (m2 : X.mg "set" = none) (he : PD X F e f) (hc : X.calm = true := by rfl) (h1 : Gl X "len" := by rfl) (h2 : Gl X "set" := by rfl)
    (ne : starEach [e] X.env = (false, eval e X.env) :: starEach [] X.env := by rfl) : PD X F (.Call (.Name "len" p1) [.Call (.Name "set" p2) [e] [] p3] [] p4) (fLenSet f) := pe_imp (pe_lenSet2 hc hr.units h1 m1 h2 m2 he ne) fun σ H Q h => by
  obtain ⟨Z, env, d, env', r, e, q⟩ := h
  obtain ⟨⟨d0, e1⟩, g1, e⟩ := bnd e
  obtain ⟨d', g2, e⟩ := mpd e
  cases e
  refine ⟨Z, env, d0, e1, r, g1, fun v Z1 H1 r1 s1 d1 => ?_⟩
  cases d0 with
  | list ds =>
    change (if ds.length < 64 then _ else none) = some _ at g2
    split at g2
    case isFalse => cases g2
    rename_i hl
    cases d1 with
    | @lst a xs _ hx dx =>
      cases hi : intsL ds with
      | some ns =>
        rw [hi] at g2
        cases g2
        cases intsL_of hi
        cases dds_intsV dx
        rw [List.length_map] at hl
        exact .inl ⟨a, ns, rfl, (same_ls r1.zh hx).sq, hl, q _ Z1 H1 r1 s1 (.int _)⟩
      | none =>
        rw [hi] at g2
        obtain ⟨ks, g3, rfl⟩ := mpd g2
        cases tupsL_of g3
        obtain ⟨ps, rfl, rfl, hp⟩ := dds_tups r1.zh dx
        rw [List.length_map, List.length_map] at hl
        exact .inr ⟨a, ps, rfl, (same_ls r1.zh hx).sq, hp, hl, q _ Z1 H1 r1 s1 (.int _)⟩
  | _ => cases g2
end
end DL
end L2

set_option Elab.async false
set_option maxRecDepth 100000
set_option maxHeartbeats 4000000
set_option autoImplicit false
namespace L2
namespace DL
open PySem PySem.Spec PyProof.Rows PySem.Calls
variable [Lab]
section
variable {X : Cx} {F : Fm} {e : Expr} {f g : DEnv → Option (PyData × DEnv)} {y : Str} {p pn pos : Pos}
/-! ### a > b of data of one shape -/
def gtDD (a b : PyData) : Option PyData := match a, b with
  | .int i, .int j => some (.bool (decide (j < i)))
  | a, b => if shD a && shD b && PySem.W.alike a b && !(tyN a == "NoneType") then some (.bool (PySem.W.dataLt b a)) else none
theorem od_gtDD {k : Nat} (hr : Room k X.A) : OpD X (compareOp .Gt) gtDD := by
  have h2 : OpR X (compareOp .Gt) (fun x y H Q => ∃ d e, Dp X.K H x d ∧ Dp X.K H y e ∧ SeqAt.shaped d = true ∧ SeqAt.shaped e = true ∧ PySem.W.alike d e = true ∧ d ≠ .none ∧ Q (.bl (PySem.W.dataLt e d)) H) := by
    intro pins s σ H x y v u Q I rx ry h
    obtain ⟨d, e, hd, he, sd, se, al, nn, q⟩ := h
    obtain ⟨as, r1⟩ := Dp.reads I d x v hd rx
    obtain ⟨bs, r2⟩ := Dp.reads I e y u he ry
    have h1 := SeqAt.depth_of_shaped sd
    have hu := hr.units
    exact PySem.W.gt_data r1 r2 al nn (by have := Nat.min_le_left d.depth e.depth; omega) ⟨.bl _, H, I, rfl, q⟩
  intro pins s σ H x y v u Q I rx ry h
  obtain ⟨Z, a, b, d, sz, ha, hb, e, q⟩ := h
  unfold gtDD at e
  split at e
  · cases e
    cases ha.int_inv
    cases hb.int_inv
    exact op_gt pins s σ H _ _ v u Q I rx ry ⟨_, _, rfl, rfl, q _ Z H (Grow.refl sz) (.bl _)⟩
  · split at e
    case isFalse => cases e
    rename_i hs
    cases e
    rw [Bool.and_eq_true, Bool.and_eq_true, Bool.and_eq_true] at hs
    obtain ⟨⟨⟨s1, s2⟩, s3⟩, s4⟩ := hs
    exact h2 pins s σ H x y v u Q I rx ry ⟨a, b, DD.dp _ _ (shD_nd s1) (DDm ha sz), DD.dp _ _ (shD_nd s2) (DDm hb sz), shD_sh s1, shD_sh s2, s3, (fun z => by subst z; cases s4), q _ Z H (Grow.refl sz) (.bl _)⟩
theorem gtDD_b : IsB gtDD := fun a b d h => by
  unfold gtDD at h
  split at h
  · cases h
    exact ⟨_, rfl⟩
  · split at h
    · cases h
      exact ⟨_, rfl⟩
    · cases h
/-! ### max of a list of ints -/
def maxI : List Int → Option Int
  | [] => none
  | [x] => some x
  | x :: xs => (maxI xs).map fun m => if m < x then x else m
theorem maxI_is : ∀ {xs : List Int} {m : Int}, maxI xs = some m → m ∈ xs ∧ ∀ y ∈ xs, y ≤ m
  | [], _, h => by cases h
  | [x], m, h => by
    cases h
    exact ⟨List.mem_cons_self, fun y hy => by cases List.mem_singleton.mp hy; exact Int.le_refl _⟩
  | x :: z :: xs, m, h => by
    obtain ⟨k, h1, h2⟩ := mpd h
    obtain ⟨a, b⟩ := maxI_is h1
    subst h2
    by_cases c : k < x
    · rw [if_pos c]
      refine ⟨List.mem_cons_self, fun y hy => ?_⟩
      rcases List.mem_cons.mp hy with rfl | hy
      · exact Int.le_refl _
      · have := b y hy; omega
    · rw [if_neg c]
      refine ⟨List.mem_cons_of_mem _ a, fun y hy => ?_⟩
      rcases List.mem_cons.mp hy with rfl | hy
      · omega
      · exact b y hy
def maxLD : List PyData → Option PyData
  | [.list ds] => (intsL ds).bind fun ns => (maxI ns).map .int
  | _ => none
theorem cd_maxL (hc : X.calm = true) : CallD X (.builtin "max") maxLD := by
  intro pins s σ H xs us Q I r h
  obtain ⟨Z, ds, d, sz, hd, e, q⟩ := h
  match ds, hd, e with
  | [.list ds], hd, e =>
    obtain ⟨ns, e1, e⟩ := bnd e
    obtain ⟨m, e2, rfl⟩ := mpd e
    obtain ⟨v, rfl, h1⟩ := dds1 hd
    cases intsL_of e1
    cases h1 with
    | @lst a ys _ hr ha =>
      cases dds_intsV ha
      obtain ⟨hm1, hm2⟩ := maxI_is e2
      refine cr_max hc pins s σ H _ us Q I r ⟨a, ns, rfl, (same_ls sz hr).sq, List.length_pos_of_mem hm1, fun m' k1 k2 => ?_⟩
      have : m' = m := Int.le_antisymm (hm2 m' k1) (k2 m hm1)
      subst this
      exact q _ Z H (Grow.refl sz) (.int _)
/-! ### xs.index(e), xs.remove(e) of a list of ints -/
def idxI : List Int → Int → Option Nat
  | [], _ => none
  | x :: xs, k => if x = k then some 0 else (idxI xs k).map (· + 1)
theorem idxI_is : ∀ {xs : List Int} {k : Int} {j : Nat}, idxI xs k = some j → xs[j]? = some k ∧ ∀ m : Nat, m < j → xs[m]? ≠ some k
  | [], _, _, h => by cases h
  | x :: xs, k, j, h => by
    rw [idxI] at h
    split at h
    · rename_i c
      cases h
      exact ⟨by rw [c]; rfl, fun m hm => absurd hm (Nat.not_lt_zero _)⟩
    · rename_i c
      obtain ⟨i, h1, rfl⟩ := mpd h
      obtain ⟨a, b⟩ := idxI_is h1
      refine ⟨a, fun m hm => ?_⟩
      cases m with
      | zero => exact fun z => c (Option.some.inj z)
      | succ m => exact b m (by omega)
def sRem (j : Nat) (f : DEnv → Option (PyData × DEnv)) (env : DEnv) : Option DFlow :=
  (rdO j env).bind fun _ => (f env).bind fun x => (rdO j x.2).bind fun es => (intsL es).bind fun ns => match x.1 with
    | .int k => (idxI ns k).map fun i => .nx (wrO j ((ns.eraseIdx i).map .int) x.2)
    | _ => none
theorem ds_remove (j : Nat) (ha : PD X F e f) (hN : X.N[j]? = some y := by rfl) (hv : Vis X.env.scope y := by first | exact Or.inl rfl | exact Or.inr (Or.inl rfl) | exact Or.inr (Or.inr rfl)) (hd : (y == ("__debug__" : Str)) = false := by decide)
    (hcd : (y == ("__classdict__" : Str)) = false := by decide) {cpos : Pos}
    (hfew : ((backTo cpos (starEach [e] X.env)).all (fun x => !x.1) && (backToKw cpos (keywordEach [] X.env)).all (fun x => x.1.isSome)
      && decide ([e].length + ([] : List Keyword).length + (if ([] : List Keyword).isEmpty then 0 else 1) < 30)) = true := by rfl)
    (hline : (p.endLine == cpos.line) = true := by rfl) (hs : starEach [e] X.env = (false, eval e X.env) :: starEach [] X.env := by rfl) (hplain : (backTo cpos (starEach [] X.env)).any (·.1) = false := by rfl)
    (hsw : swapsWith (.Call (.Attribute (.Name y pn) "remove" p) [e] [] cpos) none pos.line X.env = pure false := by rfl) :
    PDS X F (.Expr (.Call (.Attribute (.Name y pn) "remove" p) [e] [] cpos) pos) (sRem j f) :=
  ps_imp (ps_expr (pe_bm PySem.F.plainAttrs_list PySem.F.slot_list_remove PySem.F.type_list_remove mt_remove (pe_var hN hv hd hcd) (pa_cons ha pa_nil hs) rfl hfew hline hs hplain) hsw) fun D σ H h => by
  obtain ⟨Z, env, fl, r, e, q⟩ := h
  obtain ⟨z0, h0, e⟩ := bnd e
  obtain ⟨⟨d, e1⟩, h1, h⟩ := bnd e
  obtain ⟨zs, h2, h⟩ := bnd h
  obtain ⟨ns, h3, hh⟩ := bnd h
  clear h
  cases intsL_of h3
  match d, h1, hh with
  | .int k, h1, hh =>
    obtain ⟨i, h4, hf⟩ := mpd hh
    cases hf
    obtain ⟨p, xs, sj, _, hp0, _, _⟩ := r.poke h0
    refine ⟨.ref p, sj, own_ty hp0, Z, env, .int k, e1, r, h1, fun v Z1 H1 r1 s1 d1 => ?_⟩
    cases d1.int_inv
    obtain ⟨p', xs', sj', zp, hp, dp, fin⟩ := r1.poke h2
    rw [sj] at sj'
    cases sj'
    cases dds_intsV dp
    obtain ⟨k1, k2⟩ := idxI_is h4
    refine ⟨p, ns, k, i, rfl, rfl, hp, k1, k2, ?_⟩
    obtain ⟨b1, b2⟩ := fin Z1 (upd H1 p (.lst ((ns.eraseIdx i).map V.int))) _ ((ns.eraseIdx i).map .int) (pok_upd r1.zh zp hp _) upd_same (dds_ints _)
    exact q σ Z1 _ b1 (s1.trans b2).z
def fIdxN (j : Nat) (f : DEnv → Option (PyData × DEnv)) (env : DEnv) : Option (PyData × DEnv) :=
  (rdO j env).bind fun _ => (f env).bind fun x => (rdO j x.2).bind fun es => (intsL es).bind fun ns => match x.1 with
    | .int k => (idxI ns k).map fun i => (.int (i : Nat), x.2)
    | _ => none
theorem pd_idxN (j : Nat) (ha : PD X F e f) (hN : X.N[j]? = some y := by rfl) (hv : Vis X.env.scope y := by first | exact Or.inl rfl | exact Or.inr (Or.inl rfl) | exact Or.inr (Or.inr rfl)) (hd : (y == ("__debug__" : Str)) = false := by decide)
    (hcd : (y == ("__classdict__" : Str)) = false := by decide)
    (hfew : ((backTo pos (starEach [e] X.env)).all (fun x => !x.1) && (backToKw pos (keywordEach [] X.env)).all (fun x => x.1.isSome)
      && decide ([e].length + ([] : List Keyword).length + (if ([] : List Keyword).isEmpty then 0 else 1) < 30)) = true := by rfl)
    (hline : (p.endLine == pos.line) = true := by rfl) (hs : starEach [e] X.env = (false, eval e X.env) :: starEach [] X.env := by rfl) (hplain : (backTo pos (starEach [] X.env)).any (·.1) = false := by rfl) :
    PD X F (.Call (.Attribute (.Name y pn) "index" p) [e] [] pos) (fIdxN j f) :=
  pe_imp (pe_bm PySem.F.plainAttrs_list PySem.F.slot_list_index PySem.F.type_list_index mt_index (pe_var hN hv hd hcd) (pa_cons ha pa_nil hs) rfl hfew hline hs hplain) fun σ H Q h => by
  obtain ⟨Z, env, d, env', r, e, q⟩ := h
  obtain ⟨z0, h0, e⟩ := bnd e
  obtain ⟨⟨x, e1⟩, h1, h⟩ := bnd e
  obtain ⟨zs, h2, h⟩ := bnd h
  obtain ⟨ns, h3, hh⟩ := bnd h
  clear h
  cases intsL_of h3
  match x, h1, hh with
  | .int k, h1, hh =>
    obtain ⟨i, h4, hf⟩ := mpd hh
    cases hf
    obtain ⟨p, xs, sj, _, hp0, _, _⟩ := r.poke h0
    refine ⟨.ref p, sj, own_ty hp0, Z, env, .int k, e1, r, h1, fun v Z1 H1 r1 s1 d1 => ?_⟩
    cases d1.int_inv
    obtain ⟨p', xs', sj', zp, hp, dp, fin⟩ := r1.poke h2
    rw [sj] at sj'
    cases sj'
    cases dds_intsV dp
    obtain ⟨k1, k2⟩ := idxI_is h4
    refine ⟨p, ns.map V.int, .int k, i, .int k, rfl, rfl, SqL.of hp, rfl, ?_, ?_, ?_, fun m z' hm hz => ?_, q _ Z1 H1 r1 s1 (.int _)⟩
    · rw [List.all_eq_true]
      intro z hz
      obtain ⟨a, _, rfl⟩ := List.mem_map.mp hz
      rfl
    · rw [List.getElem?_map, k1]
      rfl
    · simp [eqV]
    · rw [List.getElem?_map] at hz
      obtain ⟨a, ha, rfl⟩ := Option.map_eq_some_iff.mp hz
      have : a ≠ k := fun z => k2 m hm (by rw [ha, z])
      simp [eqV, this]
/-! ### C.index(e), C a global tuple of strings -/
def strsL : List PyData → Option (List Str)
  | [] => some []
  | .str x :: r => (strsL r).map (x :: ·)
  | _ => none
theorem strsL_of : ∀ {ds : List PyData} {xs : List Str}, strsL ds = some xs → ds = xs.map .str
  | [], xs, h => by cases h; rfl
  | .str x :: r, xs, h => by
    obtain ⟨ms, h1, rfl⟩ := mpd h
    rw [strsL_of h1]
    rfl
  | .int _ :: _, _, h => by cases h
  | .none :: _, _, h => by cases h
  | .bool _ :: _, _, h => by cases h
  | .list _ :: _, _, h => by cases h
  | .tuple _ :: _, _, h => by cases h
  | .dict _ :: _, _, h => by cases h
theorem dds_strsV {K : PySem.W.Frag} {Z : Hp} : ∀ {xs : List Str} {vs : List V}, DDs K Z vs (xs.map .str) → vs = xs.map V.str
  | [], _, h => by cases h; rfl
  | n :: ns, _, h => by
    cases h with
    | cons a b =>
      cases a
      rw [dds_strsV b]
      rfl
def idxS : List Str → Str → Option Nat
  | [], _ => none
  | x :: xs, k => if x = k then some 0 else (idxS xs k).map (· + 1)
theorem idxS_is : ∀ {xs : List Str} {k : Str} {j : Nat}, idxS xs k = some j → xs[j]? = some k ∧ ∀ m : Nat, m < j → xs[m]? ≠ some k
  | [], _, _, h => by cases h
  | x :: xs, k, j, h => by
    rw [idxS] at h
    split at h
    · rename_i c
      cases h
      exact ⟨by rw [c]; rfl, fun m hm => absurd hm (Nat.not_lt_zero _)⟩
    · rename_i c
      obtain ⟨i, h1, rfl⟩ := mpd h
      obtain ⟨a, b⟩ := idxS_is h1
      refine ⟨a, fun m hm => ?_⟩
      cases m with
      | zero => exact fun z => c (Option.some.inj z)
      | succ m => exact b m (by omega)
def tidxD (c d : PyData) : Option PyData := match c, d with
  | .tuple ds, .str k => (strsL ds).bind fun xs => (idxS xs k).map fun i => .int (i : Nat)
  | _, _ => none
def fTidx (c : PyData) (f : DEnv → Option (PyData × DEnv)) (env : DEnv) : Option (PyData × DEnv) := (f env).bind fun x => (tidxD c x.1).map fun d => (d, x.2)
/-- a constant that is a tuple of the class itself -/
def TupC (K : PySem.W.Frag) (mg : Str → Option Value) (x : Str) : Prop := ∃ (p : Addr) (o : Obj), mg x = some (.ref p) ∧ K.lookup p = some o ∧ o.cls = .type "tuple" ∧ o.dict = none
theorem pd_tidx {u : Value} {w : V} {c : PyData} (hm : X.mg y = some u) (hw : RelV w u) (hc : ∀ Z, DD X.K Z w c) (ht : TupC X.K X.mg y) (ha : PD X F e f) (hg : Gl X y := by rfl) (hnm : y ≠ "__name__" := by decide) (hdb : (y == ("__debug__" : Str)) = false := by decide)
    (hfew : ((backTo pos (starEach [e] X.env)).all (fun x => !x.1) && (backToKw pos (keywordEach [] X.env)).all (fun x => x.1.isSome)
      && decide ([e].length + ([] : List Keyword).length + (if ([] : List Keyword).isEmpty then 0 else 1) < 30)) = true := by rfl)
    (hline : (p.endLine == pos.line) = true := by rfl) (hs : starEach [e] X.env = (false, eval e X.env) :: starEach [] X.env := by rfl) (hplain : (backTo pos (starEach [] X.env)).any (·.1) = false := by rfl) :
    PD X F (.Call (.Attribute (.Name y pn) "index" p) [e] [] pos) (fTidx c f) :=
  pe_imp (pe_bm PySem.F.plainAttrs_tuple PySem.F.slot_tuple_index PySem.F.type_tuple_index mt_tup_index (pe_glob hg hm hw hdb) (pa_cons ha pa_nil hs) rfl hfew hline hs hplain) fun σ H Q h => by
  obtain ⟨Z, env, d, env', r, e, q⟩ := h
  obtain ⟨⟨x, e1⟩, h1, e⟩ := bnd e
  obtain ⟨d', h2, e⟩ := mpd e
  cases e
  obtain ⟨a, o, t1, t2, t3, t4⟩ := ht
  rw [hm] at t1
  cases t1
  have ew : w = .ref a := by
    cases w <;> first | (cases hw; rfl) | (obtain ⟨_, z⟩ := hw; cases z) | cases hw
  subst ew
  refine ⟨.inr (.inl ⟨rfl, o, t2, t3, t4⟩), Z, env, x, e1, r, h1, fun v Z1 H1 r1 s1 d1 => ?_⟩
  have hc1 := hc Z1
  match c, x, hc1, d1, h2 with
  | .tuple ds, .str k, hc1, d1, h2 =>
    obtain ⟨xs, h3, hh⟩ := bnd h2
    clear h2
    cases strsL_of h3
    obtain ⟨i, h4, hf⟩ := mpd hh
    cases hf
    cases d1
    cases hc1 with
    | @tup _ vs _ hx dx =>
      cases dds_strsV dx
      obtain ⟨k1, k2⟩ := idxS_is h4
      exact ⟨a, xs, k, i, rfl, rfl, same_sqT r1.zh hx, k1, k2, q _ Z1 H1 r1 s1 (.int _)⟩
omit [Lab] in
theorem cTup {K : PySem.W.Frag} {h : Heap} {mg : Str → Option Value} (X : K.In h) (G : h.Ns mainGlobals mg) {x : Str} {p : Addr} {oc : Value} {od : Option Addr} {its : Array Value} {n : Nat} {sl : Array (Option Value)} (a : PySem.W.nsIn K mainGlobals x = some (some (.ref p)))
    (l : K.lookup p = some ⟨oc, od, .seq its n, sl⟩) (hc : oc = .type "tuple") (hd : od = none) : TupC K mg x := ⟨p, _, PySem.W.mg_of X G a, l, hc, hd⟩
end
end DL
end L2

set_option Elab.async false
set_option maxRecDepth 100000
set_option maxHeartbeats 4000000
set_option autoImplicit false
namespace L2
namespace DL
open PySem PySem.Spec PyProof.Rows
/-! ### a tuple times an int: also none, also once -/
theorem tmul_self (l : Addr) (xs : Array Value) (n : Nat) (dd : Option Addr) (sl : Array (Option Value)) (x : Int) (u : Tok)
    (c0 : (decide (x < -(2 ^ 63)) || decide (x ≥ 2 ^ 63)) = false) (c1 : (xs.isEmpty || x == 1) = true) :
    Meets (Builtin.«tuple.__mul__» ⟨[.ref l, .int x u], []⟩) (fun _ R s =>
      s.heap.get? l = some { cls := .type "tuple", dict := dd, data := .seq xs n, slots := sl } ∧ R (.ok (.ret (.ref l))) s) :=
  .of_wp fun prog w A R s h => by
    obtain ⟨hp, g, d, tk, os⟩ := s
    obtain ⟨hl, h⟩ := h
    have fi := AutoSeq1.idx_int
    wp_walk using wpAny_loadPart' hl
    refine wpAny_ite_false (decide_eq_false (by rw [c0]; decide)) ?_
    wp_walk using wpAny_loadPart' hl
    exact ⟨_, rfl, h⟩
section
variable [Lab]
variable {X : Cx} {F : Fm}
def rep2D : PyData → PyData → Option PyData
  | .tuple xs, .int k => if 1 ≤ k ∧ k ≤ 1000 ∧ xs.length ≤ 1000 then some (.tuple (List.replicate k.toNat xs).flatten) else none
  | _, _ => none
theorem flat_one {α : Type} (xs : List α) : (List.replicate 1 xs).flatten = xs := by simp
theorem flat_none {α : Type} : ∀ n : Nat, (List.replicate n ([] : List α)).flatten = []
  | 0 => rfl
  | n + 1 => by rw [List.replicate_succ, List.flatten_cons, flat_none n]; rfl
theorem od_rep2 : OpD X (binaryOp .Mult) rep2D := by
  intro pins s σ H x y v u Q I rx ry h
  obtain ⟨Z, a, b, d, sz, ha, hb, e, q⟩ := h
  match a, b, ha, hb, e with
  | .tuple ds, .int k, ha, hb, e =>
    change (if 1 ≤ k ∧ k ≤ 1000 ∧ ds.length ≤ 1000 then some (PyData.tuple (List.replicate k.toNat ds).flatten) else none) = some d at e
    split at e
    case isFalse => cases e
    rename_i hc
    by_cases hg : ds ≠ [] ∧ 2 ≤ k
    · refine od_repT pins s σ H x y v u Q I rx ry ⟨Z, .tuple ds, .int k, d, sz, ha, hb, ?_, q⟩
      rw [← e]
      exact if_pos ⟨hg.1, hg.2, hc.2.1, hc.2.2⟩
    · cases e
      cases hb.int_inv
      have heq : (List.replicate k.toNat ds).flatten = ds := by
        by_cases hd : ds = []
        · rw [hd, flat_none]
        · have : k = 1 := by
            have : ¬ 2 ≤ k := fun z => hg ⟨hd, z⟩
            omega
          rw [this]
          exact flat_one ds
      rw [heq] at q
      cases ha with
      | @tup l xs _ hr hd =>
        have hl := dds_len hd
        cases rx
        obtain ⟨t, rfl⟩ := ry
        obtain ⟨its, r, ⟨⟨cls, dd, data, sl⟩, ho, hcl, n, hdd⟩, hs⟩ := I.tuple (same_sqT sz hr)
        simp only at hcl hdd
        subst hcl hdd
        have hle : its.length = ds.length := by rw [← r.length, hl]
        have c0 : (decide (k < -(2 ^ 63)) || decide (k ≥ 2 ^ 63)) = false := by
          rw [decide_eq_false (by omega), Bool.false_or]
          exact decide_eq_false (by omega)
        have c1 : (its.toArray.isEmpty || k == 1) = true := by
          by_cases hd0 : ds = []
          · have : its = [] := List.eq_nil_of_length_eq_zero (by rw [hle, hd0]; rfl)
            rw [this]
            rfl
          · have : k = 1 := by
              have : ¬ 2 ≤ k := fun z => hg ⟨hd0, z⟩
              omega
            rw [this]
            exact Bool.or_true _
        refine wpAny_binaryOp_repeat_ref (T := "tuple") (U := "int") (by decide) ⟨_, ho, rfl⟩ (fun s' => typeIs_int s' k t) noFill_tuple_mul F.fills_int_mul F.slot_int_rmul repeat_tuple F.slot_int_index.lookup
          (call_meets F.slot_int_rmul (typeIs_int s k t) F.entry_int_rmul (F.args_int_rmul_2 _ _) (int_rmul_tuple k t l its.toArray n dd sl)
            ⟨ho, rfl, ⟨_, ho, rfl⟩, call_meets F.slot_tuple_mul ⟨_, ho, rfl⟩ F.entry_tuple_mul (F.args_tuple_mul_2 _ _) (tmul_self l its.toArray n dd sl k t c0 c1) ⟨ho, ?_⟩⟩)
        exact ⟨.ref l, H, I, rfl, q _ Z H (Grow.refl sz) (.tup hr hd)⟩
/-! ### great ints -/
abbrev cMulB (i j : Int) : Bool := decide (i.natAbs < 10 ^ 200) && decide (j.natAbs < 10 ^ 200)
abbrev mulBD := intD cMulB fun i j => .int (i * j)
theorem od_mulB : OpD X (binaryOp .Mult) mulBD := od_int op_mulX (fun i j h => by
  rw [cMulB, Bool.and_eq_true, decide_eq_true_eq, decide_eq_true_eq] at h
  have p : (10 : Nat) ^ 200 < 2 ^ 700 := by decide +kernel
  exact mulx_ok (a := 700) (b := 700) (Nat.lt_trans h.1 p) (Nat.lt_trans h.2 p) (by decide)) fun _ _ _ _ => .int _
abbrev cDivB (_ j : Int) : Bool := decide (0 < j) && decide (j < 10000000000000000000000000000000000000000)
def divmodB : List PyData → Option PyData
  | [.int i, .int j] => if cDivB i j then some (.tuple [.int (i / j), .int (i % j)]) else none
  | _ => none
theorem cd_divmodB : CallD X (.builtin "divmod") divmodB := by
  intro pins s σ H xs us Q I r h
  obtain ⟨Z, ds, d, sz, hd, e, q⟩ := h
  match ds, hd, e with
  | [.int i, .int j], hd, e =>
    change (if cDivB i j then some (PyData.tuple [.int (i / j), .int (i % j)]) else none) = some d at e
    split at e
    case isFalse => cases e
    rename_i hc
    rw [cDivB, Bool.and_eq_true, decide_eq_true_eq, decide_eq_true_eq] at hc
    cases e
    obtain ⟨v, w, rfl, h1, h2⟩ := dds2 hd
    cases h1.int_inv
    cases h2.int_inv
    have hb : CDivP i j := ⟨hc.1, PyProof.noPylong_of_log2 (by
      refine Nat.lt_of_lt_of_le (PySem.Flt.log2_lt_of (k := 200) (by decide) ?_) (by decide)
      have p : (10000000000000000000000000000000000000000 : Nat) < 2 ^ 200 := by decide +kernel
      have : j.natAbs < 10000000000000000000000000000000000000000 := by omega
      omega)⟩
    exact call_divmodW pins s σ H _ us Q I r ⟨i, j, rfl, hb, fun p hp => q _ _ _ (grow_new sz hp _) (new_tup sz hp (.cons (.int _) (.cons (.int _) .nil)))⟩
/-! ### three at once; bodies that are never reached -/
variable {s : Stmt} {ss : List Stmt} {fa : DEnv → Option (List PyData × DEnv)}
theorem dss_never : PDSs X F ss sNone := pss_imp pss_never fun D σ H h => by
  obtain ⟨Z, env, fl, r, e, q⟩ := h
  cases e
def sPar3 (i j l : Nat) (fa : DEnv → Option (List PyData × DEnv)) (env : DEnv) : Option DFlow := (fa env).bind fun x => match x.1 with
  | [u, v, w] => some (.nx (((x.2.set i (some (.fr u))).set j (some (.fr v))).set l (some (.fr w))))
  | _ => none
theorem ds_par3 (i j l : Nat) (ha : PS X s (tPar3 i j l (tDA X.K F fa))) : PDS X F s (sPar3 i j l fa) := ps_imp ha fun D σ H h => by
  obtain ⟨Z, env, fl, r, e, q⟩ := h
  obtain ⟨⟨d, e1⟩, h1, h⟩ := bnd e
  match d, h, h1 with
  | [u, v, w], h, h1 =>
    cases h
    refine ⟨Z, env, [u, v, w], e1, r, h1, fun vs Z' H' r' s' dd => ?_⟩
    cases dd with
    | cons d1 dr =>
      cases dr with
      | cons d2 dm =>
        cases dm with
        | cons d3 dn =>
          cases dn
          exact ⟨_, _, _, rfl, q _ Z' H' (((r'.store i d1).store j d2).store l d3) s'.z⟩
end
end DL
end L2

set_option Elab.async false
set_option maxRecDepth 100000
set_option maxHeartbeats 4000000
set_option autoImplicit false
namespace L2
namespace DL
open PySem PySem.Spec PyProof.Rows
variable [Lab]
section
variable {X : Cx} {F : Fm} {a b e : Expr} {pos p pn : Pos} {x y : Str} {f g : DEnv → Option (PyData × DEnv)}
/-! ### xs.extend(data) -/
def rExtD (K : PySem.W.Frag) : V → List V → Hp → VK → Prop := fun x vs H Q => ∃ l b xs zs, x = .ref l ∧ vs = [.ref b] ∧ H l = some (.lst xs) ∧ LsR K H b zs ∧ xs.length + zs.length ≤ sizeLine ∧ Q .non (upd H l (.lst (xs ++ zs)))
theorem mt_extD : MtM X "list.extend" (rExtD X.K) := by
  intro pins s σ H x vs v us Q I rx rv h
  obtain ⟨l, b, xs, zs, rfl, rfl, hH, hB, hz, q⟩ := h
  cases rx
  obtain ⟨u, e0, ru⟩ := rv.one
  subst e0
  cases ru
  obtain ⟨z, its, n, r, hl, e⟩ := I.lstM hH
  obtain ⟨z2, its2, n2, r2, e2⟩ := hB.isL I
  have hl2 := r2.length
  have big : its.toArray.size + its2.toArray.size ≤ sizeLine := by simp only [List.size_toArray]; omega
  have nol : ¬ (!its.toArray.isEmpty && Builtin.List.listTooLong (its.toArray.size + its2.toArray.size)) = true := by
    rw [notLongL big]; simp
  refine call_meets PySem.F.slot_list_extend ⟨_, e, rfl⟩ PySem.F.entry_list_extend (PySem.F.args_list_extend_2 _ _) (PySem.AutoSeq1.list_extend_list_list_0 l its.toArray n b its2.toArray n2 nol (by simp only [List.size_toArray]; omega) (by omega)) ⟨e, e2, ?_⟩
  exact ⟨.non, _, I.lset (its' := its ++ its2) hH e (by simp) (r.append r2) (by simp only [List.length_append]; omega), rfl, q⟩
def sExt (j : Nat) (f : DEnv → Option (PyData × DEnv)) (env : DEnv) : Option DFlow :=
  (rdO j env).bind fun _ => (f env).bind fun x => (rdO j x.2).bind fun es => match x.1 with
    | .list zs => if es.length + zs.length ≤ lim then some (.nx (wrO j (es ++ zs) x.2)) else none
    | _ => none
theorem ds_extend (j : Nat) (ha : PD X F e f) (hN : X.N[j]? = some y := by rfl) (hv : Vis X.env.scope y := by first | exact Or.inl rfl | exact Or.inr (Or.inl rfl) | exact Or.inr (Or.inr rfl)) (hd : (y == ("__debug__" : Str)) = false := by decide)
    (hcd : (y == ("__classdict__" : Str)) = false := by decide) {cpos : Pos}
    (hfew : ((backTo cpos (starEach [e] X.env)).all (fun x => !x.1) && (backToKw cpos (keywordEach [] X.env)).all (fun x => x.1.isSome)
      && decide ([e].length + ([] : List Keyword).length + (if ([] : List Keyword).isEmpty then 0 else 1) < 30)) = true := by rfl)
    (hline : (p.endLine == cpos.line) = true := by rfl) (hs : starEach [e] X.env = (false, eval e X.env) :: starEach [] X.env := by rfl) (hplain : (backTo cpos (starEach [] X.env)).any (·.1) = false := by rfl)
    (hsw : swapsWith (.Call (.Attribute (.Name y pn) "extend" p) [e] [] cpos) none pos.line X.env = pure false := by rfl) :
    PDS X F (.Expr (.Call (.Attribute (.Name y pn) "extend" p) [e] [] cpos) pos) (sExt j f) :=
  ps_imp (ps_expr (pe_bm PySem.F.plainAttrs_list PySem.F.slot_list_extend PySem.F.type_list_extend mt_extD (pe_var hN hv hd hcd) (pa_cons ha pa_nil hs) rfl hfew hline hs hplain) hsw) fun D σ H h => by
  obtain ⟨Z, env, fl, r, e, q⟩ := h
  obtain ⟨z0, h0, e⟩ := bnd e
  obtain ⟨⟨d, e1⟩, h1, h⟩ := bnd e
  obtain ⟨zs, h2, hh⟩ := bnd h
  clear h
  match d, h1, hh with
  | .list ws, h1, hh =>
    dsimp only at hh
    split at hh
    case isFalse => cases hh
    rename_i hz
    cases hh
    obtain ⟨p, xs, sj, _, hp0, _, _⟩ := r.poke h0
    refine ⟨.ref p, sj, own_ty hp0, Z, env, .list ws, e1, r, h1, fun v Z1 H1 r1 s1 d1 => ?_⟩
    obtain ⟨p', xs', sj', zp, hp, dp, fin⟩ := r1.poke h2
    rw [sj] at sj'
    cases sj'
    cases d1 with
    | @lst b ys _ hb db =>
      have l1 := dds_len dp
      have l2 := dds_len db
      have hlim : lim = 100000 := rfl
      have hsl := lim_le
      refine ⟨p, b, xs', ys, rfl, rfl, hp, same_ls r1.zh hb, by omega, ?_⟩
      obtain ⟨b1, b2⟩ := fin Z1 (upd H1 p (.lst (xs' ++ ys))) _ (zs ++ ws) (pok_upd r1.zh zp hp _) upd_same (dds_app dp db)
      exact q σ Z1 _ b1 (s1.trans b2).z
/-! ### xs.pop() -/
def sPop0 (j : Nat) (env : DEnv) : Option DFlow := (rdO j env).bind fun es => if es.isEmpty then none else some (.nx (wrO j es.dropLast env))
theorem dds_dropLast {K : PySem.W.Frag} {Z : Hp} {vs : List V} {ds : List PyData} (h : DDs K Z vs ds) : DDs K Z vs.dropLast ds.dropLast := by
  rw [List.dropLast_eq_take, List.dropLast_eq_take, dds_len h]
  exact dds_take _ h
theorem ds_pop0 (j : Nat) (hN : X.N[j]? = some y := by rfl) (hv : Vis X.env.scope y := by first | exact Or.inl rfl | exact Or.inr (Or.inl rfl) | exact Or.inr (Or.inr rfl)) (hd : (y == ("__debug__" : Str)) = false := by decide)
    (hcd : (y == ("__classdict__" : Str)) = false := by decide) {cpos : Pos} (hline : (p.endLine == cpos.line) = true := by rfl)
    (hsw : swapsWith (.Call (.Attribute (.Name y pn) "pop" p) [] [] cpos) none pos.line X.env = pure false := by rfl) :
    PDS X F (.Expr (.Call (.Attribute (.Name y pn) "pop" p) [] [] cpos) pos) (sPop0 j) :=
  ps_imp (ps_expr (pe_bm0 PySem.F.plainAttrs_list PySem.F.slot_list_pop PySem.F.type_list_pop mt_pop (pe_var hN hv hd hcd) rfl hline) hsw) fun D σ H h => by
  obtain ⟨Z, env, fl, r, e, q⟩ := h
  obtain ⟨zs, h0, hh⟩ := bnd e
  clear e
  split at hh
  case isTrue => cases hh
  rename_i hne
  cases hh
  obtain ⟨p, xs, sj, zp, hp, dp, fin⟩ := r.poke h0
  have l1 := dds_len dp
  have h1 : 0 < xs.length := by
    cases zs with
    | nil => simp at hne
    | cons _ _ => rw [l1]; simp
  refine ⟨.ref p, sj, own_ty hp, p, xs, xs[xs.length - 1], rfl, rfl, hp, List.getElem?_eq_getElem _, ?_⟩
  obtain ⟨b1, b2⟩ := fin Z (upd H p (.lst xs.dropLast)) _ zs.dropLast (pok_upd r.zh zp hp _) upd_same (dds_dropLast dp)
  exact q σ Z _ b1 b2.z
/-! ### truth of a slot's list, as it stands -/
def fTruN (i : Nat) (env : DEnv) : Option (Bool × DEnv) := (rdB i env).bind fun d => (truthD d).map fun k => (k, env)
theorem pdt_name (i : Nat) (hN : X.N[i]? = some x := by rfl) (hv : Vis X.env.scope x := by first | exact Or.inl rfl | exact Or.inr (Or.inl rfl) | exact Or.inr (Or.inr rfl)) (hd : (x == ("__debug__" : Str)) = false := by decide)
    (hcd : (x == ("__classdict__" : Str)) = false := by decide) (he : ∀ whole, isTrue (.Name x pos) X.env whole = (do let v ← whole; standAt (Expr.Name x pos).pos; holding [v] (truthy v)) := by intro _; rfl) : PDT X F (.Name x pos) (fTruN i) :=
  pt_imp (pt_truth (pe_var hN hv hd hcd) he) fun σ H Q h => by
    obtain ⟨Z, env, d, env', r, e, q⟩ := h
    obtain ⟨w, h1, h⟩ := bnd e
    obtain ⟨k, h2, h⟩ := mpd h
    cases h
    obtain ⟨v, ev, dv⟩ := r.rdB h1
    exact ⟨v, ev, d, truth_ok dv h2, q Z H r Stp.refl⟩
/-! ### xs.index(data) -/
def idxE : List PyData → PyData → Option Nat
  | [], _ => none
  | z :: zs, d => if PyData.eqv z d then some 0 else (idxE zs d).map (· + 1)
theorem idxE_is : ∀ {zs : List PyData} {d : PyData} {j : Nat}, idxE zs d = some j → (∃ z, zs[j]? = some z ∧ PyData.eqv z d = true) ∧ ∀ (m : Nat) (z' : PyData), m < j → zs[m]? = some z' → PyData.eqv z' d = false
  | [], _, _, h => by cases h
  | z :: zs, d, j, h => by
    unfold idxE at h
    split at h
    · rename_i c; cases h; exact ⟨⟨z, rfl, c⟩, fun m _ hm => absurd hm (Nat.not_lt_zero _)⟩
    · rename_i c
      obtain ⟨i, h1, rfl⟩ := mpd h
      obtain ⟨⟨w, a1, a2⟩, b⟩ := idxE_is h1
      refine ⟨⟨w, by simpa using a1, a2⟩, fun m z' hm hz => ?_⟩
      cases m with
      | zero => simp at hz; subst hz; simpa using c
      | succ m => exact b m z' (by omega) (by simpa using hz)
def fIdxD (j : Nat) (f : DEnv → Option (PyData × DEnv)) (env : DEnv) : Option (PyData × DEnv) :=
  (rdO j env).bind fun _ => (f env).bind fun x => (rdO j x.2).bind fun es => if shD (.list es) && shD x.1 then (idxE es x.1).map fun i => (.int (i : Nat), x.2) else none
theorem pd_idxD {k : Nat} (hr : Room k X.A) (j : Nat) (ha : PD X F e f) (hN : X.N[j]? = some y := by rfl) (hv : Vis X.env.scope y := by first | exact Or.inl rfl | exact Or.inr (Or.inl rfl) | exact Or.inr (Or.inr rfl)) (hd : (y == ("__debug__" : Str)) = false := by decide)
    (hcd : (y == ("__classdict__" : Str)) = false := by decide)
    (hfew : ((backTo pos (starEach [e] X.env)).all (fun x => !x.1) && (backToKw pos (keywordEach [] X.env)).all (fun x => x.1.isSome)
      && decide ([e].length + ([] : List Keyword).length + (if ([] : List Keyword).isEmpty then 0 else 1) < 30)) = true := by rfl)
    (hline : (p.endLine == pos.line) = true := by rfl) (hs : starEach [e] X.env = (false, eval e X.env) :: starEach [] X.env := by rfl) (hplain : (backTo pos (starEach [] X.env)).any (·.1) = false := by rfl) :
    PD X F (.Call (.Attribute (.Name y pn) "index" p) [e] [] pos) (fIdxD j f) :=
  pe_imp (pe_bm PySem.F.plainAttrs_list PySem.F.slot_list_index PySem.F.type_list_index (mt_indexD (by have := hr.un; omega)) (pe_var hN hv hd hcd) (pa_cons ha pa_nil hs) rfl hfew hline hs hplain) fun σ H Q h => by
  obtain ⟨Z, env, d, env', r, e, q⟩ := h
  obtain ⟨z0, h0, e⟩ := bnd e
  obtain ⟨⟨x, e1⟩, h1, h⟩ := bnd e
  obtain ⟨zs, h2, hh⟩ := bnd h
  clear h
  dsimp only at hh
  split at hh
  case isFalse => cases hh
  rename_i hsh
  obtain ⟨i, h3, h4⟩ := mpd hh
  obtain ⟨rfl, rfl⟩ := Prod.mk.inj h4
  rw [Bool.and_eq_true] at hsh
  obtain ⟨p, xs, sj, _, hp0, _, _⟩ := r.poke h0
  refine ⟨.ref p, sj, own_ty hp0, Z, env, x, e1, r, h1, fun v Z1 H1 r1 s1 d1 => ?_⟩
  obtain ⟨p', xs', sj', zp, hp, dp, fin⟩ := r1.poke h2
  rw [sj] at sj'
  cases sj'
  obtain ⟨⟨w, k1, k2⟩, k3⟩ := idxE_is h3
  have dl : DD X.K H1 (.ref p) (.list zs) := .lst (.inl (Rd.of hp)) (DDsm dp r1.zh)
  unfold shD at hsh
  simp only [Bool.and_eq_true, Bool.not_eq_true'] at hsh
  exact ⟨p, v, x, zs, i, w, rfl, rfl, dl.dp _ _ hsh.1.2, (DDm d1 r1.zh).dp _ _ hsh.2.2, hsh.1.1, hsh.2.1, k1, k2, k3, q _ Z1 H1 r1 s1 (.int _)⟩
/-! ### [x] * n -/
def repLD : PyData → PyData → Option PyData
  | .list [d], .int n => if 0 ≤ n ∧ n ≤ 1000 then some (.list (List.replicate n.toNat d)) else none
  | _, _ => none
end
omit [Lab] in
theorem cTup1 [LabW] {K : PySem.W.Frag} {h : Heap} {mg : Str → Option Value} (X : K.In h) (G : h.Ns mainGlobals mg) {x : Str} {p q : Addr} {oc oc2 : Value} {od od2 : Option Addr} {its its2 : Array Value} {n n2 : Nat} {sl sl2 : Array (Option Value)} {ss : List Str} (a : PySem.W.nsIn K mainGlobals x = some (some (.ref p)))
    (l : K.lookup p = some ⟨oc, od, .seq its n, sl⟩) (hc : oc = .type "tuple") (hz : its.size ≤ sizeLine) (hi : its.toList = [.ref q])
    (l2 : K.lookup q = some ⟨oc2, od2, .seq its2 n2, sl2⟩) (hc2 : oc2 = .type "tuple") (hz2 : its2.size ≤ sizeLine) (hv : Vals (ss.map V.str) its2.toList) : ∃ uv : Value × V, mg x = some uv.1 ∧ RelV uv.2 uv.1 ∧ ∀ Z, DD K Z uv.2 (.tuple [.tuple (ss.map PyData.str)]) := by
  refine ⟨(.ref p, .ref p), PySem.W.mg_of X G a, rfl, fun Z => .tup (xs := [.ref q]) (.inr ⟨_, its, n, l, hc, rfl, hz, by rw [hi]; exact .cons rfl .nil⟩) (.cons (.tup (.inr ⟨_, its2, n2, l2, hc2, rfl, hz2, hv⟩) ?_) .nil)⟩
  clear hv
  induction ss with
  | nil => exact .nil
  | cons s ss ih => exact .cons (.str s) ih
end DL
end L2

set_option Elab.async false
set_option maxRecDepth 100000
set_option maxHeartbeats 4000000
set_option autoImplicit false
namespace L2
namespace DL
open PySem PySem.Spec PyProof.Rows
variable [Lab]
/-! ### evaluating, once more -/
theorem ev_tup {fa : DEnv → Option (List PyData × DEnv)} {env e1 : DEnv} {ds : List PyData} (h : fa env = some (ds, e1)) (h2 : ds.length ≤ lim) : fTup fa env = some (.tuple ds, e1) := by
  unfold fTup; rw [h]; exact if_pos h2
theorem ev_c {env : DEnv} (d : PyData) : fC d env = some (d, env) := rfl
theorem ev_ixN {j : Nat} {f : DEnv → Option (PyData × DEnv)} {env e1 : DEnv} {d0 d i z : PyData} (h0 : rdB j env = some d0) (h : f env = some (i, e1)) (h1 : rdB j e1 = some d) (h2 : ixD d i = some z) : fIxN j f env = some (z, e1) := by
  unfold fIxN; rw [h0]; show (f env).bind _ = _; rw [h]; show (rdB j e1).bind _ = _; rw [h1]; show (ixD d i).map _ = _; rw [h2]; rfl
theorem ev_andV {f g : DEnv → Option (PyData × DEnv)} {env e1 : DEnv} {r : Option (PyData × DEnv)} (h : f env = some (.bool true, e1)) (h2 : g e1 = r) : fAndV f g env = r := by
  unfold fAndV; rw [h]; exact h2
theorem ev_andV0 {f g : DEnv → Option (PyData × DEnv)} {env e1 : DEnv} (h : f env = some (.bool false, e1)) : fAndV f g env = some (.bool false, e1) := by
  unfold fAndV; rw [h]; rfl
theorem ev_orV1 {f g : DEnv → Option (PyData × DEnv)} {env e1 : DEnv} (h : f env = some (.bool true, e1)) : fOrV f g env = some (.bool true, e1) := by
  unfold fOrV; rw [h]; rfl
theorem ev_orV0 {f g : DEnv → Option (PyData × DEnv)} {env e1 : DEnv} {r : Option (PyData × DEnv)} (h : f env = some (.bool false, e1)) (h2 : g e1 = r) : fOrV f g env = r := by
  unfold fOrV; rw [h]; exact h2
theorem ev_iArg {o : List PyData → Option (List PyData)} {fa : DEnv → Option (List PyData × DEnv)} {env e1 : DEnv} {ds r : List PyData} (h : fa env = some (ds, e1)) (h2 : o ds = some r) : iArg o fa env = some (r, e1) := by
  unfold iArg; rw [h]; show (o ds).map _ = _; rw [h2]; rfl
theorem ev_oS {f : DEnv → Option (PyData × DEnv)} {env e1 : DEnv} {i : Int} (h : f env = some (.int i, e1)) : oSome f env = some (some i, e1) := by
  unfold oSome; rw [h]; rfl
theorem ev_sl {f : DEnv → Option (PyData × DEnv)} {fl fh : DEnv → Option (Option Int × DEnv)} {env e1 e2 e3 : DEnv} {a d : PyData} {l h : Option Int} (h1 : f env = some (a, e1)) (h2 : fl e1 = some (l, e2)) (h3 : fh e2 = some (h, e3)) (h4 : slD a l h = some d) : fSl f fl fh env = some (d, e3) := by
  unfold fSl; rw [h1]; show (fl e1).bind _ = _; rw [h2]; show (fh e2).bind _ = _; rw [h3]; show (slD a l h).map _ = _; rw [h4]; rfl
theorem ev_lenN {j : Nat} {env : DEnv} {d n : PyData} (h : rdB j env = some d) (h2 : lenD [d] = some n) : fLenN j env = some (n, env) := by
  unfold fLenN; rw [h]; show (lenD [d]).map _ = _; rw [h2]; rfl
theorem ev_truN {j : Nat} {env : DEnv} {d : PyData} {k : Bool} (h : rdB j env = some d) (h2 : truthD d = some k) : fTruN j env = some (k, env) := by
  unfold fTruN; rw [h]; show (truthD d).map _ = _; rw [h2]; rfl
theorem ev_iff {ft : DEnv → Option (Bool × DEnv)} {f g : DEnv → Option (PyData × DEnv)} {env e1 : DEnv} {k : Bool} {r : Option (PyData × DEnv)} (h : ft env = some (k, e1)) (h2 : (if k then f e1 else g e1) = r) : fIf ft f g env = r := by
  unfold fIf; rw [h]; exact h2
theorem ev_app {j : Nat} {f : DEnv → Option (PyData × DEnv)} {env e1 e2 : DEnv} {es0 es : List PyData} {d : PyData} (h0 : rdO j env = some es0) (h : f env = some (d, e1)) (h1 : rdO j e1 = some es) (hl : es.length < lim) (he : wrO j (es ++ [d]) e1 = e2) : sApp j f env = some (.nx e2) := by
  unfold sApp; rw [h0]; show (f env).bind _ = _; rw [h]; show (rdO j e1).bind _ = _; rw [h1]; show (if es.length < lim then _ else _) = _; rw [if_pos hl, he]
theorem ev_ext {j : Nat} {f : DEnv → Option (PyData × DEnv)} {env e1 e2 : DEnv} {es0 es zs : List PyData} (h0 : rdO j env = some es0) (h : f env = some (.list zs, e1)) (h1 : rdO j e1 = some es) (hl : es.length + zs.length ≤ lim) (he : wrO j (es ++ zs) e1 = e2) : sExt j f env = some (.nx e2) := by
  unfold sExt; rw [h0]; show (f env).bind _ = _; rw [h]; show (rdO j e1).bind _ = _; rw [h1]; show (if es.length + zs.length ≤ lim then _ else _) = _; rw [if_pos hl, he]
theorem ev_asg2 {i j : Nat} {f : DEnv → Option (PyData × DEnv)} {env e1 e2 : DEnv} {a b : PyData} (h : f env = some (.tuple [a, b], e1)) (he : (e1.set i (some (.fr a))).set j (some (.fr b)) = e2) : sAsg f (gTupD 2 (gsCons (gSet i) (gsCons (gSet j) gsNil))) env = some (.nx e2) := by
  unfold sAsg; rw [h, ← he]; rfl
theorem ev_expr {f : DEnv → Option (PyData × DEnv)} {env e1 : DEnv} {d : PyData} (h : f env = some (d, e1)) : sExpr f env = some (.nx e1) := by
  unfold sExpr; rw [h]; rfl
theorem ev_setN {i : Nat} {f : DEnv → Option (List PyData × DEnv)} {env e1 e2 : DEnv} {ds : List PyData} (h : f env = some (ds, e1)) (he : e1.set i (some (.ow ds)) = e2) : sSetN i f env = some (.nx e2) := by
  unfold sSetN; rw [h, ← he]; rfl
theorem ev_par {i j : Nat} {fa : DEnv → Option (List PyData × DEnv)} {env e1 e2 : DEnv} {u v : PyData} (h : fa env = some ([u, v], e1)) (he : (e1.set i (some (.fr u))).set j (some (.fr v)) = e2) : sPar i j fa env = some (.nx e2) := by
  unfold sPar; rw [h, ← he]; rfl
theorem ev_forC {g : PyData → DEnv → Option DEnv} {b : DEnv → Option DFlow} {d : PyData} {ds : List PyData} {env e1 e2 : DEnv} {fl : DFlow} (hg : g d env = some e1) (hb : b e1 = some (.ct e2)) (h : forD g b ds e2 = some fl) : forD g b (d :: ds) env = some fl := by
  rw [forD, hg]; show (b e1).bind _ = _; rw [hb]; exact h
theorem ev_seqC {f g : DEnv → Option DFlow} {env e1 : DEnv} (h : f env = some (.ct e1)) : sSeq f g env = some (.ct e1) := by
  unfold sSeq; rw [h]; rfl
theorem ev_add {a b : List PyData} (h : a.length + b.length ≤ lim) : addD (.tuple a) (.tuple b) = some (.tuple (a ++ b)) := if_pos h
theorem ev_addL {a b : List PyData} (h : a.length + b.length ≤ lim) : addD (.list a) (.list b) = some (.list (a ++ b)) := if_pos h
theorem ev_nAdd {f g : DEnv → Option (PyData × DEnv)} {env e1 e2 : DEnv} {a b : List PyData} (h : f env = some (.list a, e1)) (h2 : g e1 = some (.list b, e2)) (hl : a.length + b.length ≤ lim) : nAdd f g env = some (a ++ b, e2) := by
  unfold nAdd; rw [h]; show (g e1).bind _ = _; rw [h2]; exact if_pos hl
/-- a comprehension over images, with a test -/
theorem lc_flt {α : Type} {i : Nat} {ft : DEnv → Option (Bool × DEnv)} {fe : DEnv → Option (PyData × DEnv)} {e q : α → PyData} {p : α → Bool} {env : DEnv} (hw : env.set i none = env) : ∀ xs : List α, (∀ x ∈ xs, ft (env.set i (some (.fr (e x)))) = some (p x, env.set i (some (.fr (e x))))) →
    (∀ x ∈ xs, p x = true → fe (env.set i (some (.fr (e x)))) = some (q x, env.set i (some (.fr (e x))))) → lcD (gSet i) ft fe [i] (xs.map e) env = some ((xs.filter p).map q, env)
  | [], _, _ => rfl
  | x :: xs, h1, h2 => by
    have ih := lc_flt hw xs (fun y hy => h1 y (List.mem_cons_of_mem _ hy)) fun y hy => h2 y (List.mem_cons_of_mem _ hy)
    rw [List.map_cons, lcD]
    show (ft (env.set i (some (.fr (e x))))).bind _ = _
    rw [h1 x List.mem_cons_self]
    show (if p x = true then _ else _) = _
    cases hp : p x with
    | true =>
      rw [if_pos rfl, List.filter_cons_of_pos hp]
      show (fe (env.set i (some (.fr (e x))))).bind _ = _
      rw [h2 x List.mem_cons_self hp]
      show (lcD (gSet i) ft fe [i] (xs.map e) ((env.set i (some (.fr (e x)))).set i none)).map _ = _
      rw [List.set_set, hw, ih]
      rfl
    | false =>
      rw [if_neg (by decide), List.filter_cons_of_neg (by rw [hp]; decide)]
      show lcD (gSet i) ft fe [i] (xs.map e) ((env.set i (some (.fr (e x)))).set i none) = _
      rw [List.set_set, hw, ih]
theorem lc_img {α : Type} {i : Nat} {fe : DEnv → Option (PyData × DEnv)} {e q : α → PyData} {env : DEnv} (hw : env.set i none = env) (xs : List α) (h2 : ∀ x ∈ xs, fe (env.set i (some (.fr (e x)))) = some (q x, env.set i (some (.fr (e x))))) : lcD (gSet i) fYes fe [i] (xs.map e) env = some (xs.map q, env) := by
  have := lc_flt (ft := fYes) (p := fun _ => true) hw xs (fun _ _ => rfl) fun x hx _ => h2 x hx
  rwa [List.filter_eq_self.mpr (fun _ _ => rfl)] at this
theorem ev_lc {fi : DEnv → Option (List PyData × DEnv)} {g : PyData → DEnv → Option DEnv} {ft : DEnv → Option (Bool × DEnv)} {fe : DEnv → Option (PyData × DEnv)} {vs : List Nat} {env e1 e2 e3 : DEnv} {ds rs : List PyData} (h : fi env = some (ds, e1)) (hl : ds.length ≤ lim) (hw : wipeE e1 vs = e2) (h2 : lcD g ft fe vs ds e2 = some (rs, e3)) : nLc fi g ft fe vs env = some (rs, e3) := by
  unfold nLc; rw [h]; show (if ds.length ≤ lim then _ else _) = _; rw [if_pos hl, hw, h2]
/-! ### equal data, where there are no truths and no dicts -/
mutual
def nbD : PyData → Bool
  | .none => true
  | .int _ => true
  | .str _ => true
  | .list ds => nbDs ds
  | .tuple ds => nbDs ds
  | _ => false
def nbDs : List PyData → Bool
  | [] => true
  | d :: ds => nbD d && nbDs ds
end
mutual
theorem eqv_nb : ∀ (x y : PyData), nbD x = true → nbD y = true → PyData.eqv x y = true → x = y
  | .none, y, _, hy, h => by cases y <;> first | rfl | cases h
  | .int i, y, _, hy, h => by
    cases y with
    | int j => rw [PyData.eqv, beq_iff_eq] at h; rw [h]
    | bool _ => cases hy
    | _ => cases h
  | .str i, y, _, hy, h => by
    cases y with
    | str j => rw [PyData.eqv, beq_iff_eq] at h; rw [h]
    | _ => cases h
  | .list xs, y, hx, hy, h => by
    cases y with
    | list ys => rw [PyData.eqv] at h; rw [eqvAll_nb xs ys hx hy h]
    | _ => cases h
  | .tuple xs, y, hx, hy, h => by
    cases y with
    | tuple ys => rw [PyData.eqv] at h; rw [eqvAll_nb xs ys hx hy h]
    | _ => cases h
theorem eqvAll_nb : ∀ (xs ys : List PyData), nbDs xs = true → nbDs ys = true → PyData.eqvAll xs ys = true → xs = ys
  | [], ys, _, _, h => by
    cases ys with
    | nil => rfl
    | cons _ _ => cases h
  | x :: xs, ys, hx, hy, h => by
    cases ys with
    | nil => cases h
    | cons y ys =>
      rw [PyData.eqvAll, Bool.and_eq_true] at h
      rw [nbDs, Bool.and_eq_true] at hx hy
      rw [eqv_nb x y hx.1 hy.1 h.1, eqvAll_nb xs ys hx.2 hy.2 h.2]
end
theorem nbDs_all : ∀ {ds : List PyData}, (∀ d ∈ ds, nbD d = true) → nbDs ds = true
  | [], _ => rfl
  | d :: ds, h => by rw [nbDs, h d List.mem_cons_self, nbDs_all fun x hx => h x (List.mem_cons_of_mem _ hx)]; rfl
/-- == of two such -/
theorem eqB_nb {k k' : Nat} {a b : PyData} (ha : Ly k a) (hb : Ly k' b) (hk : k ≤ 64) (hk' : k' ≤ 64) (na : nbD a = true) (nb : nbD b = true) : ∃ r, eqB a b = some r ∧ (r = true ↔ a = b) := by
  have deep : eqB a b = some (PyData.eqv a b) → ∃ r, eqB a b = some r ∧ (r = true ↔ a = b) := fun e => ⟨_, e, fun h => eqv_nb a b na nb h, fun h => by rw [h]; exact SeqAt.eqv_refl _ hb.lay⟩
  have sh : (if shD a && shD b then some (PyData.eqv a b) else none) = some (PyData.eqv a b) := by
    rw [ha.sh hk, hb.sh hk']; rfl
  unfold eqB at deep ⊢
  split
  · exact ⟨_, rfl, by rw [decide_eq_true_eq]; exact ⟨fun h => by rw [h], fun h => PyData.int.inj h⟩⟩
  · exact ⟨_, rfl, by rw [decide_eq_true_eq]; exact ⟨fun h => by rw [h], fun h => PyData.str.inj h⟩⟩
  · exact ⟨_, sh, fun h => eqv_nb _ _ na nb h, fun h => by rw [h]; exact SeqAt.eqv_refl _ hb.lay⟩
theorem eqB_self {k : Nat} {a : PyData} (ha : Ly k a) (hk : k ≤ 64) : eqB a a = some true := by
  unfold eqB
  split
  · simp_all
  · simp_all
  · rw [ha.sh hk, SeqAt.eqv_refl _ ha.lay]; rfl
/-! ### what repr writes may be laid -/
theorem ok_app {a b : Str} (ha : PyData.strOk a = true) (hb : PyData.strOk b = true) : PyData.strOk (a ++ b) = true := by
  unfold PyData.strOk at *
  show ((a.cps ++ b.cps).all _) = true
  rw [Array.all_append, ha, hb]
  rfl
theorem ok_of (x : String) : PyData.strOk (Str.ofString x) = true := by
  rw [PyData.strOk, Str.ofString_eq_toList]
  simp only [List.all_toArray, List.all_map, List.all_eq_true]
  intro c _
  have := c.valid
  simp only [Function.comp, decide_eq_true_eq]
  show c.val.toNat < 0x110000
  rcases this with h | h
  · exact Nat.lt_trans h (by decide)
  · exact h.2
theorem ok_join {sep : Str} (hs : PyData.strOk sep = true) : ∀ ts : List Str, (∀ t ∈ ts, PyData.strOk t = true) → PyData.strOk (Str.join sep ts) = true
  | [], _ => by simp [Str.join, Str.empty, PyData.strOk]
  | [x], h => h x List.mem_cons_self
  | x :: y :: r, h => ok_app (ok_app (h x List.mem_cons_self) hs) (ok_join hs (y :: r) fun t ht => h t (List.mem_cons_of_mem _ ht))
theorem ok_from : ∀ (ts : List Str) (k : Nat) (acc : Str), PyData.strOk acc = true → (∀ t ∈ ts, PyData.strOk t = true) → PyData.strOk (textFrom k acc ts) = true
  | [], _, _, h, _ => h
  | t :: r, k, acc, h, hs => ok_from r (k + 1) _ (ok_app (ok_app h (ok_of _)) (hs t List.mem_cons_self)) fun x hx => hs x (List.mem_cons_of_mem _ hx)
/-! all its texts' shown forms may be laid -/
mutual
def wordsOk : PyData → Bool
  | .str x => PyData.strOk (reprText x)
  | .list ds => wordsOkAll ds
  | .tuple ds => wordsOkAll ds
  | .dict _ => false
  | _ => true
def wordsOkAll : List PyData → Bool
  | [] => true
  | d :: ds => wordsOk d && wordsOkAll ds
end
mutual
theorem ok_shown : ∀ d : PyData, wordsOk d = true → PyData.strOk d.shown = true
  | .none, _ => ok_of _
  | .bool b, _ => by cases b <;> exact ok_of _
  | .int i, _ => ok_of _
  | .str x, h => h
  | .list xs, h => ok_app (ok_from _ _ _ (ok_of _) (ok_shownAll xs h)) (ok_of _)
  | .tuple xs, h => ok_app (ok_app (ok_of _) (ok_join (ok_of _) _ (ok_shownAll xs h))) (ok_of _)
  | .dict _, h => nomatch h
theorem ok_shownAll : ∀ ds : List PyData, wordsOkAll ds = true → ∀ t ∈ PyData.shownAll ds, PyData.strOk t = true
  | [], _, _, h => nomatch h
  | d :: ds, h, t, ht => by
    rw [wordsOkAll, Bool.and_eq_true] at h
    rcases List.mem_cons.mp ht with rfl | ht
    · exact ok_shown d h.1
    · exact ok_shownAll ds h.2 t ht
end
theorem wordsOk_all : ∀ {ds : List PyData}, (∀ d ∈ ds, wordsOk d = true) → wordsOkAll ds = true
  | [], _ => rfl
  | d :: ds, h => by rw [wordsOkAll, h d List.mem_cons_self, wordsOk_all fun x hx => h x (List.mem_cons_of_mem _ hx)]; rfl
theorem ly_shown {d : PyData} (h : wordsOk d = true) : Ly 0 (.str d.shown) := ⟨ok_shown d h, rfl, Nat.le_refl _⟩
end DL
end L2

set_option Elab.async false
set_option maxRecDepth 100000
set_option maxHeartbeats 4000000
set_option autoImplicit false
namespace L2
namespace DL
open PySem PySem.Spec PyProof.Rows
variable [Lab]
section
variable {X : Cx} {F : Fm} {a b c e tg iter elt : Expr} {es ifs : List Expr} {pos p pn : Pos} {x y : Str} {f fe : DEnv → Option (PyData × DEnv)} {fa fi : DEnv → Option (List PyData × DEnv)} {ft : DEnv → Option (Bool × DEnv)} {scope : Scope} {ts : List Nat} {g : PyData → DEnv → Option DEnv}
def rdW (j : Nat) (env : DEnv) : Option (List PyData) := match env[j]? with
  | some (some (.ow ds)) => some ds
  | _ => none
/-- a comprehension over an owned list that its parts don't name: the list stays owned -/
def nLcH (j : Nat) (g : PyData → DEnv → Option DEnv) (ft : DEnv → Option (Bool × DEnv)) (fe : DEnv → Option (PyData × DEnv)) (vs : List Nat) (env : DEnv) : Option (List PyData × DEnv) := match rdW j env with
  | some ds => if ds.length ≤ lim then (lcD g ft fe vs ds (wipeE (env.set j none) vs)).map fun r => (r.1, r.2.set j (some (.ow ds))) else none
  | none => nLc (iSeq (rdF j)) g ft fe vs env
theorem Rel.forget {K : PySem.W.Frag} {Z H : Hp} {σ : St} {env : DEnv} (r : Rel K F Z H σ env) (i : Nat) : Rel K F Z H σ (env.set i none) := by
  refine ⟨r.z0, r.zh, r.gh, r.nw, r.pp, by rw [List.length_set]; exact r.len, fun j dv e => ?_, fun a b da db p ea eb oa ob sa sb => ?_, r.tb⟩
  · rcases get_set_some e with ⟨_, z⟩ | ⟨_, z⟩
    · cases z
    · exact r.sl j dv z
  · rcases get_set_some ea with ⟨_, z⟩ | ⟨_, z⟩
    · cases z
    · rcases get_set_some eb with ⟨_, w⟩ | ⟨_, w⟩
      · cases w
      · exact r.inj a b da db p z w oa ob sa sb
theorem Rel.regain {K : PySem.W.Frag} {Z H : Hp} {σ : St} {env : DEnv} {p : Addr} {xs : List V} {ds : List PyData} (r : Rel K F Z H σ env) (i : Nat) (sj : σ[i]? = some (some (V.ref p))) (f : Fre σ env p) (np : ¬ F.P p) (ng : F.G p = none) (hz : Z p = none) (hp : H p = some (.lst xs)) (hd : DDs K Z xs ds) : Rel K F Z H σ (env.set i (some (.ow ds))) := by
  have := r.storeN i f np ng hz hp hd
  rwa [show σ.set i (some (V.ref p)) = σ from by
    obtain ⟨h1, h2⟩ := List.getElem?_eq_some_iff.mp sj
    rw [← h2, List.set_getElem_self]] at this
theorem lc_readH {K : PySem.W.Frag} {ts vs : List Nat} {g : PyData → DEnv → Option DEnv} {fe : DEnv → Option (PyData × DEnv)} (hts : ∀ i ∈ ts, i ∈ vs) (jj : Nat) (hjj : jj ∉ vs) {σ : St} {H : Hp} {Q : VK} {Zx : Hp} {envx : DEnv} {dsx rsx : List PyData} {envx' : DEnv} (rx : Rel K F Zx H σ envx) (ex : rdW jj envx = some dsx) (hlim : dsx.length ≤ lim) (elx : lcD g ft fe vs dsx (wipeE (envx.set jj none) vs) = some (rsx, envx'))
    (qx : ∀ p xs Z' H', Rel K F Z' H' σ (envx'.set jj (some (.ow dsx))) → Stp σ envx Zx H (envx'.set jj (some (.ow dsx))) Z' H' → H p = none → Z' p = none → H' p = some (.lst xs) → DDs K Z' xs rsx → Q (.ref p) H') :
    tLc (iList K (tVar jj)) (tGN K F ts g) (tDT K F ft) (tD K F fe) vs σ H Q := by
  have ej : envx[jj]? = some (some (.ow dsx)) := by
    unfold rdW at ex
    split at ex
    · rename_i z; cases ex; exact z
    · cases ex
  obtain ⟨pp, xs, sj, npp, ngp, zp, hp, dp⟩ := rx.sl jj _ ej
  have r : Rel K F Zx H σ (envx.set jj none) := rx.forget jj
  have frp : Fre σ (envx.set jj none) pp := fun k dv ek ok sk => by
    rcases get_set_some ek with ⟨_, z⟩ | ⟨hne, z⟩
    · cases z
    · exact hne (rx.inj k jj _ _ pp z ej ok rfl sk sj)
  have free0 : ∀ q, Fre σ envx q → Fre σ (envx.set jj none) q := fun q f k dv ek ok => by
    rcases get_set_some ek with ⟨_, z⟩ | ⟨_, z⟩
    · cases z
    · exact f k dv z ok
  have own0 : ∀ (k : Nat) (dv : DV), (envx.set jj none)[k]? = some (some dv) → ownish dv = true → ∃ d0, envx[k]? = some (some d0) ∧ ownish d0 = true := fun k dv ek ok => by
    rcases get_set_some ek with ⟨_, z⟩ | ⟨_, z⟩
    · cases z
    · exact ⟨dv, z, ok⟩
  refine ⟨.ref pp, sj, pp, rfl, ⟨xs, SqL.of hp⟩, fun D hD => ?_⟩
  have hDp : D ≠ pp := fun z => by rw [z, hp] at hD; cases hD
  have zD1 : Zx D = none := r.zh.free hD
  have g1 : Grow Zx H Zx (upd H D (.lst [])) := grow_own r.zh hD _
  have frD : Fre σ (envx.set jj none) D := fre_new r hD
  have wk : Walk (Itl K pp) dsx.length (fun H => SqL K H pp xs) (YAt xs) := (dds_len dp) ▸ walk_list
  refine lc_it wk (fun i Hc => ∃ Zc ec acc ad rest, (Hc pp = some (.lst xs) ∧ Zc pp = none) ∧ Same Zx Zc ∧ Rel K F Zc Hc (wipe σ vs) ec ∧ (∀ (j : Nat) (dv : DV), ec[j]? = some (some dv) → j ∉ vs) ∧ Stp σ (envx.set jj none) Zx H ec Zc Hc ∧ Hc D = some (.lst acc) ∧ Zc D = none ∧ acc.length ≤ i ∧ DDs K Zc acc ad ∧
      lcD g ft fe vs (dsx.drop i) ec = some (rest, envx') ∧ rsx = ad ++ rest) ?_ ?_ ?_ ?_
  · refine ⟨Zx, wipeE (envx.set jj none) vs, [], [], rsx, ⟨by rw [upd_ne (fun z => hDp z.symm)]; exact hp, zp⟩, Same.refl _, (r.grow g1).wipe vs, fun j dv e => (wipeE_in _ _ _ _ e).1, ?_, upd_same, zD1, Nat.le_refl _, .nil, elx, rfl⟩
    have s2 := g1.stp (σ := σ) (env := envx.set jj none)
    exact ⟨s2.z, s2.h, s2.n, fun i dv e o => s2.o i dv (wipeE_in _ _ _ _ e).2 o, s2.k⟩
  · rintro i Hc hi ⟨Zc, ec, acc, ad, rest, hpc, sz, rc, _⟩
    exact SqL.of hpc.1
  · rintro i x Hc H2 hi ⟨Zc, ec, acc, ad, rest, hpc, sz, rc, nv, st, hDc, zDc, hla, dacc, el, eq⟩ y
    obtain ⟨rfl, y⟩ := y
    obtain ⟨d, hd, dd0⟩ := dds_get' dp y
    have dd : DD K Zc x d := DDm dd0 sz
    have ed : dsx.drop i = d :: dsx.drop (i + 1) := by
      obtain ⟨hl, hx⟩ := List.getElem?_eq_some_iff.mp hd
      rw [← hx]
      exact List.drop_eq_getElem_cons hl
    rw [ed] at el
    obtain ⟨e2, g2, el⟩ := bnd el
    obtain ⟨⟨tb, e3⟩, t2, el⟩ := bnd el
    refine ⟨Zc, ec, d, e2, rc, dd, g2, fun σ2 r2 k2 => ⟨?_, ?_⟩⟩
    · rw [wipe_eq (σ := wipe σ vs) (τ := σ2) k2.l (fun j hj => k2.s j fun z => hj (hts j z))]
      exact wipe_eq (wipe_length σ vs) fun j hj => wipe_get σ vs j hj
    have wst : wipe σ2 vs = wipe σ vs := by
      rw [wipe_eq (σ := wipe σ vs) (τ := σ2) k2.l (fun j hj => k2.s j fun z => hj (hts j z))]
      exact wipe_eq (wipe_length σ vs) fun j hj => wipe_get σ vs j hj
    have free2 : ∀ q, Fre σ (envx.set jj none) q → Fre σ2 e2 q := fun q f j dv ej oj sj => by
      obtain ⟨a1, b1⟩ := k2.o j dv ej oj
      obtain ⟨dv0, b2, o2⟩ := st.o j dv b1 oj
      refine f j dv0 b2 o2 ?_
      rw [← wipe_get σ vs j (nv j dv b1), ← k2.s j a1]
      exact sj
    have own2 : ∀ (j : Nat) (dv : DV), e2[j]? = some (some dv) → ownish dv = true → ∃ dv0, (envx.set jj none)[j]? = some (some dv0) ∧ ownish dv0 = true := fun j dv ej oj => by
      obtain ⟨a1, b1⟩ := k2.o j dv ej oj
      exact st.o j dv b1 oj
    have lift : ∀ {e4 : DEnv} {Z4 H4 : Hp}, Stp σ2 e2 Zc H2 e4 Z4 H4 → Stp σ (envx.set jj none) Zx H (wipeE e4 vs) Z4 H4 := fun {e4 Z4 H4} b => by
      refine ⟨st.z.trans b.z, fun q o hq n f => b.h q o (st.h q o hq n f) n (free2 q f), fun q h4 h0 hh f => ?_, fun j dv ej oj => ?_, fun q hq => b.k q (st.k q hq)⟩
      · by_cases hz : Zc q = none
        · exact b.n q h4 hz (st.k q hh) (free2 q f)
        · exact st.n q hz h0 hh f
      · obtain ⟨a1, b1⟩ := b.o j dv (wipeE_in _ _ _ _ ej).2 oj
        exact own2 j a1 b1.1 b1.2
    -- what is held, and what is piled up, stay in such a step
    have stay : ∀ {e4 : DEnv} {Z4 H4 : Hp} {q : Addr} {ys : List V}, Stp σ2 e2 Zc H2 e4 Z4 H4 → Fre σ (envx.set jj none) q → H2 q = some (.lst ys) → Zc q = none → H4 q = some (.lst ys) ∧ Z4 q = none := fun {e4 Z4 H4 q ys} b f hq zq => by
      refine ⟨b.h q _ hq nt_lst (free2 q f), ?_⟩
      cases hh : Z4 q with
      | none => rfl
      | some o => exact absurd (free2 q f) (b.n q (by rw [hh]; simp) zq (by rw [hq]; simp))
    refine ⟨Zc, e2, tb, e3, r2, t2, fun Z3 H3 r3 s3 => ?_⟩
    cases tb with
    | false =>
      refine iteF ⟨Z3, wipeE e3 vs, acc, ad, rest, stay s3 frp hpc.1 hpc.2, sz.trans s3.z, ?_, fun j dv e => (wipeE_in _ _ _ _ e).1, lift s3, (stay s3 frD hDc zDc).1, (stay s3 frD hDc zDc).2, Nat.le_succ_of_le hla, DDsm dacc s3.z, el, eq⟩
      have := r3.wipe vs
      rw [wst] at this
      exact this
    | true =>
      obtain ⟨⟨yv, e4⟩, y2, el⟩ := bnd el
      obtain ⟨⟨rr, e5⟩, l2, el⟩ := mpd el
      cases el
      refine iteT ⟨Z3, e3, yv, e4, r3, y2, fun v Z4 H4 r4 s4 d4 => ?_⟩
      have s34 := s3.trans s4
      obtain ⟨hD4, zD4⟩ := stay s34 frD hDc zDc
      obtain ⟨hp4, zp4⟩ := stay s34 frp hpc.1 hpc.2
      have hlt : acc.length < sizeLine := Nat.lt_of_lt_of_le (Nat.lt_of_le_of_lt hla hi) (Nat.le_trans hlim lim_le)
      refine ⟨acc, hD4, hlt, Z4, wipeE e4 vs, acc ++ [v], ad ++ [yv], rr, ⟨by rw [upd_ne (fun z => hDp z.symm)]; exact hp4, zp4⟩, sz.trans s34.z, ?_, fun j dv e => (wipeE_in _ _ _ _ e).1, ?_, upd_same, zD4, ?_, dds_app (DDsm dacc s34.z) (.cons d4 .nil), l2, ?_⟩
      · have pk := pok_upd r4.zh zD4 hD4 (.lst (acc ++ [v]))
        have rp := r4.poke0 (s34.fre (free2 D frD)) (r.gh.free hD) (fun z => (r.pp D z).1 hD) pk (by rw [upd_same]; simp)
        have := rp.wipe vs
        rw [wst] at this
        exact this
      · have b := lift s34
        refine ⟨b.z, fun q o hq n f => ?_, b.n, b.o, fun q hq => ?_⟩
        · rw [upd_ne (fun z => by rw [z, hD] at hq; cases hq)]
          exact b.h q o hq n f
        · by_cases hqD : q = D
          · subst hqD; rw [upd_same]; simp
          · rw [upd_ne hqD]; exact b.k q hq
      · rw [List.length_append]; exact Nat.succ_le_succ hla
      · rw [eq, List.append_assoc]; rfl
  · rintro Hc ⟨Zc, ec, acc, ad, rest, hpc, sz, rc, nv, st, hDc, zDc, hla, dacc, el, eq⟩
    rw [List.drop_length] at el
    cases el
    rw [List.append_nil] at eq
    subst eq
    have rr := (rc.unwipe nv).regain jj sj (st.fre frp) npp ngp hpc.2 hpc.1 (DDsm dp sz)
    refine qx D acc Zc Hc rr ⟨st.z, fun q o hq n f => st.h q o hq n (free0 q f), fun q h1 h2 h3 f => st.n q h1 h2 h3 (free0 q f), fun k dv ek ok => ?_, st.k⟩ hD zDc hDc dacc
    rcases get_set_some ek with ⟨rfl, _⟩ | ⟨_, z⟩
    · exact ⟨_, ej, rfl⟩
    · obtain ⟨d0, a, b⟩ := st.o k dv z ok
      exact own0 k d0 a b
theorem pn_lcH (j : Nat) {y : Str} {py : Pos} (own : List (Str × Nat)) (hN : X.N.Nodup) (ok : BlkOk X.N X.env.scope scope own)
    (hg : ∀ (s : Shared) (H : Hp) (C : Addr) (cl : List (Str × Addr)) (fp : List Addr), PGN (X.blk s H scope (compEnvC scope cl C X.env) fp) F tg ts g) (ht : ∀ (s : Shared) (H : Hp) (C : Addr) (cl : List (Str × Addr)) (fp : List Addr), PDTs (X.blk s H scope (compEnvC scope cl C X.env) fp) F ifs ft)
    (he : ∀ (s : Shared) (H : Hp) (C : Addr) (cl : List (Str × Addr)) (fp : List Addr), PD (X.blk s H scope (compEnvC scope cl C X.env) fp) F elt fe) (hjv : j ∉ own.map (·.2) := by decide) (hts : ∀ i ∈ ts, i ∈ own.map (·.2) := by decide) (hy : X.N[j]? = some y := by rfl) (hv : Vis X.env.scope y := by first | exact Or.inl rfl | exact Or.inr (Or.inl rfl) | exact Or.inr (Or.inr rfl))
    (hd : (y == ("__debug__" : Str)) = false := by decide) (hcd : (y == ("__classdict__" : Str)) = false := by decide) (hc : X.calm = true := by rfl) (hs : ∀ x, foldedSetIterable (.Name y py) X.env x = pure x := by intro _; rfl) :
    PN X F (.ListComp elt [⟨tg, .Name y py, ifs, 0⟩] scope pos) (nLcH j g ft fe (own.map (·.2))) :=
  pe_imp (pe_lc (g := tGN X.K F ts g) (tt := tDT X.K F ft) (te := tD X.K F fe) hc hN (pi_orr (pi_list (pe_var hy hv hd hcd)) (di_seq (pd_name j hy hv hd hcd))) ok hg ht he hs) fun σ H Q h => by
    obtain ⟨Z, env, d, env', r, e, q⟩ := h
    unfold nLcH at e
    split at e
    · rename_i ds hw
      split at e
      case isFalse => cases e
      rename_i hl
      obtain ⟨⟨rs, e1⟩, h1, h2⟩ := mpd e
      cases h2
      exact .inl (lc_readH hts j hjv r hw hl h1 q)
    · exact .inr (lc_read hts ⟨Z, env, d, env', r, e, q⟩)
theorem ds_setLcH (i j : Nat) {y z : Str} {py pz spos : Pos} (own : List (Str × Nat)) (hN : X.N.Nodup) (ok : BlkOk X.N X.env.scope scope own)
    (hg : ∀ (s : Shared) (H : Hp) (C : Addr) (cl : List (Str × Addr)) (fp : List Addr), PGN (X.blk s H scope (compEnvC scope cl C X.env) fp) F tg ts g) (ht : ∀ (s : Shared) (H : Hp) (C : Addr) (cl : List (Str × Addr)) (fp : List Addr), PDTs (X.blk s H scope (compEnvC scope cl C X.env) fp) F ifs ft)
    (he : ∀ (s : Shared) (H : Hp) (C : Addr) (cl : List (Str × Addr)) (fp : List Addr), PD (X.blk s H scope (compEnvC scope cl C X.env) fp) F elt fe) (hsw : swapsWith (.ListComp elt [⟨tg, .Name z pz, ifs, 0⟩] scope pos) (some (.Name y py)) spos.line X.env = pure true)
    (hy : X.N[i]? = some y := by rfl) (hyl : X.env.scope.names.lookup y = some .local := by rfl) (hjv : j ∉ own.map (·.2) := by decide) (hts : ∀ i ∈ ts, i ∈ own.map (·.2) := by decide) (hz : X.N[j]? = some z := by rfl) (hv : Vis X.env.scope z := by first | exact Or.inl rfl | exact Or.inr (Or.inl rfl) | exact Or.inr (Or.inr rfl))
    (hd : (z == ("__debug__" : Str)) = false := by decide) (hcd : (z == ("__classdict__" : Str)) = false := by decide) (hc : X.calm = true := by rfl) (hs : ∀ x, foldedSetIterable (.Name z pz) X.env x = pure x := by intro _; rfl) :
    PDS X F (.Assign [.Name y py] (.ListComp elt [⟨tg, .Name z pz, ifs, 0⟩] scope pos) spos) (sSetN i (nLcH j g ft fe (own.map (·.2)))) :=
  ps_imp (ps_setLc (g := tGN X.K F ts g) (tt := tDT X.K F ft) (te := tD X.K F fe) hc hN hy hyl hsw (pi_orr (pi_list (pe_var hz hv hd hcd)) (di_seq (pd_name j hz hv hd hcd))) ok hg ht he hs) fun D σ H h => by
    obtain ⟨Z, env, fl, r, e0, q⟩ := h
    obtain ⟨⟨d, env'⟩, e, h0⟩ := mpd e0
    subst h0
    unfold nLcH at e
    split at e
    · rename_i ds hw
      split at e
      case isFalse => cases e
      rename_i hl
      obtain ⟨⟨rs, e1⟩, h1, h2⟩ := mpd e
      cases h2
      exact .inl (lc_readH (Q := fun x H1 => gName i x σ H1 D.nx) hts j hjv r hw hl h1 fun p xs Z' H' r' s' h0 hz hp dd => q _ Z' H' (r'.storeN i (s'.fre (fre_new r h0)) (fun z => (r.pp p z).1 h0) (r.gh.free h0) hz hp dd) s'.z)
    · exact .inr (lc_read (Q := fun x H1 => gName i x σ H1 D.nx) hts ⟨Z, env, d, env', r, e, fun p xs Z' H' r' s' h0 hz hp dd => q _ Z' H' (r'.storeN i (s'.fre (fre_new r h0)) (fun z => (r.pp p z).1 h0) (r.gh.free h0) hz hp dd) s'.z⟩)
theorem ev_lcH {j : Nat} {g : PyData → DEnv → Option DEnv} {ft : DEnv → Option (Bool × DEnv)} {fe : DEnv → Option (PyData × DEnv)} {vs : List Nat} {env e2 e3 e4 : DEnv} {ds rs : List PyData} (h : rdW j env = some ds) (hl : ds.length ≤ lim) (hw : wipeE (env.set j none) vs = e2) (h2 : lcD g ft fe vs ds e2 = some (rs, e3)) (he : e3.set j (some (.ow ds)) = e4) : nLcH j g ft fe vs env = some (rs, e4) := by
  unfold nLcH; rw [h]; show (if ds.length ≤ lim then _ else _) = _; rw [if_pos hl, hw, h2, ← he]; rfl
theorem ev_lcF {j : Nat} {g : PyData → DEnv → Option DEnv} {ft : DEnv → Option (Bool × DEnv)} {fe : DEnv → Option (PyData × DEnv)} {vs : List Nat} {env : DEnv} {r : Option (List PyData × DEnv)} (h : rdW j env = none) (h2 : nLc (iSeq (rdF j)) g ft fe vs env = r) : nLcH j g ft fe vs env = r := by
  unfold nLcH; rw [h]; exact h2
/-! ### a, b = a list -/
def gLstD (n : Nat) (gs : List PyData → DEnv → Option DEnv) (d : PyData) (env : DEnv) : Option DEnv := match d with
  | .list ds => if ds.length = n then gs ds env else none
  | _ => none
theorem dg_lst {n kk : Nat} {gs : List PyData → DEnv → Option DEnv} (h : PDGs X F es gs) (hc : X.calm = true := by rfl) (hn : (assignEach es X.env).length = n := by rfl) (hst : (assignEach es X.env).findIdx? (·.1) = none := by rfl) : PDG X F (.Tuple es kk pos) (gLstD n gs) :=
  pg_imp (pg_unl hc h hn hst) fun v σ H Q h => by
    obtain ⟨Z, env, d, env', r, hd, e, q⟩ := h
    cases hd with
    | @lst a xs ds hs ha =>
      change (if ds.length = n then gs ds env else none) = some env' at e
      by_cases hl : ds.length = n
      · rw [if_pos hl] at e
        exact ⟨a, xs, rfl, (same_ls r.zh hs).sq, (dds_len ha).trans hl, Z, env, ds, env', r, ha, e, q⟩
      · rw [if_neg hl] at e; cases e
    | _ => cases e
theorem ev_asgL2 {i j : Nat} {f : DEnv → Option (PyData × DEnv)} {env e1 e2 : DEnv} {a b : PyData} (h : f env = some (.list [a, b], e1)) (he : (e1.set i (some (.fr a))).set j (some (.fr b)) = e2) : sAsg f (gLstD 2 (gsCons (gSet i) (gsCons (gSet j) gsNil))) env = some (.nx e2) := by
  unfold sAsg; rw [h, ← he]; rfl
/-- a comprehension over pairs -/
theorem lc_img2 {α : Type} {i j : Nat} {fe : DEnv → Option (PyData × DEnv)} {a b q : α → PyData} {env : DEnv} (hw : ∀ u v, wipeE ((env.set i u).set j v) [i, j] = env) : ∀ xs : List α, (∀ x ∈ xs, fe ((env.set i (some (.fr (a x)))).set j (some (.fr (b x)))) = some (q x, (env.set i (some (.fr (a x)))).set j (some (.fr (b x))))) →
    lcD (gTupD 2 (gsCons (gSet i) (gsCons (gSet j) gsNil))) fYes fe [i, j] (xs.map fun x => .tuple [a x, b x]) env = some (xs.map q, env)
  | [], _ => rfl
  | x :: xs, h => by
    have ih := lc_img2 hw xs fun y hy => h y (List.mem_cons_of_mem _ hy)
    rw [List.map_cons, lcD]
    show (fe ((env.set i (some (.fr (a x)))).set j (some (.fr (b x))))).bind _ = _
    rw [h x List.mem_cons_self]
    show (lcD _ fYes fe [i, j] (xs.map fun x => .tuple [a x, b x]) (wipeE ((env.set i (some (.fr (a x)))).set j (some (.fr (b x)))) [i, j])).map _ = _
    rw [hw, ih]
    rfl
end
end DL
end L2

set_option Elab.async false
set_option maxRecDepth 100000
set_option maxHeartbeats 4000000
set_option autoImplicit false
namespace L2
namespace DL
open PySem PySem.Spec PyProof.Rows
variable [Lab]
/-! ### the law's last step: all([right(pool(cell(script, k))) for k in range(max(2, min(..)))]) -/
theorem mm_a {a : Int} (ha : 2 ≤ a) {env : DEnv} {n : Nat} (h : fLenN 0 env = some (.int n, env)) : ∃ m : Int, fCB maxD (fCons (fC (.int 2)) (fCons (fCB minD (fCons (fC (.int a)) (fCons (fLenN 0) fNil))) fNil)) env = some (.int m, env) ∧ 2 ≤ m ∧ m ≤ a := by
  have e1 : fCB minD (fCons (fC (.int a)) (fCons (fLenN 0) fNil)) env = some (.int (if (n : Int) < a then n else a), env) := ev_cb (ev_cons rfl (ev_cons h ev_nil)) rfl
  generalize hx : (if (n : Int) < a then (n : Int) else a) = x at e1
  refine ⟨if 2 < x then x else 2, ev_cb (ev_cons rfl (ev_cons e1 ev_nil)) rfl, ?_, ?_⟩
  · split <;> omega
  · split <;> (split at hx <;> omega)
theorem mm_b {a : Int} (ha : 2 ≤ a) {env : DEnv} {n : Nat} (h : fLenN 0 env = some (.int n, env)) : ∃ m : Int, fCB maxD (fCons (fC (.int 2)) (fCons (fCB minD (fCons (fLenN 0) (fCons (fC (.int a)) fNil))) fNil)) env = some (.int m, env) ∧ 2 ≤ m ∧ m ≤ a := by
  have e1 : fCB minD (fCons (fLenN 0) (fCons (fC (.int a)) fNil)) env = some (.int (if a < (n : Int) then a else n), env) := ev_cb (ev_cons h (ev_cons rfl ev_nil)) rfl
  generalize hx : (if a < (n : Int) then a else (n : Int)) = x at e1
  refine ⟨if 2 < x then x else 2, ev_cb (ev_cons rfl (ev_cons e1 ev_nil)) rfl, ?_, ?_⟩
  · split <;> omega
  · split <;> (split at hx <;> omega)
theorem law_fin {mr : List PyData → List PyData → Option (PyData × List PyData)} {mp : List PyData → Option (List PyData)} {mc : List PyData → Option PyData} {PO : List PyData → Prop} {ns : List Int} (hc : ∀ k : Int, 0 ≤ k → k ≤ 1000 → ∃ c : Int, mc [.list (ns.map .int), .int k] = some (.int c)) (hp : ∀ c : Int, ∃ es, mp [.int c] = some es ∧ PO es) (hr : ∀ es, PO es → ∃ es', mr es [] = some (.bool true, es'))
    {v : Nat} {fm : DEnv → Option (PyData × DEnv)} {env : DEnv} (hm : ∃ m : Int, fm env = some (.int m, env) ∧ 2 ≤ m ∧ m ≤ 8) (hv : env.set v none = env) (h0 : ∀ d, rdF 0 (env.set v (some (.fr d))) = some (.list (ns.map .int), env.set v (some (.fr d)))) (hvv : ∀ d, rdF v (env.set v (some (.fr d))) = some (d, env.set v (some (.fr d)))) :
    sRet (fCB allD (fCons (fFrz (nLc (iArg rng1 (fCons fm fNil)) (gSet v) fYes (fCRT mr (fCN mp (fCons (fCB mc (fCons (rdF 0) (fCons (rdF v) fNil))) fNil))) [v])) fNil)) env = some (.rt (.bool true) env) := by
  obtain ⟨m, e1, m1, m2⟩ := hm
  have e2 := lc_img (i := v) (fe := fCRT mr (fCN mp (fCons (fCB mc (fCons (rdF 0) (fCons (rdF v) fNil))) fNil))) (e := fun i : Nat => .int (0 + (i : Int))) (q := fun _ => .bool true) (env := env) hv (List.range m.toNat) fun k hk => by
    have hk := List.mem_range.mp hk
    obtain ⟨c, e3⟩ := hc (0 + (k : Int)) (by omega) (by omega)
    obtain ⟨es, e4, po⟩ := hp c
    obtain ⟨es', e5⟩ := hr es po
    have e6 : fCN mp (fCons (fCB mc (fCons (rdF 0) (fCons (rdF v) fNil))) fNil) (env.set v (some (.fr (.int (0 + (k : Int)))))) = some (es, env.set v (some (.fr (.int (0 + (k : Int)))))) := by
      unfold fCN
      rw [ev_cons (ev_cb (ev_cons (h0 _) (ev_cons (hvv _) ev_nil)) e3) ev_nil]
      show (mp [.int c]).map _ = _
      rw [e4]
      rfl
    unfold fCRT
    rw [e6]
    show (mr es []).map _ = _
    rw [e5]
    rfl
  have hrng : rng1 [.int m] = some ((List.range m.toNat).map fun i : Nat => .int (0 + (i : Int))) := by
    show (if m ≤ 1000000 ∧ _ then some (rangeD 0 m.toNat) else none) = _
    rw [if_pos (by omega)]
    rfl
  refine ev_ret (ev_cb (ev_cons (ev_frz (ev_lc (ev_iArg (ev_cons e1 ev_nil) hrng) ?_ hv e2)) ev_nil) ?_)
  · rw [List.length_map, List.length_range]
    show _ ≤ 100000
    omega
  · rw [all_map (fun _ : Nat => true)]
    simp
/-! ### a new list times a number -/
section
variable {X : Cx} {F : Fm} {a b : Expr} {pos : Pos} {g : DEnv → Option (PyData × DEnv)} {fn : DEnv → Option (List PyData × DEnv)}
def nRepL (fn : DEnv → Option (List PyData × DEnv)) (g : DEnv → Option (PyData × DEnv)) (env : DEnv) : Option (List PyData × DEnv) := (fn env).bind fun x => (g x.2).bind fun y => match y.1 with
  | .int k => if 0 ≤ k ∧ k ≤ 1000 ∧ x.1.length ≤ 100 then some ((List.replicate k.toNat x.1).flatten, y.2) else none
  | _ => none
theorem pn_repL (ha : PN X F a fn) (hb : PD X F b g) : PN X F (.BinOp a .Mult b pos) (nRepL fn g) := pe_imp (pe_op op_rep ha hb) fun σ H Q h => by
  obtain ⟨Z, env, d, env', r, e, q⟩ := h
  obtain ⟨⟨x, e1⟩, h1, h⟩ := bnd e
  obtain ⟨⟨y, e2⟩, h2, h⟩ := bnd h
  match y, h2, h with
  | .int k, h2, h =>
    change (if 0 ≤ k ∧ k ≤ 1000 ∧ x.length ≤ 100 then some ((List.replicate k.toNat x).flatten, e2) else none) = some (d, env') at h
    split at h
    case isFalse => cases h
    rename_i hc
    obtain ⟨rfl, rfl⟩ := Prod.mk.inj (Option.some.inj h)
    refine ⟨Z, env, x, e1, r, h1, fun p xs Z1 H1 r1 s1 h0 hz hp dd => ⟨Z1, e1, .int k, _, r1, h2, fun v2 Z2 H2 r2 s2 d2 => ?_⟩⟩
    cases d2.int_inv
    have fr1 : Fre σ e1 p := s1.fre (fre_new r h0)
    have hp2 : H2 p = some (.lst xs) := s2.h p _ hp nt_lst fr1
    have hl := dds_len dd
    have hle : xs.length * k.toNat ≤ sizeLine := by
      have : xs.length * k.toNat ≤ 100 * 1000 := Nat.mul_le_mul (by omega) (by omega)
      have := lim_le
      have : lim = 100000 := rfl
      omega
    refine ⟨p, k, xs, rfl, rfl, hp2, by omega, by omega, hle, fun q0 hq0 => ?_⟩
    have gr := grow_own r2.zh hq0 (.lst (List.replicate k.toNat xs).flatten)
    exact q q0 _ _ _ (r2.grow gr) ((s1.trans s2).trans gr.stp) ((s1.trans s2).new hq0) (r2.zh.free hq0) upd_same (dds_rep (DDsm dd s2.z) k.toNat)
theorem ev_repL {env e1 e2 : DEnv} {xs : List PyData} {k : Int} (h : fn env = some (xs, e1)) (h2 : g e1 = some (.int k, e2)) (hc : 0 ≤ k ∧ k ≤ 1000 ∧ xs.length ≤ 100) : nRepL fn g env = some ((List.replicate k.toNat xs).flatten, e2) := by
  unfold nRepL; rw [h]; show (g e1).bind _ = _; rw [h2]; exact if_pos hc
end
/-! ### a, b, c = two new lists and data -/
section
variable {X : Cx} {F : Fm} {s : Stmt} {fn gn : DEnv → Option (List PyData × DEnv)} {f : DEnv → Option (PyData × DEnv)}
def sPar3N (i j l : Nat) (fn gn : DEnv → Option (List PyData × DEnv)) (f : DEnv → Option (PyData × DEnv)) (env : DEnv) : Option DFlow := (fn env).bind fun x => (gn x.2).bind fun y => (f y.2).map fun z => .nx (((z.2.set i (some (.ow x.1))).set j (some (.ow y.1))).set l (some (.fr z.1)))
theorem stay_lst {σ : St} {env env' : DEnv} {Z H Z' H' : Hp} {p : Addr} {xs : List V} (b : Stp σ env Z H env' Z' H') (f : Fre σ env p) (hp : H p = some (.lst xs)) (hz : Z p = none) : H' p = some (.lst xs) ∧ Z' p = none := by
  refine ⟨b.h p _ hp nt_lst f, ?_⟩
  cases hh : Z' p with
  | none => rfl
  | some o => exact absurd f (b.n p (by rw [hh]; simp) hz (by rw [hp]; simp))
theorem ds_par3N (i j l : Nat) (hij : i ≠ j) (hil : i ≠ l) (hjl : j ≠ l) (ha : PS X s (tPar3 i j l (tCons (tDN X.K F fn) (tCons (tDN X.K F gn) (tCons (tD X.K F f) tNil))))) : PDS X F s (sPar3N i j l fn gn f) := ps_imp ha fun D σ H h => by
  obtain ⟨Z, env, fl, r, e, q⟩ := h
  obtain ⟨⟨d, e1⟩, h1, h⟩ := bnd e
  obtain ⟨⟨d2, e2⟩, h2, h⟩ := bnd h
  obtain ⟨⟨d3, e3⟩, h3, h⟩ := mpd h
  subst h
  refine ⟨Z, env, d, e1, r, h1, fun p xs Z1 H1 r1 s1 h0 hz hp dd => ⟨Z1, e1, d2, e2, r1, h2, fun p2 xs2 Z2 H2 r2 s2 h02 hz2 hp2 dd2 => ⟨Z2, e2, d3, e3, r2, h3, fun v3 Z3 H3 r3 s3 dd3 => ⟨_, _, _, rfl, ?_⟩⟩⟩⟩
  have fr1 : Fre σ e1 p := s1.fre (fre_new r h0)
  have fr2 : Fre σ e2 p2 := s2.fre (fre_new r1 h02)
  obtain ⟨hp', zp'⟩ := stay_lst s2 fr1 hp hz
  obtain ⟨hp3, zp3⟩ := stay_lst s3 (s2.fre fr1) hp' zp'
  obtain ⟨hq3, zq3⟩ := stay_lst s3 fr2 hp2 hz2
  have np : ¬ F.P p := fun z => (r.pp p z).1 h0
  have ng : F.G p = none := r.gh.free h0
  have np2 : ¬ F.P p2 := fun z => (r1.pp p2 z).1 h02
  have ng2 : F.G p2 = none := r1.gh.free h02
  have hpp : p2 ≠ p := fun z => by rw [z, hp] at h02; cases h02
  have ra := r3.storeN i (s3.fre (s2.fre fr1)) np ng zp3 hp3 (DDsm dd (s2.z.trans s3.z))
  have rb := ra.storeN j (p := p2) (xs := xs2) (ds := d2) (fun k dv ek ok sk => by
    rcases get_set_some ek with ⟨rfl, ex⟩ | ⟨hne, ex⟩
    · rcases set_get_some sk with ⟨_, sx⟩ | ⟨hh, _⟩
      · cases sx; exact hpp rfl
      · exact hh rfl
    · rw [List.getElem?_set_ne (fun z => hne z.symm)] at sk
      exact (s3.fre fr2) k dv ex ok sk) np2 ng2 zq3 hq3 (DDsm dd2 s3.z)
  exact q _ Z3 H3 (rb.store l dd3) ((s1.z.trans s2.z).trans s3.z)
theorem ev_par3N {i j l : Nat} {env e1 e2 e3 e4 : DEnv} {a b : List PyData} {c : PyData} (h1 : fn env = some (a, e1)) (h2 : gn e1 = some (b, e2)) (h3 : f e2 = some (c, e3)) (he : ((e3.set i (some (.ow a))).set j (some (.ow b))).set l (some (.fr c)) = e4) : sPar3N i j l fn gn f env = some (.nx e4) := by
  unfold sPar3N; rw [h1]; show (gn e1).bind _ = _; rw [h2]; show (f e2).map _ = _; rw [h3, ← he]; rfl
end
/-! ### words and numbers are small -/
theorem Sm.le {k w : Nat} {d : PyData} (h : Sm k w d) {k' w' : Nat} (hk : k ≤ k' := by decide) (hw : w ≤ w' := by decide) : Sm k' w' d := h.mono hk hw
theorem ly_of_sm {k w : Nat} {d : PyData} (h : Sm k w d) : Ly k d := ⟨h.lay, h.nd, h.dp⟩
theorem wordsOk_list {ds : List PyData} (h : ∀ d ∈ ds, wordsOk d = true) : wordsOk (.list ds) = true := wordsOk_all h
theorem wordsOk_tup {ds : List PyData} (h : ∀ d ∈ ds, wordsOk d = true) : wordsOk (.tuple ds) = true := wordsOk_all h
/-- two equal lists of texts that repr wrote -/
theorem eq_shown {α : Type} (f : α → PyData) (xs : List α) (h : ∀ x ∈ xs, wordsOk (f x) = true) : eqB (.list (xs.map fun x => .str (f x).shown)) (.list (xs.map fun x => .str (f x).shown)) = some true :=
  eqB_self (k := 1) (Ly.list fun d hd => by
    obtain ⟨x, hx, rfl⟩ := List.mem_map.mp hd
    exact ly_shown (h x hx)) (by decide)
end DL
end L2

set_option Elab.async false
set_option maxRecDepth 100000
set_option maxHeartbeats 4000000
set_option autoImplicit false
namespace L2
namespace DL
open PySem PySem.Spec PyProof.Rows
/-! ### orders, commands, picks: what they are apart from data -/
def dirsD : List Str := ["up", "down"]
abbrev Ky := Int × Str
def kd (k : Ky) : PyData := .tuple [.int k.1, .str k.2]
def plD (s : Str) : PyData := .tuple [.str "place", .str s]
def ordD (ks : List Ky) (s : Str) : PyData := .tuple (ks.map kd ++ [plD s])
structure KOk (n : Int) (ks : List Ky) : Prop where
  nd : (ks.map (·.1)).Nodup
  rg : ∀ k ∈ ks, 0 ≤ k.1 ∧ k.1 < n ∧ k.2 ∈ dirsD
abbrev KB := Int × Bool
abbrev Od := List KB × Bool
def dS (b : Bool) : Str := if b then "up" else "down"
def toKy (k : KB) : Ky := (k.1, dS k.2)
def oD (o : Od) : PyData := ordD (o.1.map toKy) (dS o.2)
structure OOk (o : Od) : Prop where
  nd : (o.1.map (·.1)).Nodup
  rg : ∀ k ∈ o.1, 0 ≤ k.1 ∧ k.1 < 4
theorem dS_in (b : Bool) : dS b ∈ dirsD := by cases b <;> simp [dS, dirsD]
theorem dS_inj {a b : Bool} (h : dS a = dS b) : a = b := by
  cases a <;> cases b <;> first | rfl | (exact absurd h (by decide))
theorem OOk.k {o : Od} (h : OOk o) : KOk 4 (o.1.map toKy) := by
  refine ⟨?_, fun k hk => ?_⟩
  · rw [List.map_map]; exact h.nd
  · obtain ⟨x, hx, rfl⟩ := List.mem_map.mp hk
    exact ⟨(h.rg x hx).1, (h.rg x hx).2, dS_in _⟩
theorem nodup_le {α : Type} [DecidableEq α] : ∀ (l t : List α), l.Nodup → (∀ x ∈ l, x ∈ t) → l.length ≤ t.length
  | [], _, _, _ => Nat.zero_le _
  | a :: l, t, hn, hs => by
    have ha := hs a List.mem_cons_self
    rw [List.nodup_cons] at hn
    have := nodup_le l (t.erase a) hn.2 fun x hx => by
      have hne : x ≠ a := fun z => hn.1 (by rw [← z]; exact hx)
      exact (List.mem_erase_of_ne hne).mpr (hs x (List.mem_cons_of_mem _ hx))
    rw [List.length_erase_of_mem ha] at this
    have hp : 0 < t.length := List.length_pos_of_mem ha
    rw [List.length_cons]
    omega
theorem OOk.len {o : Od} (h : OOk o) : o.1.length ≤ 4 := by
  have := nodup_le (o.1.map (·.1)) [0, 1, 2, 3] h.nd fun c hc => by
    obtain ⟨k, hk, rfl⟩ := List.mem_map.mp hc
    obtain ⟨a, b⟩ := h.rg k hk
    simp only [List.mem_cons, List.not_mem_nil, or_false]
    omega
  rwa [List.length_map] at this
def start0 : Od := ([], true)
def nK (k : KB) : KB := (k.1, !k.2)
def flO (o : Od) : Od := (o.1.map nK, !o.2)
def offO (c : Int) (ks : List KB) : List KB := ks.filter fun k => !decide (k.1 = c)
def putO (c : Int) (d : Bool) (o : Od) : Od := ((c, d) :: offO c o.1, o.2)
theorem start0_ok : OOk start0 := ⟨List.nodup_nil, fun _ h => nomatch h⟩
theorem OOk.fl {o : Od} (h : OOk o) : OOk (flO o) := by
  refine ⟨?_, fun k hk => ?_⟩
  · show ((o.1.map nK).map (·.1)).Nodup
    rw [List.map_map]; exact h.nd
  · obtain ⟨x, hx, rfl⟩ := List.mem_map.mp hk
    exact h.rg x hx
theorem OOk.put {o : Od} (h : OOk o) {c : Int} (h0 : 0 ≤ c) (h1 : c < 4) (d : Bool) : OOk (putO c d o) := by
  refine ⟨?_, fun k hk => ?_⟩
  · show (c :: (offO c o.1).map (·.1)).Nodup
    rw [List.nodup_cons]
    refine ⟨fun z => ?_, ?_⟩
    · obtain ⟨k, hk, e⟩ := List.mem_map.mp z
      have := (List.mem_filter.mp hk).2
      simp [e] at this
    · exact List.Sublist.nodup (List.Sublist.map _ List.filter_sublist) h.nd
  · rcases List.mem_cons.mp hk with rfl | hk
    · exact ⟨h0, h1⟩
    · exact h.rg k (List.mem_filter.mp hk).1
inductive Pl where
  | sort (d : Bool) (c : Int) | rev | res | cut (f : Bool) (k : Int)
def PlOk : Pl → Prop
  | .sort _ c => 0 ≤ c ∧ c < 4
  | .cut _ k => 2 ≤ k ∧ k ≤ 29
  | _ => True
def cS (b : Bool) : Str := if b then "first" else "last"
def plE : Pl → PyData
  | .sort d c => .tuple [.str (dS d), .int c]
  | .rev => .tuple [.str "reverse"]
  | .res => .tuple [.str "restore"]
  | .cut f k => .tuple [.str (cS f), .int k]
abbrev Pk := Od × Int
def pkD (p : Pk) : PyData := .tuple [oD p.1, .int p.2]
abbrev PkOk (p : Pk) : Prop := OOk p.1 ∧ 2 ≤ p.2 ∧ p.2 ≤ 29
def semP : Pl → Od → List Pk × Od
  | .sort d c, o => ([], putO c d o)
  | .rev, o => ([], flO o)
  | .res, _ => ([], start0)
  | .cut f k, o => ([(if f then o else flO o, k)], o)
theorem semP_ok {p : Pl} (h : PlOk p) {o : Od} (ho : OOk o) : OOk (semP p o).2 ∧ ∀ x ∈ (semP p o).1, PkOk x := by
  cases p with
  | sort d c => exact ⟨ho.put h.1 h.2 d, fun _ z => nomatch z⟩
  | rev => exact ⟨ho.fl, fun _ z => nomatch z⟩
  | res => exact ⟨start0_ok, fun _ z => nomatch z⟩
  | cut f k =>
    refine ⟨ho, fun x hx => ?_⟩
    rw [show x = (if f then o else flO o, k) from List.mem_singleton.mp hx]
    refine ⟨?_, h.1, h.2⟩
    cases f
    · exact ho.fl
    · exact ho
def Cm : Nat → Type
  | 0 => Pl
  | n + 1 => Pl ⊕ (Int × List (Cm n))
def repE (t : Int) (ps : List PyData) : PyData := .tuple [.str "repeat", .int t, .tuple ps]
def cmE : (n : Nat) → Cm n → PyData
  | 0, p => plE p
  | _ + 1, .inl p => plE p
  | n + 1, .inr (t, ps) => repE t (ps.map (cmE n))
def seqS {α : Type} (f : α → Od → List Pk × Od) : List α → Od → List Pk × Od
  | [], o => ([], o)
  | c :: cs, o => ((f c o).1 ++ (seqS f cs (f c o).2).1, (seqS f cs (f c o).2).2)
def sem : (n : Nat) → Cm n → Od → List Pk × Od
  | 0, p, o => semP p o
  | _ + 1, .inl p, o => semP p o
  | n + 1, .inr (t, ps), o => ((seqS (sem n) ps o).1, if t % 2 = 0 then (seqS (sem n) ps (seqS (sem n) ps o).2).2 else (seqS (sem n) ps o).2)
def CmOk (tm : Int) : (n : Nat) → Cm n → Prop
  | 0, p => PlOk p
  | _ + 1, .inl p => PlOk p
  | n + 1, .inr (t, ps) => 1 ≤ t ∧ t ≤ tm ∧ ∀ c ∈ ps, CmOk tm n c
def szC : (n : Nat) → Cm n → Nat
  | 0, _ => 1
  | _ + 1, .inl _ => 1
  | n + 1, .inr (_, ps) => 1 + (ps.map (szC n)).sum
theorem seq_ok {α : Type} {f : α → Od → List Pk × Od} {cs : List α} (h : ∀ c ∈ cs, ∀ o, OOk o → OOk (f c o).2 ∧ ∀ x ∈ (f c o).1, PkOk x) : ∀ {o : Od}, OOk o → OOk (seqS f cs o).2 ∧ ∀ x ∈ (seqS f cs o).1, PkOk x := by
  induction cs with
  | nil => exact fun ho => ⟨ho, fun _ z => nomatch z⟩
  | cons c cs ih =>
    intro o ho
    obtain ⟨a, b⟩ := h c List.mem_cons_self o ho
    obtain ⟨a2, b2⟩ := ih (fun x hx => h x (List.mem_cons_of_mem _ hx)) a
    refine ⟨a2, fun x hx => ?_⟩
    rcases List.mem_append.mp hx with z | z
    · exact b x z
    · exact b2 x z
theorem sem_ok {tm : Int} : ∀ {n : Nat} {c : Cm n}, CmOk tm n c → ∀ {o : Od}, OOk o → OOk (sem n c o).2 ∧ ∀ x ∈ (sem n c o).1, PkOk x
  | 0, p, h, o, ho => semP_ok (p := p) h ho
  | n + 1, .inl p, h, o, ho => semP_ok (p := p) h ho
  | n + 1, .inr (t, ps), h, o, ho => by
    have q : ∀ c ∈ ps, ∀ o, OOk o → OOk (sem n c o).2 ∧ ∀ x ∈ (sem n c o).1, PkOk x := fun c hc o ho => sem_ok (h.2.2 c hc) ho
    obtain ⟨a, b⟩ := seq_ok q ho
    refine ⟨?_, b⟩
    show OOk (if t % 2 = 0 then _ else _)
    split
    · exact (seq_ok q a).1
    · exact a
theorem seq_app {α : Type} {f : α → Od → List Pk × Od} : ∀ (cs ds : List α) (o : Od), seqS f (cs ++ ds) o = ((seqS f cs o).1 ++ (seqS f ds (seqS f cs o).2).1, (seqS f ds (seqS f cs o).2).2)
  | [], _, _ => rfl
  | c :: cs, ds, o => by
    rw [List.cons_append, seqS, seq_app cs ds]
    simp [seqS, List.append_assoc]
/-! ### what turns do to an order -/
def offs (P ks : List KB) : List KB := ks.filter fun k => !decide (k.1 ∈ P.map (·.1))
def phi (b : Bool) (ks : List KB) : List KB := if b then ks.map nK else ks
structure ShF (f : Od → Od) (P : List KB) (b : Bool) : Prop where
  eq : ∀ o, f o = (P ++ phi b (offs P o.1), o.2.xor b)
def Shp (f : Od → Od) : Prop := (∃ P b, ShF f P b) ∨ ∃ g, ∀ o, f o = g
theorem nK_nK (k : KB) : nK (nK k) = k := by simp [nK]
theorem phi_phi (a b : Bool) (ks : List KB) : phi a (phi b ks) = phi (b.xor a) ks := by
  cases a <;> cases b <;> simp [phi, Function.comp_def, nK_nK]
theorem offs_phi (P : List KB) (b : Bool) (ks : List KB) : offs P (phi b ks) = phi b (offs P ks) := by
  cases b
  · rfl
  · simp only [phi, offs, if_true, List.filter_map]
    rfl
theorem phi_cols (b : Bool) (P : List KB) : (phi b P).map (·.1) = P.map (·.1) := by
  cases b
  · rfl
  · simp only [phi, if_true, List.map_map]; rfl
theorem offs_self (P : List KB) : offs P P = [] := by
  rw [offs, List.filter_eq_nil_iff]
  intro k hk
  simp [List.mem_map_of_mem hk]
theorem offs_offs (P ks : List KB) : offs P (offs P ks) = offs P ks := by
  rw [offs, offs, List.filter_filter]
  simp
theorem offs_app (P ks ls : List KB) : offs P (ks ++ ls) = offs P ks ++ offs P ls := List.filter_append ..
theorem phi_app (b : Bool) (ks ls : List KB) : phi b (ks ++ ls) = phi b ks ++ phi b ls := by
  cases b
  · rfl
  · simp [phi]
theorem shp_comp {f g : Od → Od} (hf : Shp f) (hg : Shp g) : Shp (fun o => g (f o)) := by
  rcases hg with ⟨P2, b2, h2⟩ | ⟨c, h2⟩
  · rcases hf with ⟨P1, b1, h1⟩ | ⟨c, h1⟩
    · refine .inl ⟨P2 ++ phi b2 (offs P2 P1), b1.xor b2, ⟨fun o => ?_⟩⟩
      rw [h2.eq, h1.eq]
      have e : offs P2 (phi b1 (offs P1 o.1)) = phi b1 (offs (P2 ++ phi b2 (offs P2 P1)) o.1) := by
        rw [offs_phi]
        congr 1
        unfold offs
        rw [List.filter_filter]
        refine List.filter_congr fun k _ => ?_
        rw [List.map_append, show (phi b2 (P1.filter fun k => !decide (k.1 ∈ P2.map (·.1)))).map (·.1) = (offs P2 P1).map (·.1) from phi_cols _ _]
        have : (k.1 ∈ P2.map (·.1) ++ (offs P2 P1).map (·.1)) ↔ (k.1 ∈ P2.map (·.1) ∨ k.1 ∈ P1.map (·.1)) := by
          rw [List.mem_append]
          constructor
          · rintro (z | z)
            · exact .inl z
            · obtain ⟨x, hx, e⟩ := List.mem_map.mp z
              exact .inr (List.mem_map.mpr ⟨x, (List.mem_filter.mp hx).1, e⟩)
          · rintro (z | z)
            · exact .inl z
            · by_cases w : k.1 ∈ P2.map (·.1)
              · exact .inl w
              · obtain ⟨x, hx, e⟩ := List.mem_map.mp z
                refine .inr (List.mem_map.mpr ⟨x, List.mem_filter.mpr ⟨hx, ?_⟩, e⟩)
                rw [e]
                simpa using w
        by_cases w2 : k.1 ∈ P2.map (·.1)
        · rw [decide_eq_true w2, decide_eq_true (this.mpr (.inl w2))]; rfl
        · by_cases w1 : k.1 ∈ P1.map (·.1)
          · rw [decide_eq_true w1, decide_eq_true (this.mpr (.inr w1))]; simp
          · rw [decide_eq_false w2, decide_eq_false w1, decide_eq_false (fun z => (this.mp z).elim w2 w1)]; rfl
      simp only [offs_app, phi_app, e, phi_phi, List.append_assoc, Bool.xor_assoc]
    · exact .inr ⟨g c, fun o => congrArg g (h1 o)⟩
  · exact .inr ⟨c, fun o => h2 _⟩
theorem shp_id : Shp (fun o => o) := .inl ⟨[], false, ⟨fun o => by
  have : offs [] o.1 = o.1 := by rw [offs, List.filter_eq_self]; intro _ _; rfl
  simp [phi, this]⟩⟩
theorem shp_put (c : Int) (d : Bool) : Shp (putO c d) := .inl ⟨[(c, d)], false, ⟨fun o => by
  have : offs [(c, d)] o.1 = offO c o.1 := by
    unfold offs offO
    refine List.filter_congr fun k _ => ?_
    simp
  simp [putO, phi, this]⟩⟩
theorem shp_fl : Shp flO := .inl ⟨[], true, ⟨fun o => by
  have : offs [] o.1 = o.1 := by rw [offs, List.filter_eq_self]; intro _ _; rfl
  simp [flO, phi, this]⟩⟩
theorem shp3 {f : Od → Od} (h : Shp f) (o : Od) : f (f (f o)) = f o := by
  rcases h with ⟨P, b, h⟩ | ⟨c, h⟩
  · have e : ∀ o : Od, f (f o) = (P ++ offs P o.1, o.2) := fun o => by
      rw [h.eq (f o), h.eq o]
      simp only [offs_app, offs_self, List.nil_append, offs_phi, offs_offs, phi_phi, Bool.xor_self, Bool.xor_assoc, Bool.xor_false]
      rfl
    rw [e, h.eq o]
    simp only [offs_app, offs_self, List.nil_append, offs_phi, offs_offs]
  · rw [h, h]
theorem shp_seq {α : Type} {f : α → Od → List Pk × Od} : ∀ {cs : List α}, (∀ c ∈ cs, Shp fun o => (f c o).2) → Shp fun o => (seqS f cs o).2
  | [], _ => shp_id
  | c :: cs, h => shp_comp (h c List.mem_cons_self) (shp_seq fun x hx => h x (List.mem_cons_of_mem _ hx))
theorem shp_semP : ∀ p : Pl, Shp fun o => (semP p o).2
  | .sort d c => shp_put c d
  | .rev => shp_fl
  | .res => .inr ⟨start0, fun _ => rfl⟩
  | .cut f k => shp_id
theorem shp_sem : ∀ (n : Nat) (c : Cm n), Shp fun o => (sem n c o).2
  | 0, p => shp_semP p
  | n + 1, .inl p => shp_semP p
  | n + 1, .inr (t, ps) => by
    have h := shp_seq (f := sem n) (cs := ps) fun c _ => shp_sem n c
    show Shp fun o => if t % 2 = 0 then _ else _
    by_cases z : t % 2 = 0
    · simp only [z, if_true]; exact shp_comp h h
    · simp only [z, if_false]; exact h
def itN {α : Type} (f : α → α) : Nat → α → α
  | 0, o => o
  | n + 1, o => itN f n (f o)
theorem itN_succ {α : Type} (f : α → α) : ∀ (n : Nat) (o : α), itN f (n + 1) o = f (itN f n o)
  | 0, _ => rfl
  | n + 1, o => by rw [itN, itN_succ f n (f o)]; rfl
theorem itN_par {f : Od → Od} (h : Shp f) : ∀ (t : Nat) (o : Od), itN f (t + 1) o = if (t + 1) % 2 = 0 then f (f o) else f o
  | 0, o => rfl
  | 1, o => rfl
  | t + 2, o => by
    rw [itN_succ, itN_succ, itN_par h t o]
    have e : (t + 2 + 1) % 2 = (t + 1) % 2 := by omega
    rw [e]
    split
    · rw [shp3 h]
    · rw [shp3 h]
end DL
end L2

set_option Elab.async false
set_option maxRecDepth 100000
set_option maxHeartbeats 4000000
set_option autoImplicit false
namespace L2
namespace DL
open PySem PySem.Spec PyProof.Rows
/-! ### picks, shortened -/
def keep : Int → List Pk → List Pk
  | _, [] => []
  | m, p :: ps => if p.2 < m then p :: keep p.2 ps else keep m ps
def minS : Int → List Pk → Int
  | m, [] => m
  | m, p :: ps => if p.2 < m then minS p.2 ps else minS m ps
theorem keep_app : ∀ (m : Int) (a b : List Pk), keep m (a ++ b) = keep m a ++ keep (minS m a) b
  | _, [], _ => rfl
  | m, p :: a, b => by
    rw [List.cons_append, keep, keep, minS]
    split
    · rw [keep_app]; rfl
    · rw [keep_app]
theorem minS_app : ∀ (m : Int) (a b : List Pk), minS m (a ++ b) = minS (minS m a) b
  | _, [], _ => rfl
  | m, p :: a, b => by
    rw [List.cons_append, minS, minS]
    split <;> rw [minS_app]
theorem keep_none : ∀ {m : Int} {ps : List Pk}, (∀ p ∈ ps, m ≤ p.2) → keep m ps = [] ∧ minS m ps = m
  | _, [], _ => ⟨rfl, rfl⟩
  | m, p :: ps, h => by
    have h1 := h p List.mem_cons_self
    rw [keep, minS, if_neg (by omega), if_neg (by omega)]
    exact keep_none fun q hq => h q (List.mem_cons_of_mem _ hq)
theorem minS_le : ∀ (m : Int) (ps : List Pk), minS m ps ≤ m ∧ ∀ p ∈ ps, minS m ps ≤ p.2
  | m, [] => ⟨Int.le_refl _, fun _ h => nomatch h⟩
  | m, p :: ps => by
    rw [minS]
    split
    · rename_i h
      obtain ⟨a, b⟩ := minS_le p.2 ps
      refine ⟨by omega, fun q hq => ?_⟩
      rcases List.mem_cons.mp hq with rfl | hq
      · exact a
      · exact b q hq
    · rename_i h
      obtain ⟨a, b⟩ := minS_le m ps
      refine ⟨a, fun q hq => ?_⟩
      rcases List.mem_cons.mp hq with rfl | hq
      · omega
      · exact b q hq
theorem lt_minS (x : Int) : ∀ (m : Int) (ps : List Pk), x < minS m ps ↔ (x < m ∧ ∀ q ∈ keep m ps, x < q.2)
  | m, [] => ⟨fun h => ⟨h, fun _ z => nomatch z⟩, fun h => h.1⟩
  | m, p :: ps => by
    rw [minS, keep]
    split
    · rename_i h
      rw [lt_minS x p.2 ps]
      constructor
      · rintro ⟨a, b⟩
        refine ⟨by omega, fun q hq => ?_⟩
        rcases List.mem_cons.mp hq with rfl | hq
        · exact a
        · exact b q hq
      · rintro ⟨a, b⟩
        exact ⟨b p List.mem_cons_self, fun q hq => b q (List.mem_cons_of_mem _ hq)⟩
    · exact lt_minS x m ps
def minIs (m x : Int) : Option Pk → Prop
  | none => x = m
  | some q => x = q.2
theorem keep_last : ∀ (m : Int) (ps : List Pk), minIs m (minS m ps) (keep m ps).getLast?
  | m, [] => rfl
  | m, p :: ps => by
    rw [keep, minS]
    split
    · have := keep_last p.2 ps
      rw [List.getLast?_cons]
      generalize (keep p.2 ps).getLast? = o at this ⊢
      cases o with
      | none => exact this
      | some q => exact this
    · exact keep_last m ps
theorem keep_mem : ∀ {m : Int} {ps : List Pk} {q : Pk}, q ∈ keep m ps → q ∈ ps
  | _, [], _, h => nomatch h
  | m, p :: ps, q, h => by
    rw [keep] at h
    split at h
    · rcases List.mem_cons.mp h with rfl | h
      · exact List.mem_cons_self
      · exact List.mem_cons_of_mem _ (keep_mem h)
    · exact List.mem_cons_of_mem _ (keep_mem h)
/-- sizes fall: so there are few -/
theorem keep_len : ∀ (m : Int) (ps : List Pk), (∀ p ∈ ps, 2 ≤ p.2) → 2 ≤ m → ((keep m ps).length : Int) ≤ m - 2
  | m, [], _, hm => by show (0 : Int) ≤ _; omega
  | m, p :: ps, h, hm => by
    rw [keep]
    have h1 := h p List.mem_cons_self
    split
    · have := keep_len p.2 ps (fun q hq => h q (List.mem_cons_of_mem _ hq)) h1
      rw [List.length_cons]
      omega
    · exact keep_len m ps (fun q hq => h q (List.mem_cons_of_mem _ hq)) hm
def dedup : List Pk → List Pk
  | [] => []
  | [p] => [p]
  | p :: q :: r => if p.1 = q.1 then dedup (q :: r) else p :: dedup (q :: r)
def short (ps : List Pk) : List Pk := dedup (keep 30 ps)
theorem dedup_ne : ∀ (p : Pk) (L : List Pk), dedup (p :: L) ≠ []
  | p, [] => by simp [dedup]
  | p, q :: L => by
    rw [dedup]
    split
    · exact dedup_ne q L
    · simp
theorem dedup_last : ∀ (L : List Pk), (dedup L).getLast? = L.getLast?
  | [] => rfl
  | [p] => rfl
  | p :: q :: r => by
    rw [dedup]
    have ih := dedup_last (q :: r)
    split
    · rw [ih, List.getLast?_cons_cons]
    · have hne := dedup_ne q r
      cases hd : dedup (q :: r) with
      | nil => exact absurd hd hne
      | cons a b => rw [List.getLast?_cons_cons, List.getLast?_cons_cons, ← hd, ih]
def snocIs (L : List Pk) (p : Pk) : Option Pk → List Pk
  | none => [p]
  | some q => if q.1 = p.1 then (dedup L).dropLast ++ [p] else dedup L ++ [p]
theorem dedup_snoc : ∀ (L : List Pk) (p : Pk), dedup (L ++ [p]) = snocIs L p L.getLast?
  | [], p => rfl
  | [q], p => by
    show dedup [q, p] = if q.1 = p.1 then [p] else [q, p]
    simp only [dedup]
  | a :: b :: r, p => by
    have ih := dedup_snoc (b :: r) p
    rw [List.getLast?_cons_cons]
    show dedup (a :: b :: (r ++ [p])) = _
    rw [dedup, show b :: (r ++ [p]) = (b :: r) ++ [p] from rfl, ih]
    cases hl : (b :: r).getLast? with
    | none => simp at hl
    | some q =>
      unfold snocIs
      dsimp only
      rw [dedup]
      by_cases hab : a.1 = b.1
      · rw [if_pos hab, if_pos hab]
      · rw [if_neg hab, if_neg hab]
        have hne := dedup_ne b r
        cases hd : dedup (b :: r) with
        | nil => exact absurd hd hne
        | cons x y => split <;> simp
theorem dedup_mem : ∀ {L : List Pk} {q : Pk}, q ∈ dedup L → q ∈ L
  | [], _, h => nomatch h
  | [p], _, h => h
  | p :: r :: L, q, h => by
    rw [dedup] at h
    split at h
    · exact List.mem_cons_of_mem _ (dedup_mem h)
    · rcases List.mem_cons.mp h with rfl | h
      · exact List.mem_cons_self
      · exact List.mem_cons_of_mem _ (dedup_mem h)
theorem dedup_len : ∀ (L : List Pk), (dedup L).length ≤ L.length
  | [] => Nat.le_refl _
  | [p] => Nat.le_refl _
  | p :: r :: L => by
    rw [dedup]
    have := dedup_len (r :: L)
    split
    · rw [List.length_cons]; omega
    · rw [List.length_cons, List.length_cons]; omega
theorem short_ok {ps : List Pk} (h : ∀ p ∈ ps, PkOk p) : (∀ p ∈ short ps, PkOk p) ∧ (short ps).length ≤ 28 := by
  refine ⟨fun p hp => h p (keep_mem (dedup_mem hp)), ?_⟩
  have := keep_len 30 ps (fun p hp => (h p hp).2.1) (by decide)
  have := dedup_len (keep 30 ps)
  unfold short
  omega
/-! ### written out -/
def szP : Pl → List Int
  | .cut _ k => [k]
  | _ => []
theorem sizes_semP (p : Pl) (o : Od) : (semP p o).1.map (·.2) = szP p := by cases p <;> rfl
theorem sizes_seq : ∀ (ps : List Pl) (o : Od), (seqS semP ps o).1.map (·.2) = ps.flatMap szP
  | [], _ => rfl
  | p :: ps, o => by rw [seqS, List.map_append, sizes_semP, sizes_seq, List.flatMap_cons]
def flat : (n : Nat) → Cm n → List Pl
  | 0, p => [p]
  | _ + 1, .inl p => [p]
  | n + 1, .inr (t, ps) => (List.replicate t.toNat (ps.flatMap (flat n))).flatten
theorem size_in {ps : List Pl} {o : Od} {p : Pk} (h : p ∈ (seqS semP ps o).1) : p.2 ∈ ps.flatMap szP := by
  rw [← sizes_seq ps o]; exact List.mem_map_of_mem h
theorem rep_order (B : List Pl) : ∀ (t : Nat) (o : Od), (seqS semP (List.replicate t B).flatten o).2 = itN (fun o => (seqS semP B o).2) t o
  | 0, _ => rfl
  | t + 1, o => by
    rw [List.replicate_succ, List.flatten_cons, seq_app, itN]
    exact rep_order B t _
/-- turns behind the first one have no smaller size -/
theorem rep_keep (B : List Pl) (t : Nat) (o : Od) (m : Int) : keep m (seqS semP (List.replicate (t + 1) B).flatten o).1 = keep m (seqS semP B o).1 ∧ minS m (seqS semP (List.replicate (t + 1) B).flatten o).1 = minS m (seqS semP B o).1 := by
  rw [List.replicate_succ, List.flatten_cons, seq_app, keep_app, minS_app]
  obtain ⟨a, b⟩ := keep_none (m := minS m (seqS semP B o).1) (ps := (seqS semP (List.replicate t B).flatten (seqS semP B o).2).1) fun p hp => by
    have h1 := size_in hp
    obtain ⟨pl, h2, h3⟩ := List.mem_flatMap.mp h1
    obtain ⟨B', h4, h5⟩ := List.mem_flatten.mp h2
    rw [List.mem_replicate] at h4
    rw [h4.2] at h5
    have h6 : p.2 ∈ B.flatMap szP := List.mem_flatMap.mpr ⟨pl, h5, h3⟩
    rw [← sizes_seq B o] at h6
    obtain ⟨q, hq, e⟩ := List.mem_map.mp h6
    rw [← e]
    exact (minS_le m _).2 q hq
  rw [a, b, List.append_nil]
  exact ⟨rfl, rfl⟩
structure SameS (a b : List Pk × Od) : Prop where
  o : a.2 = b.2
  k : ∀ m, keep m a.1 = keep m b.1 ∧ minS m a.1 = minS m b.1
theorem flat_seq {n : Nat} : ∀ {cs : List (Cm n)}, (∀ c ∈ cs, ∀ o, SameS (seqS semP (flat n c) o) (sem n c o)) → ∀ o, SameS (seqS semP (cs.flatMap (flat n)) o) (seqS (sem n) cs o)
  | [], _, o => ⟨rfl, fun _ => ⟨rfl, rfl⟩⟩
  | c :: cs, h, o => by
    have h1 := h c List.mem_cons_self o
    have ih := flat_seq (cs := cs) (fun x hx => h x (List.mem_cons_of_mem _ hx)) (sem n c o).2
    rw [List.flatMap_cons, seq_app, seqS, h1.o]
    refine ⟨ih.o, fun m => ?_⟩
    dsimp only
    rw [keep_app, keep_app, minS_app, minS_app, (h1.k m).1, (h1.k m).2, (ih.k _).1, (ih.k _).2]
    exact ⟨rfl, rfl⟩
theorem flat_sem {tm : Int} : ∀ {n : Nat} {c : Cm n}, CmOk tm n c → ∀ o, SameS (seqS semP (flat n c) o) (sem n c o)
  | 0, p, _, o => by
    show SameS ((semP p o).1 ++ [], (semP p o).2) (semP p o)
    rw [List.append_nil]
    exact ⟨rfl, fun _ => ⟨rfl, rfl⟩⟩
  | n + 1, .inl p, _, o => by
    show SameS ((semP p o).1 ++ [], (semP p o).2) (semP p o)
    rw [List.append_nil]
    exact ⟨rfl, fun _ => ⟨rfl, rfl⟩⟩
  | n + 1, .inr (t, ps), h, o => by
    have q := flat_seq (cs := ps) fun c hc => flat_sem (h.2.2 c hc)
    have h1 := h.1
    obtain ⟨j, hj⟩ : ∃ j, t.toNat = j + 1 := ⟨t.toNat - 1, by omega⟩
    have hf : (fun o => (seqS semP (ps.flatMap (flat n)) o).2) = fun o => (seqS (sem n) ps o).2 := funext fun o => (q o).o
    show SameS (seqS semP (List.replicate t.toNat (ps.flatMap (flat n))).flatten o) _
    rw [hj]
    refine ⟨?_, fun m => ?_⟩
    · rw [rep_order, hf, itN_par (shp_seq fun c _ => shp_sem n c)]
      have : (j + 1) % 2 = 0 ↔ t % 2 = 0 := by omega
      show _ = if t % 2 = 0 then _ else _
      by_cases z : t % 2 = 0
      · rw [if_pos z, if_pos (this.mpr z)]
      · rw [if_neg z, if_neg (fun w => z (this.mp w))]
    · obtain ⟨a, b⟩ := rep_keep (ps.flatMap (flat n)) j o m
      rw [a, b]
      exact (q o).k m
end DL
end L2

set_option Elab.async false
set_option maxRecDepth 100000
set_option maxHeartbeats 4000000
set_option autoImplicit false
namespace L2
namespace DL
open PySem PySem.Spec PyProof.Rows PySem.Calls
variable [Lab]
/-! ### sorted(l), l a list of pairs of ints -/
def pairD (p : Int × Int) : PyData := .tuple [.int p.1, .int p.2]
def leP (p q : Int × Int) : Bool := !SrtO.lexB q p
theorem leP_iff {p q : Int × Int} : leP p q = true ↔ p.1 < q.1 ∨ (p.1 = q.1 ∧ p.2 ≤ q.2) := by
  unfold leP
  rw [Bool.not_eq_true', SrtO.lexB_no]
  omega
def sortPr (ps : List (Int × Int)) : List (Int × Int) := ps.mergeSort leP
theorem perm_uniq {α : Type} {r : α → α → Prop} (anti : ∀ a b, r a b → r b a → a = b) : ∀ {l m : List α}, l.Perm m → l.Pairwise r → m.Pairwise r → l = m
  | [], m, h, _, _ => by rw [List.Perm.nil_eq h]
  | a :: l, [], h, _, _ => by have := h.length_eq; simp at this
  | a :: l, b :: m, h, h1, h2 => by
    rw [List.pairwise_cons] at h1 h2
    have hab : a = b := by
      rcases List.mem_cons.mp (h.mem_iff.mp List.mem_cons_self) with e | ha
      · exact e
      · rcases List.mem_cons.mp (h.mem_iff.mpr List.mem_cons_self) with e | hb
        · exact e.symm
        · exact anti a b (h1.1 b hb) (h2.1 a ha)
    subst hab
    rw [perm_uniq anti (List.Perm.cons_inv h) h1.2 h2.2]
theorem sortPr_sorted (ps : List (Int × Int)) : (sortPr ps).Pairwise fun p q => leP p q = true :=
  List.pairwise_mergeSort (fun a b c h1 h2 => by rw [leP_iff] at *; omega) (fun a b => by
    rw [Bool.or_eq_true, leP_iff, leP_iff]; omega) ps
theorem sortPr_of {l ps : List (Int × Int)} (h : l.Perm ps) (hs : l.Pairwise fun p q => leP p q = true) : l = sortPr ps :=
  perm_uniq (fun a b h1 h2 => by rw [leP_iff] at h1 h2; exact Prod.ext (by omega) (by omega)) (h.trans (List.mergeSort_perm _ _).symm) hs (sortPr_sorted ps)
section
variable {X : Cx} {F : Fm} {e a b : Expr} {f : DEnv → Option (PyData × DEnv)} {pos p : Pos}
omit [Lab] in
theorem pair_one {h : Heap} {v : Value} {i j i' j' : Int} (a : Srt.IsPair h v i j) (b : Srt.IsPair h v i' j') : i = i' ∧ j = j' := by
  obtain ⟨t, o, t1, t2, n, rfl, ho, hc, hd⟩ := a
  obtain ⟨t', o', t1', t2', n', e, ho', hc', hd'⟩ := b
  cases e
  rw [ho] at ho'
  cases ho'
  rw [hd] at hd'
  cases hd'
  exact ⟨rfl, rfl⟩
open Classical in
noncomputable def pairOf (h : Heap) (u : Value) : Int × Int := if z : ∃ p : Int × Int, Srt.IsPair h u p.1 p.2 then Classical.choose z else (0, 0)
omit [Lab] in
theorem pairOf_is {h : Heap} {u : Value} {p : Int × Int} (z : Srt.IsPair h u p.1 p.2) : pairOf h u = p := by
  have ex : ∃ p : Int × Int, Srt.IsPair h u p.1 p.2 := ⟨p, z⟩
  unfold pairOf
  rw [dif_pos ex]
  obtain ⟨e1, e2⟩ := pair_one (Classical.choose_spec ex) z
  exact Prod.ext e1 e2
omit [Lab] in
theorem cr_sortPr : CallR X (.builtin "sorted") (fun vs H Q => ∃ (a : Addr) (xs : List V) (ps : List (Int × Int)), vs = [V.ref a] ∧ SqL X.K H a xs ∧ xs.length = ps.length ∧ (∀ (i : Nat) (x : V) (p : Int × Int), xs[i]? = some x → ps[i]? = some p → ∃ t, x = V.ref t ∧ SqT X.K H t [.int p.1, .int p.2]) ∧
    ∀ (zs : List (V × Int × Int)) (d : Addr), zs.Perm (xs.zip ps) → (zs.map (·.2)).Pairwise (fun p q => leP p q = true) → H d = none → Q (.ref d) (upd H d (.lst (zs.map (·.1))))) := by
  intro pins s σ H vs us Q I r h
  obtain ⟨a, xs, ps, rfl, hs, hl0, hx, q⟩ := h
  obtain ⟨its, rv, hl, hz⟩ := I.list hs
  obtain ⟨u0, e0, ru0⟩ := vals1 r
  subst e0
  obtain rfl : u0 = Value.ref a := ru0
  have hlen := rv.length
  have allref : ∀ x ∈ xs, ∃ t, x = V.ref t := fun x hm => by
    obtain ⟨i, hi, he⟩ := List.getElem_of_mem hm
    obtain ⟨t, et, _⟩ := hx i x ps[i] (by rw [List.getElem?_eq_getElem hi, he]) (List.getElem?_eq_getElem (by omega))
    exact ⟨t, et⟩
  obtain ⟨eb, er⟩ := refs_back rv allref
  have isP : ∀ (i : Nat) (u : Value) (p : Int × Int), its[i]? = some u → ps[i]? = some p → Srt.IsPair s.heap u p.1 p.2 := fun i u p hu hp => by
    have hxi : xs[i]? = some (backV u) := by rw [eb, List.getElem?_map, hu]; rfl
    obtain ⟨t, et, ht⟩ := hx i _ p hxi hp
    obtain ⟨t', rfl⟩ := er u (List.mem_of_getElem? hu)
    have ett : t' = t := V.ref.inj et
    subst ett
    obtain ⟨w, r2, ⟨o, ho, hc, n, hd⟩, _⟩ := I.tuple ht
    obtain ⟨u1, u2, rfl, ⟨k1, rfl⟩, ⟨k2, rfl⟩⟩ := vals2 r2
    exact ⟨t', o, k1, k2, n, rfl, ho, hc, hd⟩
  have zipE : its.map (fun u => (backV u, pairOf s.heap u)) = xs.zip ps := by
    refine List.ext_getElem? fun i => ?_
    rw [List.getElem?_map]
    cases hu : its[i]? with
    | none =>
      have : its.length ≤ i := List.getElem?_eq_none_iff.mp hu
      rw [List.getElem?_eq_none (by rw [List.length_zip]; omega)]
      rfl
    | some u =>
      obtain ⟨hi, _⟩ := List.getElem?_eq_some_iff.mp hu
      have hp : ps[i]? = some ps[i] := List.getElem?_eq_getElem (by omega)
      have hxi : xs[i]? = some (backV u) := by rw [eb, List.getElem?_map, hu]; rfl
      have hzip : (xs.zip ps)[i]? = some (backV u, ps[i]) := List.getElem?_zip_eq_some.mpr ⟨hxi, hp⟩
      rw [hzip]
      show some (backV u, pairOf s.heap u) = _
      rw [pairOf_is (isP i u _ hu hp)]
  refine SrtO.sorted_pairsO (k := pairOf s.heap) hl.isList (by rw [← hlen]; exact hz) (fun v hv => ?_) fun h' d out h1 h2 kp hd hn => ?_
  · obtain ⟨i, hi, he⟩ := List.getElem_of_mem hv
    have hp : ps[i]? = some ps[i] := List.getElem?_eq_getElem (by omega)
    have := isP i v _ (by rw [List.getElem?_eq_getElem hi, he]) hp
    rw [pairOf_is this]
    exact this
  · have h3 : ∀ u ∈ out, ∃ t, u = Value.ref t := fun u hu => er u (h2.perm.mem_iff.mp hu)
    obtain ⟨n, hn⟩ := hn
    have hq := q (out.map fun u => (backV u, pairOf s.heap u)) d (by rw [← zipE]; exact h2.perm.map _) (by
      rw [List.map_map, List.pairwise_map]
      exact h1.imp fun {x y} hh => by
        have h4 : SrtO.lexB (pairOf s.heap y) (pairOf s.heap x) = false := hh
        show (!SrtO.lexB (pairOf s.heap y) (pairOf s.heap x)) = true
        rw [h4]; rfl) (I.hok.fresh hd)
    rw [List.map_map] at hq
    refine ⟨.ref d, upd H d (.lst (out.map backV)), I.laid (t' := s.toks) kp hd ⟨?_, out, n, vals_back h3, hn⟩, rfl, hq⟩
    rw [List.length_map, h2.perm.length_eq, ← hlen]
    exact hz
def pairsL : List PyData → Option (List (Int × Int))
  | [] => some []
  | .tuple [.int i, .int j] :: r => (pairsL r).map ((i, j) :: ·)
  | _ => none
theorem pairsL_map : ∀ ps : List (Int × Int), pairsL (ps.map pairD) = some ps
  | [] => rfl
  | p :: ps => by
    show (pairsL (ps.map pairD)).map (p :: ·) = _
    rw [pairsL_map ps]
    rfl
theorem pairsL_of : ∀ {ds : List PyData} {ps : List (Int × Int)}, pairsL ds = some ps → ds = ps.map pairD
  | [], ps, h => by cases h; rfl
  | d :: ds, ps, h => by
    unfold pairsL at h
    split at h
    · rename_i e; cases e
    · rename_i i j r e
      cases e
      obtain ⟨qs, h1, rfl⟩ := mpd h
      rw [pairsL_of h1]
      rfl
    · cases h
def nSortP (f : DEnv → Option (PyData × DEnv)) (env : DEnv) : Option (List PyData × DEnv) := (f env).bind fun x => match x.1 with
  | .list ds => (pairsL ds).map fun ps => ((sortPr ps).map pairD, x.2)
  | _ => none
theorem pn_sortP (hm : X.mg "sorted" = none) (ha : PD X F e f) (hg : Gl X "sorted" := by rfl) (he : starEach [e] X.env = (false, eval e X.env) :: starEach [] X.env := by rfl) (hpl : (backTo pos (starEach [] X.env)).any (·.1) = false := by rfl) :
    PN X F (.Call (.Name "sorted" p) [e] [] pos) (nSortP f) := pe_imp (pe_callB (p := p) (pos := pos) (cr_sortPr (X := X)) hg hm (by decide +kernel) (pa_cons ha pa_nil he) (by decide) (by decide) he hpl) fun σ H Q h => by
  obtain ⟨Z, env, d, env', r, e, q⟩ := h
  obtain ⟨⟨d0, e1⟩, g1, e⟩ := bnd e
  match d0, g1, e with
  | .list ds, g1, e =>
    obtain ⟨ps, g2, e⟩ := mpd e
    cases e
    cases pairsL_of g2
    refine ⟨Z, env, _, _, r, g1, fun v Z1 H1 r1 s1 d1 => ?_⟩
    cases d1 with
    | @lst a xs _ hx dx =>
      have hl := dds_len dx
      rw [List.length_map] at hl
      refine ⟨a, xs, ps, rfl, (same_ls r1.zh hx).sq, hl, fun i x p hxi hpi => ?_, fun zs dd hz hs hn => ?_⟩
      · obtain ⟨w, hw, dw⟩ := dds_get' dx hxi
        rw [List.getElem?_map, hpi] at hw
        cases hw
        cases dw with
        | @tup t ys _ ht dy =>
          cases dy with
          | cons y1 yr =>
            cases yr with
            | cons y2 yn =>
              cases yn
              cases y1.int_inv
              cases y2.int_inv
              exact ⟨t, rfl, same_sqT r1.zh ht⟩
      · have e2 : zs.map (·.2) = sortPr ps := sortPr_of (by
          have := hz.map (·.2)
          rwa [List.map_snd_zip (by omega)] at this) hs
        have dz : DDs X.K Z1 (zs.map (·.1)) ((zs.map (·.2)).map pairD) := by
          have all : ∀ w ∈ zs, DD X.K Z1 w.1 (pairD w.2) := fun w hw => by
            have hm := hz.mem_iff.mp hw
            obtain ⟨i, hi, he⟩ := List.getElem_of_mem hm
            have g := List.getElem?_eq_getElem hi
            rw [he, List.getElem?_zip_eq_some] at g
            obtain ⟨d', hd', dd'⟩ := dds_get' dx g.1
            rw [List.getElem?_map, g.2] at hd'
            cases hd'
            exact dd'
          clear hz hs e2
          induction zs with
          | nil => exact .nil
          | cons w zs ih => exact .cons (all w List.mem_cons_self) (ih fun x hx => all x (List.mem_cons_of_mem _ hx))
        rw [e2] at dz
        have gr := grow_own r1.zh hn (.lst (zs.map (·.1)))
        exact q dd _ _ _ (r1.grow gr) (s1.trans gr.stp) (s1.new hn) (r1.zh.free hn) upd_same dz
theorem ev_sortP {env e1 : DEnv} {ps : List (Int × Int)} (h : f env = some (.list (ps.map pairD), e1)) : nSortP f env = some ((sortPr ps).map pairD, e1) := by
  unfold nSortP; rw [h]; show (pairsL (ps.map pairD)).map _ = _; rw [pairsL_map]; rfl
end
end DL
end L2

set_option Elab.async false
set_option maxRecDepth 100000
set_option maxHeartbeats 4000000
set_option autoImplicit false
namespace L2
namespace DL
open PySem PySem.Spec PyProof.Rows PySem.Calls
variable [Lab]
section
variable {X : Cx} {F : Fm} {a e : Expr} {f : DEnv → Option (PyData × DEnv)} {pos p : Pos} {pins : List (Addr × Obj)} {σ : St} {H : Hp} {s : Shared}
/-! ### min of three -/
def min3D : List PyData → Option PyData
  | [.int i, .int j, .int k] => some (.int (if k < (if j < i then j else i) then k else (if j < i then j else i)))
  | _ => none
theorem cd_min3 (hc : X.calm = true) : CallD X (.builtin "min") min3D := by
  intro pins s σ H xs us Q I r h
  obtain ⟨Z, ds, d, sz, hd, e, q⟩ := h
  match ds, hd, e with
  | [.int i, .int j, .int k], hd, e =>
    cases e
    cases hd with
    | cons h1 hd =>
      cases hd with
      | cons h2 hd =>
        cases hd with
        | cons h3 hn =>
          cases hn
          cases h1.int_inv
          cases h2.int_inv
          cases h3.int_inv
          refine call_min3Nu hc pins s σ H _ us Q I r ⟨.int i, .int j, .int k, .int (if k < (if j < i then j else i) then k else (if j < i then j else i)), rfl, ?_, q _ Z H (Grow.refl sz) (.int _)⟩
          by_cases z1 : j < i
          · rw [if_pos z1]
            by_cases z2 : k < j
            · rw [if_pos z2]; simp [nuMin3, nuMin2, nuLt, nuCB, z1, z2]
            · rw [if_neg z2]; simp [nuMin3, nuMin2, nuLt, nuCB, z1, z2]
          · rw [if_neg z1]
            by_cases z2 : k < i
            · rw [if_pos z2]; simp [nuMin3, nuMin2, nuLt, nuCB, z1, z2]
            · rw [if_neg z2]; simp [nuMin3, nuMin2, nuLt, nuCB, z1, z2]
/-! ### tuple(range(e)) -/
def fTupRg (f : DEnv → Option (PyData × DEnv)) (env : DEnv) : Option (PyData × DEnv) := (f env).bind fun x => match x.1 with
  | .int j => if j ≤ 100000 ∧ -100000 ≤ j then some (.tuple (rangeD 0 j.toNat), x.2) else none
  | _ => none
theorem pd_tupRg (hml : X.mg "tuple" = none) (hmr : X.mg "range" = none) (ha : PD X F a f) (hc : X.calm = true := by rfl) (hgl : Gl X "tuple" := by rfl) (hgr : Gl X "range" := by rfl) {q0 q1 : Pos} (na : starEach [a] X.env = (false, eval a X.env) :: starEach [] X.env := by rfl)
    (na2 : starEach [.Call (.Name "range" q0) [a] [] q1] X.env = (false, eval (.Call (.Name "range" q0) [a] [] q1) X.env) :: starEach [] X.env := by rfl) :
    PD X F (.Call (.Name "tuple" p) [.Call (.Name "range" q0) [a] [] q1] [] pos) (fTupRg f) := pe_imp (pe_tupRg hc hgl hml (prg_1 hgr hmr ha na) na2) fun σ H Q h => by
  obtain ⟨Z, env, d, env', r, e, q⟩ := h
  obtain ⟨⟨i, e1⟩, h1, e⟩ := bnd e
  match i, h1, e with
  | .int j, h1, e =>
    change (if j ≤ 100000 ∧ -100000 ≤ j then some (PyData.tuple (rangeD 0 j.toNat), e1) else none) = some (d, env') at e
    split at e
    case isFalse => cases e
    rename_i hj
    cases e
    refine ⟨Z, env, .int j, env', r, h1, fun v Z1 H1 r1 s1 d1 => ?_⟩
    cases d1.int_inv
    refine ⟨j, rfl, ⟨by omega, by omega, by omega, by omega, by omega⟩, fun p hp => ?_⟩
    have gr := grow_new r1.zh hp (.tup (rgV 0 j))
    exact q _ _ _ (r1.grow gr) (s1.trans gr.stp) (new_tup r1.zh hp (dds_range j))
theorem ev_tupRg {env e1 : DEnv} {j : Nat} (h : f env = some (.int j, e1)) (hj : j ≤ 100000) : fTupRg f env = some (.tuple (rangeD 0 j), e1) := by
  unfold fTupRg; rw [h]
  show (if (j : Int) ≤ 100000 ∧ -100000 ≤ (j : Int) then some (PyData.tuple (rangeD 0 ((j : Nat) : Int).toNat), e1) else none) = _
  rw [if_pos (by omega), Int.toNat_natCast]
/-! ### sorted(t, key=lambda y: body), t a tuple -/
def nSortT (fi fb : DEnv → Option (PyData × DEnv)) (env : DEnv) : Option (List PyData × DEnv) := (fi env).bind fun x => match x.1 with
  | .tuple ds => (keysD fb x.2 ds).bind fun ks => if ks.all intsT then some (sortD ds ks, x.2) else none
  | _ => none
theorem sorted_tupK {tt f c' : Addr} {k : Nat} {y : Str} {scope : Scope} {params : Arguments} {body : Expr} {fb : DEnv → Option (PyData × DEnv)} {ts : List V} {ds ks : List PyData} {Z : Hp} {env : DEnv} {Q : VK} {E : Value → Shared → Prop}
    (kf : KeyFn X F X.A.in1.in1 k y scope params body fb f c') (I : Inv X pins σ H s) (r : Rel X.K F Z H σ env) (ht : SqT X.K H tt ts) (dt : DDs X.K Z ts ds) (hf : H f = some (LamO f (lamQ X) params body scope (cloFrom X.env.cells scope.names []) c')) (hc : H c' = some (LamX.CodeO c' (lamQ X)))
    (ko : KeysOk X.A.in1.in1 fb env ds ks)
    (h : ∀ p xs Z' H', Grow Z H Z' H' → H p = none → H' p = none → DDs X.K Z' xs (sortD ds ks) → Q (.ref p) (upd H' p (.lst xs))) :
    wpAny (model X.prog X.w) X.A (call (.builtin "sorted") [.ref tt] [(Str.ofString "key", .ref f)]) (EP X pins σ Q) E s := by
  obtain ⟨its, rv, ⟨o, ho, hoc, n, hod⟩, hz⟩ := I.tuple ht
  have hZ : its.length ≤ sizeLine := by rw [← rv.length]; exact hz
  refine call_function_entry_kw kind_sorted plain_sorted entry_sorted (ksk_s1 _ _) ?_
  unfold Builtin.«sorted»
  refine wpAny_bind (m := checkCount "sorted" 1 1 _) (wpAny_pure ?_)
  refine wpAny_bind (wpAny_collect_seq tt (.inr rfl) ho hoc hod (fun h1 kp => ?_) (by rw [List.size_toArray]; exact hZ))
  refine wpAny_bind (wpAny_newList ?_ (by simpa using hZ))
  rw [List.toList_toArray]
  have I1 : Inv X pins σ H { s with heap := h1 } := I.kept (t' := s.toks) kp
  have na : Nu X pins h1.objs.size := Nu.new I1 (Nat.le_refl _)
  have hna : H h1.objs.size = none := I1.hok.fresh (Nat.le_refl _)
  have I2 : Inv X pins σ H { s with heap := h1.push (seqObj "list" its.toArray 0) } := I1.kept (t' := s.toks) fun b o e => Heap.get?_push_of_some _ e
  have ga : (h1.push (seqObj "list" its.toArray 0)).get? h1.objs.size = some (seqObj "list" its.toArray 0) := Heap.get?_push_size _ rfl
  refine wpAny_bind (wpAny_holding (wpAny_call_entry_kw slot_list_sort ⟨_, ga, rfl⟩ entry_list_sort ?_ (ksk_l1 _ _)))
  show wpAny (model X.prog X.w) X.A.in1.in1 (Builtin.«list.sort» ⟨[.ref h1.objs.size], [(Str.ofString "key", .ref f)]⟩) _ _ _
  rw [ksk_t1]
  refine sort_run kf I2 r hf hc ga na hna rv dt ko hZ fun Z' H' s' xs' I' g' n' d' => ⟨_, rfl, wpAny_pure ⟨_, rfl, ?_⟩⟩
  exact ⟨.ref h1.objs.size, _, I', rfl, h _ _ _ _ g' hna n' d'⟩
theorem pn_sortT {c P : Addr} {k : Nat} {y : Str} {params : Arguments} {body : Expr} {scope : Scope} {lpos kpos : Pos} {fi fb : DEnv → Option (PyData × DEnv)} (hms : X.mg "sorted" = none)
    (tb0 : LamX.TabB X.base X.mg c P) (hcode : X.env.code = .ref c) (hm : (P, lamQ X) ∈ Lab.T) (hu : ∀ p ∈ Lab.T, p.1 = P → p.2 = lamQ X) (L : Lam1 X.env.scope scope y) (hr : Room (k + 3) X.A) (nyB : (X.N.all fun z => !(z == y)) = true)
    (bind : ∀ (u : Value) (q : Str) (cl : List (Str × Addr)) (pm cv ctv : Value), bindArgs (PySem.W.kla_fn "<lambda>" q params body scope cl pm cv ctv) ⟨[u], []⟩ = pure [(y, u)]) (ha : PD X F a fi)
    (hbody : ∀ (s : Shared) (H : Hp) (f c' : Addr), Room k (X.A.in1.in1.deeper (LamX.lamEnv X scope s.heap.objs.size f c')) → PD (lam1Cx X X.A.in1.in1 X.stack s H (fun _ _ _ => False) scope f c' y) F body fb)
    (hdef : defaultsOf params X.env = ([], []) := by rfl) (hgs : Gl X "sorted" := by rfl)
    (na2 : starEach [a] X.env = (false, eval a X.env) :: starEach [] X.env := by rfl)
    (he : backTo pos (starEach [a] X.env) = (false, eval a X.env) :: backTo pos (starEach [] X.env) := by rfl) (hpl : (backTo pos (starEach [a] X.env)).any (·.1) = false := by rfl) :
    PN X F (.Call (.Name "sorted" p) [a] [⟨some "key", .Lambda params body scope lpos, kpos⟩] pos) (nSortT fi fb) := by
  have ny : y ∉ X.N := fun z => by
    have := List.all_eq_true.mp nyB y z
    simp at this
  have h0 := pe_callKs (X := X) (x := "sorted") (id := "sorted") (p := p) (pos := pos) (ks := [Str.ofString "key"]) (kws := [⟨some "key", .Lambda params body scope lpos, kpos⟩])
    (r := fun σ xs zs H Q => ∃ tt ts ds f c' Z env ks, xs = [V.ref tt] ∧ zs = [V.ref f] ∧ Rel X.K F Z H σ env ∧ SqT X.K H tt ts ∧ DDs X.K Z ts ds ∧ H f = some (LamO f (lamQ X) params body scope (cloFrom X.env.cells scope.names []) c') ∧ H c' = some (LamX.CodeO c' (lamQ X)) ∧
      keysD fb env ds = some ks ∧ ks.all intsT = true ∧ ∀ p xs Z' H', Grow Z H Z' H' → H p = none → H' p = none → DDs X.K Z' xs (sortD ds ks) → Q (.ref p) (upd H' p (.lst xs)))
    (fun pins s σ H xs zs us ws Q I rx rz ⟨tt, ts, ds, f, c', Z, env, ks, e1, e2, r, h1, h1', h2, h3, h5, h6, q⟩ => by
      subst e1 e2
      cases rx with
      | cons a1 a2 =>
        cases a2
        cases rz with
        | cons b1 b2 =>
          cases b2
          cases a1
          cases b1
          have kf : KeyFn X F X.A.in1.in1 k y scope params body fb f c' := ⟨L, I.env0.frames, hr.in1.in1, ny, bind, fun s H hr' => hbody s H f c' hr'⟩
          exact sorted_tupK kf I r h1 h1' h2 h3 (keys_ok h5 h6 (by have := hr.in1.in1.un; omega)) q)
    hgs hms (by decide +kernel) (pa_cons ha pa_nil na2) (pk_cons (pe_lam tb0 hcode hm hu (fun ok => L.has ok) hdef) pk_nil) (by decide) (by decide) he hpl rfl rfl rfl
  refine pe_imp h0 fun σ H Q h => ?_
  obtain ⟨Z, env, ds0, env', r, e, q⟩ := h
  obtain ⟨⟨d, e1⟩, h1, e⟩ := bnd e
  match d, h1, e with
  | .tuple ds, h1, e =>
    obtain ⟨ks, h2, e⟩ := bnd e
    change (if ks.all intsT = true then some (sortD ds ks, e1) else none) = some (ds0, env') at e
    split at e
    case isFalse => cases e
    rename_i hk
    obtain ⟨rfl, rfl⟩ := Prod.mk.inj (Option.some.inj e)
    refine ⟨Z, env, .tuple ds, e1, r, h1, fun v Z1 H1 r1 s1 d1 => ?_⟩
    cases d1 with
    | @tup tt ts _ ht dt =>
      refine ⟨r1.tb, fun f c' H2 sm tb2 hf0 hf hc => ?_⟩
      have g2 : Grow Z1 H1 Z1 H2 := ⟨Same.refl _, r1.zh.trans sm, sm, fun _ => tb2, fun _ z => .inl z⟩
      have r3 := r1.grow g2
      refine ⟨tt, ts, ds, f, c', Z1, e1, ks, rfl, rfl, r3, same_sqT r3.zh ht, dt, hf, hc, h2, hk, fun p xs Z' H' g3 hp hp' dd => ?_⟩
      have g4 := grow_own (r3.grow g3).zh hp' (.lst xs)
      have st := (s1.trans g2.stp).trans (g3.trans g4).stp
      exact q p xs Z' _ (r3.grow (g3.trans g4)) st ((s1.trans g2.stp).new hp) ((r3.grow g3).zh.free hp') upd_same dd
end
end DL
end L2

set_option Elab.async false
set_option maxRecDepth 100000
set_option maxHeartbeats 4000000
set_option autoImplicit false
namespace L2
namespace DL
open PySem PySem.Spec PyProof.Rows
/-! ### lists of ints by the first that parts them -/
theorem lex_cons {x y : Int} {xs ys : List Int} : (x :: xs) < (y :: ys) ↔ x < y ∨ (x = y ∧ xs < ys) := List.cons_lt_cons_iff
theorem lex_nil {xs : List Int} : ¬ xs < [] := List.not_lt_nil xs
theorem lex_tri : ∀ {xs ys : List Int}, xs.length = ys.length → xs < ys ∨ xs = ys ∨ ys < xs
  | [], [], _ => .inr (.inl rfl)
  | x :: xs, y :: ys, h => by
    rw [lex_cons, lex_cons]
    rcases Int.lt_trichotomy x y with h1 | h1 | h1
    · exact .inl (.inl h1)
    · subst h1
      rcases lex_tri (xs := xs) (ys := ys) (by simpa using h) with h2 | h2 | h2
      · exact .inl (.inr ⟨rfl, h2⟩)
      · exact .inr (.inl (by rw [h2]))
      · exact .inr (.inr (.inr ⟨rfl, h2⟩))
    · exact .inr (.inr (.inl h1))
theorem lex_asymm : ∀ {xs ys : List Int}, xs < ys → ¬ ys < xs
  | [], _, _, h2 => lex_nil h2
  | _ :: _, [], h1, _ => lex_nil h1
  | x :: xs, y :: ys, h1, h2 => by
    rw [lex_cons] at h1 h2
    rcases h1 with h1 | ⟨rfl, h1⟩
    · rcases h2 with h2 | ⟨h2, _⟩ <;> omega
    · rcases h2 with h2 | ⟨_, h2⟩
      · omega
      · exact lex_asymm h1 h2
theorem lex_neg : ∀ {xs ys : List Int}, xs.length = ys.length → (xs.map (- ·) < ys.map (- ·) ↔ ys < xs)
  | [], [], _ => ⟨fun h => absurd h lex_nil, fun h => absurd h lex_nil⟩
  | x :: xs, y :: ys, h => by
    rw [List.map_cons, List.map_cons, lex_cons, lex_cons, lex_neg (xs := xs) (ys := ys) (by simpa using h)]
    constructor
    · rintro (h1 | ⟨h1, h2⟩)
      · exact .inl (by omega)
      · exact .inr ⟨by omega, h2⟩
    · rintro (h1 | ⟨h1, h2⟩)
      · exact .inl (by omega)
      · exact .inr ⟨by omega, h2⟩
theorem lex_snoc : ∀ {xs ys : List Int} {a b : Int}, xs.length = ys.length → (xs ++ [a] < ys ++ [b] ↔ xs < ys ∨ (xs = ys ∧ a < b))
  | [], [], a, b, _ => by
    rw [List.nil_append, List.nil_append, lex_cons]
    constructor
    · rintro (h | ⟨_, h⟩)
      · exact .inr ⟨rfl, h⟩
      · exact absurd h lex_nil
    · rintro (h | ⟨_, h⟩)
      · exact absurd h lex_nil
      · exact .inl h
  | x :: xs, y :: ys, a, b, h => by
    rw [List.cons_append, List.cons_append, lex_cons, lex_cons, lex_snoc (xs := xs) (ys := ys) (by simpa using h)]
    constructor
    · rintro (h1 | ⟨rfl, h2 | ⟨rfl, h3⟩⟩)
      · exact .inl (.inl h1)
      · exact .inl (.inr ⟨rfl, h2⟩)
      · exact .inr ⟨rfl, h3⟩
    · rintro ((h1 | ⟨rfl, h2⟩) | ⟨h2, h3⟩)
      · exact .inl h1
      · exact .inr ⟨rfl, .inl h2⟩
      · cases h2
        exact .inr ⟨rfl, .inr ⟨rfl, h3⟩⟩
/-! ### one list alone is sorted -/
theorem sorted_uniq {α : Type} {lt : α → α → Prop} (asym : ∀ a b, lt a b → ¬ lt b a) : ∀ {l m : List α}, l.Perm m → l.Pairwise lt → m.Pairwise lt → l = m
  | [], m, h, _, _ => by rw [List.Perm.nil_eq h]
  | a :: l, [], h, _, _ => by have := h.length_eq; simp at this
  | a :: l, b :: m, h, h1, h2 => by
    rw [List.pairwise_cons] at h1 h2
    have hab : a = b := by
      have ha : a ∈ b :: m := h.mem_iff.mp List.mem_cons_self
      have hb : b ∈ a :: l := h.mem_iff.mpr List.mem_cons_self
      rcases List.mem_cons.mp ha with e | ha
      · exact e
      · rcases List.mem_cons.mp hb with e | hb
        · exact e.symm
        · exact absurd (h1.1 b hb) (asym _ _ (h2.1 a ha))
    subst hab
    rw [sorted_uniq asym (List.Perm.cons_inv h) h1.2 h2.2]
/-- the places by their keys -/
def plc (n : Nat) (kv : Nat → List Int) : List Nat := (List.range n).mergeSort (PySem.W.dataLe false fun i : Nat => PyData.tuple ((kv i).map .int))
theorem dataLt_tups (xs ys : List Int) : PySem.W.dataLt (.tuple (xs.map .int)) (.tuple (ys.map .int)) = decide (xs < ys) := by
  have := PySem.W.dataLt_ints xs ys
  rw [← this]
  rfl
theorem plc_perm (n : Nat) (kv : Nat → List Int) : (plc n kv).Perm (List.range n) := List.mergeSort_perm _ _
structure KvOk (n : Nat) (kv : Nat → List Int) : Prop where
  len : ∀ i j, i < n → j < n → (kv i).length = (kv j).length
  inj : ∀ i j, i < n → j < n → kv i = kv j → i = j
theorem plc_sorted {n : Nat} {kv : Nat → List Int} (h : KvOk n kv) : (plc n kv).Pairwise fun i j => kv i < kv j := by
  have h0 := PySem.W.sort_pairwise (le := PySem.W.dataLe false fun i : Nat => PyData.tuple ((kv i).map .int)) (PySem.W.sortLe_total _ false _) (List.range n)
  have nd : (plc n kv).Nodup := (plc_perm n kv).nodup_iff.mpr List.nodup_range
  have h1 : (plc n kv).Pairwise fun i j => ¬ kv j < kv i := by
    refine List.Pairwise.imp (fun {i j} hij => ?_) h0
    have : (!PySem.W.dataLt (.tuple ((kv j).map .int)) (.tuple ((kv i).map .int))) = true := hij
    rw [dataLt_tups] at this
    simpa using this
  have mem : ∀ i ∈ plc n kv, i < n := fun i hi => List.mem_range.mp ((plc_perm n kv).mem_iff.mp hi)
  refine List.Pairwise.imp_of_mem (fun {i j} hi hj hij => ?_) (h1.and nd)
  rcases lex_tri (h.len i j (mem i hi) (mem j hj)) with z | z | z
  · exact z
  · exact absurd (h.inj i j (mem i hi) (mem j hj) z) hij.2
  · exact absurd z hij.1
theorem plc_of {n : Nat} {kv : Nat → List Int} (h : KvOk n kv) {l : List Nat} (hp : l.Perm (List.range n)) (hs : l.Pairwise fun i j => kv i < kv j) : plc n kv = l :=
  sorted_uniq (fun _ _ => lex_asymm) ((plc_perm n kv).trans hp.symm) (plc_sorted h) hs
theorem plc_len (n : Nat) (kv : Nat → List Int) : (plc n kv).length = n := by rw [(plc_perm n kv).length_eq, List.length_range]
theorem plc_lt {n : Nat} {kv : Nat → List Int} {i : Nat} (h : i ∈ plc n kv) : i < n := List.mem_range.mp ((plc_perm n kv).mem_iff.mp h)
abbrev Tab := List (List Int)
def rowD (r : List Int) : PyData := .tuple (r.map .int)
def tabD (t : Tab) : PyData := .tuple (t.map rowD)
def sg (d : Str) (x : Int) : Int := if d = "up" then x else -x
def cellT (t : Tab) (i : Nat) (c : Int) : Int := (t.getD i []).getD c.toNat 0
def kvs (t : Tab) (ks : List Ky) (i : Nat) : List Int := ks.map fun k => sg k.2 (cellT t i k.1)
def kv (t : Tab) (ks : List Ky) (s : Str) (i : Nat) : List Int := kvs t ks i ++ [sg s i]
structure TabW (w : Nat) (t : Tab) : Prop where
  l1 : 1 ≤ t.length
  l2 : t.length ≤ 30
  w1 : 1 ≤ w
  w5 : w ≤ 5
  row : ∀ r ∈ t, r.length = w
theorem sg_inj {d : Str} {x y : Int} (h : sg d x = sg d y) : x = y := by
  unfold sg at h
  split at h <;> omega
theorem kvs_len (t : Tab) (ks : List Ky) (i : Nat) : (kvs t ks i).length = ks.length := List.length_map ..
theorem kv_ok (n : Nat) (t : Tab) (ks : List Ky) (s : Str) : KvOk n (kv t ks s) := by
  refine ⟨fun i j _ _ => ?_, fun i j _ _ h => ?_⟩
  · unfold kv
    rw [List.length_append, List.length_append, kvs_len, kvs_len]
    rfl
  · unfold kv at h
    have := (List.append_inj' h rfl).2
    have h2 := sg_inj (List.cons.inj this).1
    omega
/-! ### places by an order -/
def kvO (t : Tab) (o : Od) (i : Nat) : List Int := kv t (o.1.map toKy) (dS o.2) i
def srtP (key : Nat → List Int) (l : List Nat) : List Nat := l.mergeSort (PySem.W.dataLe false fun i : Nat => PyData.tuple ((key i).map .int))
structure KvA (key : Nat → List Int) : Prop where
  len : ∀ i j, (key i).length = (key j).length
  inj : ∀ i j, key i = key j → i = j
theorem kvO_a (t : Tab) (o : Od) : KvA (kvO t o) := by
  refine ⟨fun i j => ?_, fun i j h => ?_⟩
  · unfold kvO kv
    rw [List.length_append, List.length_append, kvs_len, kvs_len]
    rfl
  · unfold kvO kv at h
    have h2 := sg_inj (List.cons.inj (List.append_inj' h rfl).2).1
    omega
theorem srtP_perm (key : Nat → List Int) (l : List Nat) : (srtP key l).Perm l := List.mergeSort_perm _ _
theorem srtP_len (key : Nat → List Int) (l : List Nat) : (srtP key l).length = l.length := (srtP_perm key l).length_eq
theorem srtP_nodup {key : Nat → List Int} {l : List Nat} (h : l.Nodup) : (srtP key l).Nodup := (srtP_perm key l).nodup_iff.mpr h
theorem srtP_sorted {key : Nat → List Int} (h : KvA key) {l : List Nat} (nd : l.Nodup) : (srtP key l).Pairwise fun i j => key i < key j := by
  have h0 := PySem.W.sort_pairwise (le := PySem.W.dataLe false fun i : Nat => PyData.tuple ((key i).map .int)) (PySem.W.sortLe_total _ false _) l
  have h1 : (srtP key l).Pairwise fun i j => ¬ key j < key i := by
    refine List.Pairwise.imp (fun {i j} hij => ?_) h0
    have : (!PySem.W.dataLt (.tuple ((key j).map .int)) (.tuple ((key i).map .int))) = true := hij
    rw [dataLt_tups] at this
    simpa using this
  refine List.Pairwise.imp (fun {i j} hij => ?_) (h1.and (srtP_nodup (key := key) nd))
  rcases lex_tri (h.len i j) with z | z | z
  · exact z
  · exact absurd (h.inj i j z) hij.2
  · exact absurd z hij.1
theorem srtP_of {key : Nat → List Int} (h : KvA key) {l m : List Nat} (nd : l.Nodup) (hp : m.Perm l) (hs : m.Pairwise fun i j => key i < key j) : srtP key l = m :=
  sorted_uniq (fun _ _ => lex_asymm) ((srtP_perm key l).trans hp.symm) (srtP_sorted h nd) hs
theorem srtP_congr {key : Nat → List Int} (h : KvA key) {l m : List Nat} (nd : l.Nodup) (hp : l.Perm m) : srtP key l = srtP key m :=
  srtP_of h nd ((srtP_perm key m).trans hp.symm) (srtP_sorted h (hp.nodup_iff.mp nd))
theorem sg_flip (b : Bool) (x : Int) : sg (dS (!b)) x = - sg (dS b) x := by
  cases b
  · show (if ("up" : Str) = "up" then x else -x) = -(if ("down" : Str) = "up" then x else -x)
    rw [if_pos rfl, if_neg (by decide)]
    omega
  · show (if ("down" : Str) = "up" then x else -x) = -(if ("up" : Str) = "up" then x else -x)
    rw [if_pos rfl, if_neg (by decide)]
theorem kvO_fl (t : Tab) (o : Od) (i : Nat) : kvO t (flO o) i = (kvO t o i).map (- ·) := by
  unfold kvO kv kvs flO
  rw [List.map_append, List.map_map, List.map_map, List.map_map, List.map_map]
  congr 1
  · refine List.map_congr_left fun k _ => ?_
    show sg (dS (!k.2)) (cellT t i k.1) = - sg (dS k.2) (cellT t i k.1)
    exact sg_flip _ _
  · show [sg (dS (!o.2)) i] = [- sg (dS o.2) i]
    rw [sg_flip]
theorem srtP_fl (t : Tab) (o : Od) {l : List Nat} (nd : l.Nodup) : srtP (kvO t (flO o)) l = (srtP (kvO t o) l).reverse := by
  refine srtP_of (kvO_a t _) nd ((List.reverse_perm _).trans (srtP_perm _ l)) ?_
  rw [List.pairwise_reverse]
  refine List.Pairwise.imp (fun {i j} hij => ?_) (srtP_sorted (kvO_a t o) nd)
  rw [kvO_fl, kvO_fl]
  exact (lex_neg ((kvO_a t o).len _ _)).mpr hij
/-! ### what picks leave -/
def pickedP (t : Tab) : List Pk → List Nat → List Nat
  | [], l => l
  | p :: ps, l => pickedP t ps ((srtP (kvO t p.1) l).take p.2.toNat)
def runP (t : Tab) (r : List Pk × Od) : List Nat := srtP (kvO t r.2) (pickedP t r.1 (List.range t.length))
theorem pickedP_app (t : Tab) : ∀ (a b : List Pk) (l : List Nat), pickedP t (a ++ b) l = pickedP t b (pickedP t a l)
  | [], _, _ => rfl
  | p :: a, b, l => pickedP_app t a b _
theorem pickedP_nodup (t : Tab) : ∀ (ps : List Pk) {l : List Nat}, l.Nodup → (pickedP t ps l).Nodup
  | [], _, h => h
  | p :: ps, l, h => pickedP_nodup t ps ((List.take_sublist _ _).nodup (srtP_nodup h))
theorem pickedP_sub (t : Tab) : ∀ (ps : List Pk) {l : List Nat} {i : Nat}, i ∈ pickedP t ps l → i ∈ l
  | [], _, _, h => h
  | p :: ps, l, i, h => (srtP_perm _ l).mem_iff.mp (List.mem_of_mem_take (pickedP_sub t ps h))
theorem pickedP_perm (t : Tab) : ∀ (ps : List Pk) {l m : List Nat}, l.Nodup → l.Perm m → (pickedP t ps l).Perm (pickedP t ps m)
  | [], _, _, _, h => h
  | p :: ps, l, m, nd, h => by
    rw [pickedP, pickedP, srtP_congr (kvO_a t p.1) nd h]
theorem pickedP_len (t : Tab) : ∀ (ps : List Pk) (l : List Nat), (pickedP t ps l).length ≤ l.length
  | [], _ => Nat.le_refl _
  | p :: ps, l => by
    refine Nat.le_trans (pickedP_len t ps _) ?_
    rw [List.length_take, srtP_len]
    omega
theorem pickedP_keep (t : Tab) : ∀ (ps : List Pk) (m : Int) {l : List Nat}, (∀ p ∈ ps, 0 ≤ p.2) → l.Nodup → (l.length : Int) ≤ m → (pickedP t ps l).Perm (pickedP t (keep m ps) l)
  | [], _, _, _, _, _ => List.Perm.refl _
  | p :: ps, m, l, h0, nd, hl => by
    have hp := h0 p List.mem_cons_self
    have nd' : ((srtP (kvO t p.1) l).take p.2.toNat).Nodup := (List.take_sublist _ _).nodup (srtP_nodup nd)
    rw [keep]
    by_cases z : p.2 < m
    · rw [if_pos z, pickedP, pickedP]
      exact pickedP_keep t ps p.2 (fun q hq => h0 q (List.mem_cons_of_mem _ hq)) nd' (by rw [List.length_take]; omega)
    · rw [if_neg z, pickedP, List.take_of_length_le (by rw [srtP_len]; omega)]
      exact (pickedP_perm t ps (srtP_nodup nd) (srtP_perm _ l)).trans (pickedP_keep t ps m (fun q hq => h0 q (List.mem_cons_of_mem _ hq)) nd hl)
theorem runP_same {t : Tab} (ht : t.length ≤ 30) {a b : List Pk × Od} (h : SameS a b) (ha : ∀ p ∈ a.1, 0 ≤ p.2) (hb : ∀ p ∈ b.1, 0 ≤ p.2) : runP t a = runP t b := by
  have hl : ((List.range t.length).length : Int) ≤ 30 := by rw [List.length_range]; omega
  have p1 := pickedP_keep t a.1 30 ha List.nodup_range hl
  have p2 := pickedP_keep t b.1 30 hb List.nodup_range hl
  rw [(h.k 30).1] at p1
  unfold runP
  rw [h.o]
  exact srtP_congr (kvO_a t _) (pickedP_nodup t _ List.nodup_range) (p1.trans p2.symm)
/-! ### command by command -/
def cutL : Pl → List Nat → List Nat
  | .cut true k, s => s.take k.toNat
  | .cut false k, s => s.drop (s.length - k.toNat)
  | _, s => s
def stepL (t : Tab) (p : Pl) (x : List Nat × Od) : List Nat × Od := (cutL p (srtP (kvO t (semP p x.2).2) x.1), (semP p x.2).2)
def doneL (t : Tab) : List Pl → List Nat × Od → List Nat × Od
  | [], x => x
  | p :: ps, x => doneL t ps (stepL t p x)
structure StandL (t : Tab) (x : List Nat × Od) (l : List Nat) : Prop where
  nd : x.1.Nodup
  so : x.1.Pairwise fun i j => kvO t x.2 i < kvO t x.2 j
  pm : x.1.Perm l
theorem step_stand {t : Tab} {p : Pl} (hp : PlOk p) {x : List Nat × Od} {l : List Nat} (h : StandL t x l) : StandL t (stepL t p x) (pickedP t (semP p x.2).1 l) := by
  have s1 := srtP_sorted (kvO_a t (semP p x.2).2) h.nd
  have n1 := srtP_nodup (key := kvO t (semP p x.2).2) h.nd
  have nl : l.Nodup := h.pm.nodup_iff.mp h.nd
  have p1 : (srtP (kvO t (semP p x.2).2) x.1).Perm l := (srtP_perm _ _).trans h.pm
  cases p with
  | sort d c => exact ⟨n1, s1, p1⟩
  | rev => exact ⟨n1, s1, p1⟩
  | res => exact ⟨n1, s1, p1⟩
  | cut f k =>
    have e : srtP (kvO t x.2) x.1 = srtP (kvO t x.2) l := srtP_congr (kvO_a t _) h.nd h.pm
    cases f with
    | true =>
      refine ⟨(List.take_sublist _ _).nodup n1, s1.sublist (List.take_sublist _ _), ?_⟩
      show ((srtP (kvO t x.2) x.1).take k.toNat).Perm ((srtP (kvO t x.2) l).take k.toNat)
      rw [e]
    | false =>
      refine ⟨(List.drop_sublist _ _).nodup n1, s1.sublist (List.drop_sublist _ _), ?_⟩
      show ((srtP (kvO t x.2) x.1).drop ((srtP (kvO t x.2) x.1).length - k.toNat)).Perm ((srtP (kvO t (flO x.2)) l).take k.toNat)
      rw [e, srtP_fl t _ nl, List.take_reverse]
      exact (List.reverse_perm _).symm
theorem done_stand {t : Tab} : ∀ {ps : List Pl}, (∀ p ∈ ps, PlOk p) → ∀ {x : List Nat × Od} {l : List Nat}, StandL t x l → StandL t (doneL t ps x) (pickedP t (seqS semP ps x.2).1 l) ∧ (doneL t ps x).2 = (seqS semP ps x.2).2
  | [], _, x, l, h => ⟨h, rfl⟩
  | p :: ps, hp, x, l, h => by
    obtain ⟨a, b⟩ := done_stand (fun q hq => hp q (List.mem_cons_of_mem _ hq)) (step_stand (hp p List.mem_cons_self) h)
    rw [doneL, seqS, pickedP_app]
    exact ⟨a, b⟩
theorem start_stand (t : Tab) (n : Nat) : StandL t (List.range n, start0) (List.range n) := by
  refine ⟨List.nodup_range, ?_, List.Perm.refl _⟩
  refine List.Pairwise.imp (fun {i j} hij => ?_) (List.pairwise_lt_range (n := n))
  show [sg "up" (i : Int)] < [sg "up" (j : Int)]
  rw [lex_cons]
  exact .inl (by show (if ("up" : Str) = "up" then (i : Int) else -i) < (if ("up" : Str) = "up" then (j : Int) else -j); rw [if_pos rfl, if_pos rfl]; omega)
theorem done_run (t : Tab) {ps : List Pl} (h : ∀ p ∈ ps, PlOk p) : doneL t ps (List.range t.length, start0) = (runP t (seqS semP ps start0), (seqS semP ps start0).2) := by
  obtain ⟨a, b⟩ := done_stand h (start_stand t t.length)
  refine Prod.ext ?_ b
  have hs := a.so
  rw [b] at hs
  exact (srtP_of (kvO_a t _) (pickedP_nodup t _ List.nodup_range) a.pm hs).symm
theorem runP_lt {t : Tab} {r : List Pk × Od} {i : Nat} (h : i ∈ runP t r) : i < t.length := List.mem_range.mp (pickedP_sub t _ ((srtP_perm _ _).mem_iff.mp h))
theorem runP_len (t : Tab) (r : List Pk × Od) : (runP t r).length ≤ t.length := by
  unfold runP
  rw [srtP_len]
  exact Nat.le_trans (pickedP_len t _ _) (by rw [List.length_range]; exact Nat.le_refl _)
end DL
end L2

set_option Elab.async false
set_option maxRecDepth 100000
set_option maxHeartbeats 4000000
set_option autoImplicit false
namespace L2
namespace DL
open PySem PySem.Spec PyProof.Rows
local instance labNone_RnD : Lab := { w := none, T := [], gd := True }
/-! ### sorts one key after the other -/
def prsP (v : Nat → Int) (l : List Nat) : List (Int × Int) := (List.range l.length).map fun k => (v (l.getD k 0), (k : Int))
def stbP (v : Nat → Int) (l : List Nat) : List Nat := (sortPr (prsP v l)).map fun p => l.getD p.2.toNat 0
theorem getD_map_range (l : List Nat) : (List.range l.length).map (fun k => l.getD k 0) = l := by
  refine List.ext_getElem? fun i => ?_
  rw [List.getElem?_map]
  by_cases h : i < l.length
  · rw [List.getElem?_range h, List.getElem?_eq_getElem h]
    show some (l.getD i 0) = _
    rw [List.getD_eq_getElem?_getD, List.getElem?_eq_getElem h]
    rfl
  · rw [List.getElem?_eq_none (by rw [List.length_range]; omega), List.getElem?_eq_none (by omega)]
    rfl
theorem stbP_perm (v : Nat → Int) (l : List Nat) : (stbP v l).Perm l := by
  have h1 : (sortPr (prsP v l)).Perm (prsP v l) := List.mergeSort_perm _ _
  have h2 := h1.map fun p : Int × Int => l.getD p.2.toNat 0
  refine h2.trans (List.Perm.of_eq ?_)
  unfold prsP
  rw [List.map_map]
  exact getD_map_range l
theorem prsP_nodup (v : Nat → Int) (l : List Nat) : (prsP v l).Nodup := by
  unfold prsP
  refine List.Pairwise.map _ (fun a b hab h => hab ?_) List.nodup_range
  have := (Prod.mk.inj h).2
  omega
theorem stbP_gen {R : Nat → Nat → Prop} (v : Nat → Int) {l : List Nat} (h : l.Pairwise R) : (stbP v l).Pairwise fun i j => v i < v j ∨ (v i = v j ∧ R i j) := by
  have hp : (sortPr (prsP v l)).Perm (prsP v l) := List.mergeSort_perm _ _
  have nd : (sortPr (prsP v l)).Nodup := hp.nodup_iff.mpr (prsP_nodup v l)
  have so := sortPr_sorted (prsP v l)
  unfold stbP
  rw [List.pairwise_map]
  refine List.Pairwise.imp_of_mem (fun {p q} hp' hq' hpq => ?_) (so.and nd)
  have mem : ∀ x ∈ sortPr (prsP v l), ∃ k, k < l.length ∧ x = (v (l.getD k 0), (k : Int)) := fun x hx => by
    obtain ⟨k, hk, e⟩ := List.mem_map.mp (hp.mem_iff.mp hx)
    exact ⟨k, List.mem_range.mp hk, e.symm⟩
  obtain ⟨a, ha, rfl⟩ := mem p hp'
  obtain ⟨b, hb, rfl⟩ := mem q hq'
  obtain ⟨h1, h2⟩ := hpq
  rw [leP_iff] at h1
  have ga : ((a : Int)).toNat = a := by omega
  have gb : ((b : Int)).toNat = b := by omega
  show v (l.getD (a : Int).toNat 0) < v (l.getD (b : Int).toNat 0) ∨ _
  rw [ga, gb]
  rcases h1 with h1 | ⟨h1, h3⟩
  · exact .inl h1
  · refine .inr ⟨h1, ?_⟩
    have hab : a < b := by
      have h3 : (a : Int) ≤ (b : Int) := h3
      have h4 : a ≠ b := fun z => h2 (by rw [z])
      omega
    rw [List.getD_eq_getElem?_getD, List.getElem?_eq_getElem ha, List.getD_eq_getElem?_getD, List.getElem?_eq_getElem hb]
    exact List.pairwise_iff_getElem.mp h a b ha hb hab
/-- the worth of a place by an element of an order -/
def vsg (t : Tab) (b : Bool) : Option KB → Nat → Int
  | none, i => sg (dS b) i
  | some k, i => sg (dS k.2) (cellT t i k.1)
/-- by the elements from the last to the first -/
def standP (t : Tab) (b : Bool) : List (Option KB) → List Nat → List Nat
  | [], l => l
  | x :: xs, l => standP t b xs (stbP (vsg t b x) l)
theorem standP_app (t : Tab) (b : Bool) : ∀ (xs ys : List (Option KB)) (l : List Nat), standP t b (xs ++ ys) l = standP t b ys (standP t b xs l)
  | [], _, _ => rfl
  | x :: xs, ys, l => standP_app t b xs ys _
theorem stand_keys (t : Tab) (b : Bool) : ∀ (ks : List KB) {l : List Nat} {K : Nat → List Int}, l.Pairwise (fun i j => K i < K j) → (standP t b (ks.reverse.map some) l).Pairwise (fun i j => kvs t (ks.map toKy) i ++ K i < kvs t (ks.map toKy) j ++ K j) ∧ (standP t b (ks.reverse.map some) l).Perm l
  | [], l, K, h => ⟨h, List.Perm.refl _⟩
  | k :: ks, l, K, h => by
    obtain ⟨h1, h2⟩ := stand_keys t b ks h
    rw [List.reverse_cons, List.map_append, standP_app]
    refine ⟨?_, (stbP_perm _ _).trans h2⟩
    refine List.Pairwise.imp (fun {i j} hij => ?_) (stbP_gen (vsg t b (some k)) h1)
    show (vsg t b (some k) i :: (kvs t (ks.map toKy) i ++ K i)) < (vsg t b (some k) j :: (kvs t (ks.map toKy) j ++ K j))
    rw [lex_cons]
    exact hij
theorem stand_is (t : Tab) (o : Od) {l : List Nat} (nd : l.Nodup) : standP t o.2 ((o.1.map some ++ [none]).reverse) l = srtP (kvO t o) l := by
  rw [List.reverse_append]
  show standP t o.2 (o.1.map some).reverse (stbP (vsg t o.2 none) l) = _
  have h0 : (stbP (vsg t o.2 none) l).Pairwise (fun i j : Nat => [sg (dS o.2) (i : Int)] < [sg (dS o.2) (j : Int)]) := by
    refine List.Pairwise.imp (fun {i j} hij => ?_) (stbP_gen (vsg t o.2 none) (R := fun i j => i ≠ j) nd)
    rw [lex_cons]
    rcases hij with z | ⟨z, w⟩
    · exact .inl z
    · have := sg_inj z
      exact absurd (by omega) w
  rw [← List.map_reverse]
  obtain ⟨h1, h2⟩ := stand_keys t o.2 o.1 h0
  exact (srtP_of (kvO_a t o) nd (h2.trans (stbP_perm _ _)) h1).symm
end DL
end L2

set_option Elab.async false
set_option maxRecDepth 100000
set_option maxHeartbeats 4000000
set_option autoImplicit false
namespace L2
namespace DL
open PySem PySem.Spec PyProof.Rows PySem.Calls
variable [Lab]
section
variable {X : Cx} {F : Fm} {k n j : Nat} {f : Addr} {fd : FuncData} {ps ks : List Str} {x y : Str} {p pos pn : Pos} {e : Expr} {es : List Expr} {fa fb : DEnv → Option (List PyData × DEnv)}
/-- the first argument a list made for the call, then data -/
def fCRT2 (m : List PyData → List PyData → Option (PyData × List PyData)) (fa fb : DEnv → Option (List PyData × DEnv)) (env : DEnv) : Option (PyData × DEnv) :=
  (fa env).bind fun x => (fb x.2).bind fun y => (m x.1 y.1).map fun r => (r.1, y.2)
theorem pd_callRT2 {m : List PyData → List PyData → Option (PyData × List PyData)} (G : FnG X.prog X.w X.K X.mg X.base k f fd ps (spR X.K n m)) (hn : ∀ es ds r, m es ds = some r → ds.length + 1 = n) (hgd : GdOk X.A) (hr : Room k X.A) (hm : X.mg x = some (.ref f)) (hk : PySem.W.keepIn X.K (.ref f) = true) (hb : Binds X.K fd ps [])
    (ha : PN X F e fa) (hs : PDA X F es fb) (hg : Gl X x := by rfl) (hdb : (x == ("__debug__" : Str)) = false := by decide)
    (he : starEach (e :: es) X.env = (false, eval e X.env) :: starEach es X.env := by rfl) (hpl : (backTo pos (starEach es X.env)).any (·.1) = false := by rfl) :
    PD X F (.Call (.Name x p) (e :: es) [] pos) (fCRT2 m fa fb) :=
  pe_imp (pe_gcall G hgd hr hm hk hb (pa_cons ha hs he) hg hdb he hpl) fun σ H Q h => by
    obtain ⟨Z, env, d, env', r, e, q⟩ := h
    obtain ⟨⟨x, e1⟩, h1, h⟩ := bnd e
    obtain ⟨⟨y, e2⟩, h2, h⟩ := bnd h
    obtain ⟨⟨r0, r1⟩, h3, h⟩ := mpd h
    cases h
    refine ⟨Z, env, x, e1, r, h1, fun p xs Z1 H1 r1 s1 h0 hz hp dp => ⟨Z1, e1, y, e2, r1, h2, fun vs Z2 H2 r2 s2 d2 => ?_⟩⟩
    have fr0 : Fre σ env p := fun i dv e o hh => by
      have sl := r.sl i dv e
      cases dv with
      | fr d => cases o
      | ow es => obtain ⟨p', xs', a1, _, _, _, a5, _⟩ := sl; rw [hh] at a1; cases a1; rw [h0] at a5; cases a5
      | rf es => obtain ⟨p', xs', a1, _, a5, _⟩ := sl; rw [hh] at a1; cases a1; rw [h0] at a5; cases a5
      | dk es => obtain ⟨p', o', xs', a1, _, _, _, a5, _⟩ := sl; rw [hh] at a1; cases a1; rw [h0] at a5; cases a5
    have fr1 := s1.fre fr0
    have hp2 : H2 p = some (.lst xs) := s2.h p _ hp nt_lst fr1
    have hz2 : Z2 p = none := Classical.byContradiction fun z => s2.n p z hz (by rw [hp]; simp) fr1
    have s12 := s1.trans s2
    refine ⟨?_, Z2, p, vs, xs, x, y, _, _, rfl, r2.zh, r2.tb, hz2, hp2, DDsm dp s2.z, d2, h3, fun v ys Z' H' g a5 a6 a7 => ?_⟩
    · rw [List.length_cons, dds_len d2]; exact hn _ _ _ h3
    · have hpn : H' p ≠ none := by rw [a5]; simp
      have rr := r2.poke0 (s12.fre fr0) (r.gh.free h0) (fun z => (r.pp p z).1 h0) g hpn
      refine q v Z' H' rr ⟨s12.z.trans g.z, fun q o hq n f => g.h q o (fun z => by subst z; rw [h0] at hq; cases hq) (s12.h q o hq n f) n, fun q b1 b2 b3 f => ?_, s12.o, fun q hq => g.keep hpn (s12.k q hq)⟩ a7
      rcases g.n q b1 with z | z
      · exact s12.n q z b2 b3 f
      · exact s12.k q b3 z
theorem ev_crt2 {m : List PyData → List PyData → Option (PyData × List PyData)} {env e1 e2 : DEnv} {xs ys r2 : List PyData} {r : PyData} (h1 : fa env = some (xs, e1)) (h2 : fb e1 = some (ys, e2)) (h3 : m xs ys = some (r, r2)) : fCRT2 m fa fb env = some (r, e2) := by
  unfold fCRT2
  rw [h1, Option.bind_some, h2, Option.bind_some, h3]
  rfl
theorem ev_cn {m : List PyData → Option (List PyData)} {env e1 : DEnv} {ds r : List PyData} (h1 : fa env = some (ds, e1)) (h2 : m ds = some r) : fCN m fa env = some (r, e1) := by
  unfold fCN
  rw [h1]
  show (m ds).map _ = _
  rw [h2]
  rfl
end
end DL
end L2

set_option Elab.async false
set_option maxRecDepth 100000
set_option maxHeartbeats 4000000
set_option autoImplicit false
/-! ### a for loop in a generator -/
namespace L2
open PySem PySem.Spec PyProof.Rows GenW
/-- an exception is noted and goes on -/
def outOf (env : Env) (e : Value) : Sem PySem.Fin := (do noteFrame e env; theTreesLotGoes e : Sem Unit).bind fun _ => .raise e
def aftTurn (tg : Expr) (it : Value) (body : List Stmt) (env : Env) (f : Flow) : Sem PySem.Fin := match f with
  | .next | .cont => .pure (.again (.forLoop tg it body [] env))
  | .brk => .pure (.done .next)
  | .ret v => .pure (.done (.ret v))
section
variable {prog : Program} {w : World} {A : Around} {R : GenEnd} {Y : Protocol} {n : Nat} {s₀ : Shared} {c : Code} {fs : List Frame} {s : Shared} {env : Env} {K : Flow → Sem PySem.Fin} {J : Value → Sem PySem.Fin} {gd : Bool → Bool} {lv : List Value → List Value} {tg iter : Expr} {it : Value} {body : List Stmt} {pos : Pos}
theorem sg_for (hs : ∀ x, foldedSetIterable iter env x = pure x)
    (h : wpAny (model prog w) (A.over c fs) (eval iter env) (fun v s1 => wpAny (model prog w) (A.over c fs) (pyIter v) (fun itv s2 => ∀ p, Seg (model prog w) A R Y n s₀ (.forLoop tg itv body [] env) ((model prog w).den (.forLoop tg itv body [] env))
        (.ret (fun r => ((match r with | .ok f => (.pure f : Sem Flow) | .error e => .raise e).onRaise (cameBack env)).wrap K J gd lv) none (gd false) (lv []) c p [] :: fs) s2)
      (fun x s' => Seg (model prog w) A R Y n s₀ c (J x) fs s') s1) (fun x s' => Seg (model prog w) A R Y n s₀ c (J x) fs s') s) :
    Seg (model prog w) A R Y n s₀ c ((exec (.For tg iter body [] pos) env).wrap K J gd lv) fs s := by
  rw [exec_For]
  refine seg_bind_wrap (wpAny_standAt ?_)
  refine seg_bind_wrap (wpAny_mono h (fun v s1 h1 => ?_) fun _ _ x => x)
  refine seg_bind_wrap (wpAny_of_eq (hs v) ?_)
  refine seg_bind_wrap (wpAny_standAt ?_)
  refine seg_bind_wrap (wpAny_holding (wpAny_mono h1 (fun itv s2 h2 => ?_) fun _ _ x => x))
  exact seg_call h2
theorem sg_turn (h : wpAny (model prog w) (A.over (.forLoop tg it body [] env) fs) (pyNext it) (fun r s1 => match r with
      | none => Seg (model prog w) A R Y n s₀ (.forLoop tg it body [] env) (.pure (.again (.block [] env))) fs s1
      | some v => wpAny (model prog w) (A.over (.forLoop tg it body [] env) fs) (letOwnedTupleGo tg it v) (fun _ s2 => wpAny (model prog w) (A.over (.forLoop tg it body [] env) fs) (assign tg env v)
          (fun _ s3 => Seg (model prog w) A R Y n s₀ (.forLoop tg it body [] env) ((execs body env).wrap (aftTurn tg it body env) (outOf env) id id) fs s3) (fun x s' => Seg (model prog w) A R Y n s₀ (.forLoop tg it body [] env) (outOf env x) fs s') s2) (fun x s' => Seg (model prog w) A R Y n s₀ (.forLoop tg it body [] env) (outOf env x) fs s') s1)
      (fun x s' => Seg (model prog w) A R Y n s₀ (.forLoop tg it body [] env) (outOf env x) fs s') s) :
    Seg (model prog w) A R Y n s₀ (.forLoop tg it body [] env) ((model prog w).den (.forLoop tg it body [] env)) fs s := by
  show Seg _ A R Y n s₀ _ ((forTurn tg it body [] env).onRaise (fun x => do noteFrame x env; theTreesLotGoes x)) fs s
  rw [Sem.onRaise_eq_wrap]
  unfold forTurn
  refine seg_bind_wrap (wpAny_standAt ?_)
  refine seg_bind_wrap (wpAny_onRaise (wpAny_mono h (fun r s1 h1 => ?_) fun x s' hx => wpAny_standAt hx))
  cases r with
  | none => exact h1
  | some v =>
    refine seg_bind_wrap (wpAny_mono h1 (fun _ s2 h2 => ?_) fun _ _ x => x)
    refine seg_bind_wrap (wpAny_mono h2 (fun _ s3 h3 => ?_) fun _ _ x => x)
    rw [Sem.bind_eq_wrap', Sem.wrap_wrap]
    have gen : ∀ t, t = (execs body env).wrap (aftTurn tg it body env) (outOf env) id id → Seg (model prog w) A R Y n s₀ (.forLoop tg it body [] env) t fs s3 := fun t e => e ▸ h3
    exact gen _ (Sem.wrap_congr (execs body env) _ _ (fun f => by cases f <;> rfl) (fun e => rfl))
end
section
variable {X : Cx} {tg iter : Expr} {body : List Stmt} {pos : Pos} {wi : TI} {g : TG} {tb : TGn}
def tGFor (wi : TI) (g : TG) (tb : TGn) : TGn := fun D ys σ H => wi σ H fun J H1 => ∃ W : Nat → Nat → List V → St → Hp → Prop, (∃ m, W 0 m ys σ H1) ∧ ∀ i m ys σ H, W i m ys σ H →
  (J.stop i H ∧ D.nx ys σ H) ∨ (J.go i H ∧ ∃ N : List V → St → Hp → Prop, (∀ ys' σ' H', N ys' σ' H' → ∃ m', m' < m ∧ W (i + 1) m' ys' σ' H') ∧ ∀ x H', J.yld i H x H' → g x σ H' fun σ2 H2 => tb { D with nx := N, ct := N, bk := D.nx } ys σ2 H2)
theorem fp_re {pins pins' : List (Addr × Obj)} {H H' : Hp} {b : Addr} (h : FpOk X pins H b) (hp : ∀ p ∈ pins', ∃ q ∈ pins, q.1 = p.1) (hn : H' b = none) : FpOk X pins' H' b :=
  ⟨hn, h.2.1, h.2.2.1, h.2.2.2.1, h.2.2.2.2.1, fun p hpp => by
    rcases List.mem_append.mp hpp with z | z
    · exact h.2.2.2.2.2 p (List.mem_append_left _ z)
    · obtain ⟨q, hq, e⟩ := hp p z
      rw [← e]
      exact h.2.2.2.2.2 q (List.mem_append_right _ hq)⟩
theorem gs_for (hp : PassesOwn (model X.prog X.w) X.A X.env X.xe) (hc : X.calm = true) (hi : PI X tg iter wi) (hg : PG X tg g) (hb : GSs X body tb)
    (hs : ∀ x, foldedSetIterable iter X.env x = pure x := by intro _; rfl) : GS X (.For tg iter body [] pos) (tGFor wi g tb) := by
  refine ⟨fun A S ip R n ys s₀ c fs K J gd lv s σ H D gc hn k hI ht => ?_⟩
  obtain ⟨acc0, cc0, r0, I0⟩ := hI
  refine sg_for hs ?_
  rw [gc.over]
  refine wpAny_mono (hi.run _ s σ H _ I0 ht) (fun v s1 h1 => ?_) fun x s' hx => k.exc n s₀ x s' hx
  refine wpAny_mono h1 (fun itv s2 h2 p => ?_) fun x s' hx => k.exc n s₀ x s' hx
  obtain ⟨it, fp, tn, Jt, H2, e, I2, T, st2, f2, W, ⟨m0, w0⟩, turn⟩ := h2
  subst e
  have hS : ∀ b ∈ fp, S ≠ b := fun b hb => (f2 b hb).2.2.2.2.2 (S, lstObj acc0 cc0) (List.mem_append_right _ List.mem_cons_self)
  have stat : ∀ {acc : Array Value} {cc : Nat} {H' : Hp}, (∀ b ∈ fp, H' b = none) → ∀ b ∈ fp, FpOk X ((S, lstObj acc cc) :: ip) H' b := fun hnn b hb => fp_re (f2 b hb) (fun p hpp => by
    rcases List.mem_cons.mp hpp with rfl | hpp
    · exact ⟨_, List.mem_cons_self, rfl⟩
    · exact ⟨p, List.mem_cons_of_mem _ hpp, rfl⟩) (hnn b hb)
  have gl := fun (kk : Result → Sem PySem.Fin) => gc_loop (k := kk) (c' := .forLoop tg (.ref it) body [] X.env) (l := lv []) (kp := []) (p := p) gc rfl rfl
  have ee : ∀ (n : Nat) (s₀ : Shared) (x : Value) (s' : Shared), X.xe x s' → Seg (model X.prog X.w) A R (GY X S) n s₀ (.forLoop tg (.ref it) body [] X.env) (outOf X.env x)
      (.ret (fun r => ((match r with | .ok f => (.pure f : Sem Flow) | .error e => .raise e).onRaise (cameBack X.env)).wrap K J gd lv) none (gd false) (lv []) c p [] :: fs) s' := fun n s₀ x s' hx => by
    unfold outOf
    rw [Sem.bind_eq_wrap]
    refine seg_wrap ?_
    rw [(gl _).over]
    refine wpAny_bind (wpAny_mono (hp x s' hx) (fun _ s'' hcb => wpAny_theTreesLotGoes ?_) fun y s'' hcb => ?_)
    · exact seg_leaf (.error x) (seg_cameBack gc k hcb)
    · exact seg_leaf (.error y) (seg_cameBack gc k hcb)
  have loop : ∀ (m i n : Nat) (ys : List V) (s₀ s : Shared) (σ : St) (H : Hp), n + ys.length = sizeLine → W i m ys σ H → GI X S ip ys σ H s → tn i s.heap → (∀ b ∈ fp, H b = none) →
      Seg (model X.prog X.w) A R (GY X S) n s₀ (.forLoop tg (.ref it) body [] X.env) ((model X.prog X.w).den (.forLoop tg (.ref it) body [] X.env))
        (.ret (fun r => ((match r with | .ok f => (.pure f : Sem Flow) | .error e => .raise e).onRaise (cameBack X.env)).wrap K J gd lv) none (gd false) (lv []) c p [] :: fs) s := by
    intro m
    induction m using Nat.strongRecOn with
    | ind m ih =>
      intro i n ys s₀ s σ H hn hw hI st fr
      obtain ⟨acc, cc, r, I⟩ := hI
      refine sg_turn ?_
      rw [(gl _).over]
      rcases turn i m ys σ H hw with ⟨stop, qn⟩ | ⟨go, N, hN, step⟩
      · refine wpAny_mono (T.done X rfl rfl rfl hc i _ s σ H X.xe I (stat fr) st stop) (fun r s4 hr => ?_) fun x s' hx => ee n s₀ x s' hx
        obtain ⟨hr, I4⟩ := hr
        subst hr
        refine seg_again rfl ?_
        show Seg _ A R _ n s₀ _ ((execs [] X.env).onRaise (fun x => do noteFrame x X.env; theTreesLotGoes x) >>= fun f => pure (PySem.Fin.done f)) _ s4
        exact seg_leaf (.ok .next) (k.ok n ys s₀ s4 .next hn ⟨σ, H, ⟨acc, cc, r, I4⟩, qn⟩)
      · refine wpAny_mono (T.item X rfl rfl rfl hc i _ s σ H X.xe I (stat fr) st go) (fun r4 s4 hr => ?_) fun x s' hx => ee n s₀ x s' hx
        obtain ⟨u, hr, h4⟩ := hr
        subst hr
        refine wpAny_mono h4 (fun _ s5 h5 => ?_) fun x s' hx => ee n s₀ x s' hx
        obtain ⟨x, H5, I5, r5, y5, st5, fr5⟩ := h5
        have I5' := I5.pinned (stat fr5) (T.obj _ _ st5)
        refine wpAny_mono (hg.run _ s5 σ H5 x u _ I5' r5 (step x H5 y5)) (fun _ s6 h6 => ?_) fun x s' hx => ee n s₀ x s' hx
        obtain ⟨σ6, H6, I6, q6⟩ := h6
        have gl2 : GC X S (ip ++ pinsAt fp s5.heap) A (.forLoop tg (.ref it) body [] X.env) (.ret (fun r => ((match r with | .ok f => (.pure f : Sem Flow) | .error e => .raise e).onRaise (cameBack X.env)).wrap K J gd lv) none (gd false) (lv []) c p [] :: fs) id :=
          ⟨gc.pn, fun q hq => (List.mem_append.mp hq).elim (gc.ip q) fun z e => hS q.1 (of_pinsAt z).1 e.symm, gc.apart, (gl _).over, (gl _).split, (gl _).guard, rfl⟩
        have un : ∀ {ys7 : List V} {σ7 : St} {H7 : Hp} {s7 : Shared}, GI X S (ip ++ pinsAt fp s5.heap) ys7 σ7 H7 s7 → GI X S ip ys7 σ7 H7 s7 ∧ tn (i + 1) s7.heap ∧ ∀ b ∈ fp, H7 b = none := fun {ys7 σ7 H7 s7} hI7 => by
          obtain ⟨a7, c7, r7, I7⟩ := hI7
          refine ⟨⟨a7, c7, r7, I7.pins_of fun p hpp => I7.pin p (List.mem_append_right _ (by rcases List.mem_cons.mp hpp with z | z; exact z ▸ List.mem_cons_self; exact List.mem_cons_of_mem _ (List.mem_append_left _ z)))⟩, T.keep _ _ _ st5 fun b hb o e => (I7.pin (b, o) (List.mem_append_right _ (List.mem_cons_of_mem _ (List.mem_append_right _ (mem_pinsAt hb e))))).1, fun b hb => ?_⟩
          obtain ⟨o, e, d⟩ := T.obj _ _ st5 b hb
          exact (I7.pin (b, o) (List.mem_append_right _ (List.mem_cons_of_mem _ (List.mem_append_right _ (mem_pinsAt hb e))))).2.1
        refine hb.run A S (ip ++ pinsAt fp s5.heap) R n ys s₀ _ _ _ _ id id s6 σ6 H6 { D with nx := N, ct := N, bk := D.nx } gl2 hn ⟨fun n' ys' s₀' s7 f hn' hs7 => ?_, fun n' s₀' x s7 hx => ee n' s₀' x s7 hx⟩ ⟨acc, cc, r, I6⟩ q6
        cases f with
        | next =>
          obtain ⟨σ7, H7, I7, n7⟩ := hs7
          obtain ⟨m', hm, w7⟩ := hN ys' σ7 H7 n7
          obtain ⟨b1, b2, b3⟩ := un I7
          exact seg_again rfl (ih m' hm (i + 1) n' ys' s₀' s7 σ7 H7 hn' w7 b1 b2 b3)
        | cont =>
          obtain ⟨σ7, H7, I7, n7⟩ := hs7
          obtain ⟨m', hm, w7⟩ := hN ys' σ7 H7 n7
          obtain ⟨b1, b2, b3⟩ := un I7
          exact seg_again rfl (ih m' hm (i + 1) n' ys' s₀' s7 σ7 H7 hn' w7 b1 b2 b3)
        | brk =>
          obtain ⟨σ7, H7, I7, n7⟩ := hs7
          exact seg_leaf (.ok .next) (k.ok n' ys' s₀' s7 .next hn' ⟨σ7, H7, (un I7).1, n7⟩)
        | ret v =>
          obtain ⟨x7, σ7, H7, I7, r7, q7⟩ := hs7
          exact seg_leaf (.ok (.ret v)) (k.ok n' ys' s₀' s7 (.ret v) hn' ⟨x7, σ7, H7, (un I7).1, r7, q7⟩)
  exact loop m0 0 n ys s₀ s2 σ H2 hn w0 ⟨acc0, cc0, r0, I2⟩ st2 fun b hb => (f2 b hb).1
end
end L2

set_option Elab.async false
set_option maxRecDepth 100000
set_option maxHeartbeats 4000000
set_option autoImplicit false
/-! ### generators' bodies over data -/
namespace L2
namespace DL
open PySem PySem.Spec PyProof.Rows GenW
variable [Lab]
theorem gs_imp {X : Cx} {st : Stmt} {t t' : TGn} (h : GS X st t) (w : ∀ D ys σ H, t' D ys σ H → t D ys σ H) : GS X st t' :=
  ⟨fun A S ip R n ys s₀ c fs K J gd lv s σ H D g hn k hI ht => h.run A S ip R n ys s₀ c fs K J gd lv s σ H D g hn k hI (w D ys σ H ht)⟩
theorem gss_imp {X : Cx} {st : List Stmt} {t t' : TGn} (h : GSs X st t) (w : ∀ D ys σ H, t' D ys σ H → t D ys σ H) : GSs X st t' :=
  ⟨fun A S ip R n ys s₀ c fs K J gd lv s σ H D g hn k hI ht => h.run A S ip R n ys s₀ c fs K J gd lv s σ H D g hn k hI (w D ys σ H ht)⟩
def tYD (K : PySem.W.Frag) (F : Fm) (f : DEnv → Option (List PyData × DEnv)) : TGn := fun D ys σ H => ∃ Z env out env', Rel K F Z H σ env ∧ f env = some (out, env') ∧ ys.length + out.length ≤ sizeLine ∧
  ∀ ws σ' Z' H', Rel K F Z' H' σ' env' → Same Z Z' → DDs K Z' ws out → D.nx (ys ++ ws) σ' H'
def PY (X : Cx) (F : Fm) (s : Stmt) (f : DEnv → Option (List PyData × DEnv)) : Prop := GS X s (tYD X.K F f)
def PYs (X : Cx) (F : Fm) (s : List Stmt) (f : DEnv → Option (List PyData × DEnv)) : Prop := GSs X s (tYD X.K F f)
section
variable {X : Cx} {F : Fm} {tg iter e : Expr} {s : Stmt} {ss : List Stmt} {pos yp : Pos} {f : DEnv → Option (PyData × DEnv)} {fi b fy fz : DEnv → Option (List PyData × DEnv)} {fs : DEnv → Option DFlow} {g : PyData → DEnv → Option DEnv}
def yPlain (f : DEnv → Option DFlow) (env : DEnv) : Option (List PyData × DEnv) := (f env).bind fun fl => match fl with
  | .nx e => some ([], e)
  | _ => none
theorem yd_plain (h : PDS X F s fs) : PY X F s (yPlain fs) := gs_imp (gs_ps h) fun D ys σ H q => by
  obtain ⟨Z, env, out, env', r, e, hl, q⟩ := q
  obtain ⟨fl, e1, e⟩ := bnd e
  cases fl with
  | nx e2 =>
    cases e
    refine ⟨Z, env, _, r, e1, fun σ' Z' H' r' s' => ?_⟩
    have := q [] σ' Z' H' r' s' .nil
    rwa [List.append_nil] at this
  | _ => cases e
def yYield (f : DEnv → Option (PyData × DEnv)) (env : DEnv) : Option (List PyData × DEnv) := (f env).map fun x => ([x.1], x.2)
theorem yd_yield (he : PD X F e f) (hco : X.env.scope.isCoroutine = false := by rfl) (hi : interactive X.env = false := by rfl) : PY X F (.Expr (.Yield (some e) yp) pos) (yYield f) := gs_imp (gs_yield he hco hi) fun D ys σ H q => by
  obtain ⟨Z, env, out, env', r, e, hl, q⟩ := q
  obtain ⟨⟨d, e1⟩, h1, h⟩ := mpd e
  cases h
  exact ⟨by rw [List.length_singleton] at hl; omega, Z, env, d, e1, r, h1, fun v Z' H' r' s' dd => q [v] σ Z' H' r' s'.z (.cons dd .nil)⟩
def yNil (env : DEnv) : Option (List PyData × DEnv) := some ([], env)
theorem yds_nil : PYs X F [] yNil := gss_imp gss_nil fun D ys σ H q => by
  obtain ⟨Z, env, out, env', r, e, hl, q⟩ := q
  cases e
  have := q [] σ Z H r (Same.refl Z) .nil
  rwa [List.append_nil] at this
def ySeq (f g : DEnv → Option (List PyData × DEnv)) (env : DEnv) : Option (List PyData × DEnv) := (f env).bind fun x => (g x.2).map fun y => (x.1 ++ y.1, y.2)
theorem yds_cons (a : PY X F s fy) (c : PYs X F ss fz) : PYs X F (s :: ss) (ySeq fy fz) := gss_imp (gss_cons a c) fun D ys σ H q => by
  obtain ⟨Z, env, out, env', r, e, hl, q⟩ := q
  obtain ⟨⟨o1, e1⟩, h1, h⟩ := bnd e
  obtain ⟨⟨o2, e2⟩, h2, h⟩ := mpd h
  cases h
  rw [List.length_append] at hl
  have hl : ys.length + (o1.length + o2.length) ≤ sizeLine := hl
  refine ⟨Z, env, o1, e1, r, h1, by omega, fun ws σ' Z' H' r' s' dd => ⟨Z', e1, o2, e2, r', h2, ?_, fun ws2 σ2 Z2 H2 r2 s2 dd2 => ?_⟩⟩
  · rw [List.length_append, dds_len dd]
    show ys.length + o1.length + o2.length ≤ _
    omega
  · rw [List.append_assoc]
    exact q (ws ++ ws2) σ2 Z2 H2 r2 (s'.trans s2) (dds_app (DDsm dd s2) dd2)
def forY (g : PyData → DEnv → Option DEnv) (b : DEnv → Option (List PyData × DEnv)) : List PyData → DEnv → Option (List PyData × DEnv)
  | [], env => some ([], env)
  | d :: ds, env => (g d env).bind fun e1 => (b e1).bind fun x => (forY g b ds x.2).map fun y => (x.1 ++ y.1, y.2)
def yFor (fi : DEnv → Option (List PyData × DEnv)) (g : PyData → DEnv → Option DEnv) (b : DEnv → Option (List PyData × DEnv)) (env : DEnv) : Option (List PyData × DEnv) := (fi env).bind fun x => forY g b x.1 x.2
theorem yd_for (hp : PassesOwn (model X.prog X.w) X.A X.env X.xe) (hi : PDI X F tg iter fi) (hg : PDG X F tg g) (hb : PYs X F ss b) (hc : X.calm = true := by rfl) (hs : ∀ x, foldedSetIterable iter X.env x = pure x := by intro _; rfl) :
    PY X F (.For tg iter ss [] pos) (yFor fi g b) := gs_imp (gs_for hp hc hi hg hb hs) fun D ys σ H q => by
  obtain ⟨Z, env, out, env', r, e, hl, q⟩ := q
  obtain ⟨⟨ds, e1⟩, e0, e⟩ := bnd e
  refine ⟨Z, env, ds, e1, r, e0, fun J Z1 H1 r1 s1 w => ?_⟩
  obtain ⟨G, Y, wk, hG, hY⟩ := w
  refine ⟨fun i m ys' σ' H' => m = ds.length - i ∧ i ≤ ds.length ∧ ∃ Z' env2 o1 o2 ws, Same Z1 Z' ∧ Rel X.K F Z' H' σ' env2 ∧ forY g b (ds.drop i) env2 = some (o2, env') ∧ ys' = ys ++ ws ∧ DDs X.K Z' ws o1 ∧ o1 ++ o2 = out, ⟨ds.length, by simp, Nat.zero_le _, Z1, e1, [], out, [], Same.refl _, r1, e, (List.append_nil _).symm, .nil, rfl⟩, ?_⟩
  rintro i m ys' σ' H' ⟨rfl, hi', Z', env2, o1, o2, ws, s', r', e', rfl, dd, ho⟩
  have hGH := hG H' (s'.trans r'.zh)
  by_cases hlt : i < ds.length
  · refine .inr ⟨wk.goes i H' hlt hGH, fun ys3 σ3 H3 => ∃ Z' env2 o1 o2 ws, Same Z1 Z' ∧ Rel X.K F Z' H3 σ3 env2 ∧ forY g b (ds.drop (i + 1)) env2 = some (o2, env') ∧ ys3 = ys ++ ws ∧ DDs X.K Z' ws o1 ∧ o1 ++ o2 = out, fun ys3 σ3 H3 p => ⟨ds.length - (i + 1), by omega, rfl, hlt, p⟩, fun x H2 y => ?_⟩
    obtain ⟨Zn, d, gr, hd, ddx⟩ := hY i H' x H2 Z' hlt (wk.yields i H' x H2 hlt hGH y) s' r'.zh
    have ed : ds.drop i = d :: ds.drop (i + 1) := by
      obtain ⟨hl, hx⟩ := List.getElem?_eq_some_iff.mp hd
      rw [← hx]
      exact List.drop_eq_getElem_cons hl
    rw [ed] at e'
    obtain ⟨e2, g2, e'⟩ := bnd e'
    obtain ⟨⟨y1, e3⟩, b2, e'⟩ := bnd e'
    obtain ⟨⟨y2, e4⟩, f2, e'⟩ := mpd e'
    cases e'
    refine ⟨Zn, env2, d, e2, r'.grow gr, ddx, g2, fun σ2 Z2 H2' r2 s2 => ⟨Z2, e2, y1, e3, r2, b2, ?_, fun ws2 σ3 Z3 H3 r3 s3 dd3 => ?_⟩⟩
    · have l1 := dds_len dd
      have l2 := congrArg List.length ho
      rw [List.length_append, List.length_append] at l2
      rw [List.length_append]
      have l2' : o1.length + (y1.length + y2.length) = out.length := l2
      omega
    · exact ⟨Z3, e3, o1 ++ y1, y2, ws ++ ws2, ((s'.trans gr.z).trans s2).trans s3, r3, f2, List.append_assoc .., dds_app (DDsm dd ((gr.z.trans s2).trans s3)) dd3, by rw [List.append_assoc]; exact ho⟩
  · have ei : i = ds.length := by omega
    subst ei
    rw [List.drop_length] at e'
    cases e'
    rw [List.append_nil] at ho
    subst ho
    exact .inl ⟨wk.stops H' hGH, q ws σ' Z' H' r' (s1.z.trans s') dd⟩
end
/-! ### generator defs -/
def spG (K : PySem.W.Frag) (n : Nat) (m : List PyData → Option (List PyData)) : SpG := fun vs H Q _ => vs.length = n ∧ ∃ Z ds r, Same Z H ∧ TB H ∧ DDs K Z vs ds ∧ m ds = some r ∧ ∀ ws Z' H', Grow Z H Z' H' → DDs K Z' ws r → Q ws H'
def runY (n N : Nat) (g : DEnv → Option (List PyData × DEnv)) (ds : List PyData) : Option (List PyData) := if ds.length = n then (g (startE N ds)).bind fun x => if x.1.length ≤ lim then some x.1 else none else none
theorem runY_len {n N : Nat} {g : DEnv → Option (List PyData × DEnv)} (ds r : List PyData) (h : runY n N g ds = some r) : ds.length = n := by
  unfold runY at h
  split at h
  · assumption
  · cases h
section
variable {P : Program} {w : World} {K : PySem.W.Frag} {mg : Str → Option Value} {base : Heap} {x qual : Str} {st : Stmt} {f : Addr} {fd : FuncData} {N ps : List Str} {k : Nat} {g : DEnv → Option (List PyData × DEnv)}
abbrev BodyY (P : Program) (w : World) (K : PySem.W.Frag) (mg : Str → Option Value) (base : Heap) (N : List Str) (qual : Str) (st : Stmt) (f : Addr) (cv : Value) (k : Nat) (g : DEnv → Option (List PyData × DEnv)) : Prop :=
  ∀ (cdv : Value) (A : Around) (outer : List Env) (s : Shared) (H : Hp) (E : XK) (pn : List (Addr × Obj)) (F : Fm), cdv = cv → F.W = W0 → Room k (A.deeper (envOfC qual (defScope st) s.heap.objs.size f cdv)) →
    PYs (gcxOf P w K mg base N qual (defScope st) f cdv A outer s H E pn) F (defBody st) g
theorem fn_Y {n n' : Nat} (D : Fun K x qual st f fd) (S : GScope N ps (defScope st)) (h1 : ps.length = n) (h2 : N.length = n') (hb : BodyY P w K mg base N qual st f fd.code k g) : GFn P w K mg base (k + 1) f fd ps (spG K n (runY n n' g)) := by
  subst h1 h2
  obtain ⟨oc, od, kV, doc, pm, an, cdv, ct, osl, rfl, lk, hcd⟩ := D.ex
  refine gfn_of lk hcd S (fun vs H Q E h => h.1) fun A outer s H vs Q E pn hr h => ?_
  obtain ⟨hl, Z, ds, r, sz, tb, hd, e, q⟩ := h
  have hN : ps.length ≤ N.length := by
    have := congrArg List.length S.pre
    rw [List.length_take] at this
    omega
  have r0 := pure_start (K := K) (N := N) sz tb hd (by omega)
  have fin : ∀ {Z' H' : Hp} {σ' : St} {e' : DEnv}, Rel K ⟨Z, H, fun _ => False, W0⟩ Z' H' σ' e' → Grow Z H Z' H' := fun {Z' H' σ' e'} r' => ⟨r'.z0, r'.zh, r'.gh, fun _ => r'.tb, fun q hq => (r'.nw q hq).imp id (·.1)⟩
  unfold runY at e
  split at e
  case isFalse => cases e
  obtain ⟨⟨o, e'⟩, h3, e⟩ := bnd e
  split at e
  case isFalse => cases e
  rename_i hlim
  cases e
  refine ⟨_, hb cdv A outer s H E pn ⟨Z, H, fun _ => False, W0⟩ rfl rfl hr, Z, startE N.length ds, _, e', r0, h3, ?_, fun ws σ' Z' H' r' s' dd => q ws Z' H' (fin r') dd⟩
  show 0 + _ ≤ sizeLine
  have hlim : o.length ≤ 100000 := hlim
  show 0 + o.length ≤ sizeLine
  have : (100000 : Nat) ≤ sizeLine := by decide
  omega
end
section
variable {X : Cx} {F : Fm} {k n : Nat} {f : Addr} {fd : FuncData} {ps : List Str} {x nm : Str} {p p2 pos pos2 : Pos} {e : Expr} {es : List Expr} {fa : DEnv → Option (List PyData × DEnv)}
/-- list(g(..)) of a generator def -/
theorem pn_listG {m : List PyData → Option (List PyData)} (G : GFn X.prog X.w X.K X.mg X.base k f fd ps (spG X.K n m)) (hn : ∀ ds r, m ds = some r → ds.length = n) (hr : Room (k + 3) X.A) (hm : X.mg x = some (.ref f)) (hk : PySem.W.keepIn X.K (.ref f) = true) (hb : Binds X.K fd ps [])
    (hml : X.mg nm = none) (ha : PDA X F (e :: es) fa) (hv : bootBuiltins nm = some (.type "list") := by rfl) (hg : Gl X x := by rfl) (hgl : Gl X nm := by rfl) (hdb : (x == ("__debug__" : Str)) = false := by decide) (hnm : nm ≠ "__name__" := by decide) (hdn : (nm == ("__debug__" : Str)) = false := by decide)
    (he : starEach (e :: es) X.env = (false, eval e X.env) :: starEach es X.env := by rfl) (hpl : (backTo pos2 (starEach es X.env)).any (·.1) = false := by rfl)
    (he1 : starEach [.Call (.Name x p2) (e :: es) [] pos2] X.env = (false, eval (.Call (.Name x p2) (e :: es) [] pos2) X.env) :: starEach [] X.env := by rfl) :
    PN X F (.Call (.Name nm p) [.Call (.Name x p2) (e :: es) [] pos2] [] pos) (fCN m fa) :=
  pe_imp (pe_listG (E := fun _ _ _ => False) (pgen_call (dvs := []) (ds := []) G (hr.mono (by omega)) hg hm hk hb .nil ha hdb he hpl) (fun pins σ H s e s' _ c => by
      obtain ⟨a, B, H', cls, d, _, _, _, _, _, _, _, hW⟩ := c
      exact hW.elim) (fun _ _ _ h => h.elim) hr hgl hml hv hnm hdn he1) fun σ H Q h => by
    obtain ⟨Z, env, d, env', r, e, q⟩ := h
    obtain ⟨⟨y, e1⟩, h1, h⟩ := bnd e
    obtain ⟨d', h2, h⟩ := mpd h
    cases h
    refine ⟨Z, env, y, e1, r, h1, fun vs Z1 H1 r1 s1 d1 => ?_⟩
    show spG X.K n m (vs ++ []) H1 _ _
    rw [List.append_nil]
    refine ⟨(dds_len d1).trans (hn _ _ h2), Z1, y, d, r1.zh, r1.tb, d1, h2, fun ws Z2 H2 gr dd pp hpp => ?_⟩
    have hz2 : Z2 pp = none := gr.zh.free hpp
    have hp1 : H1 pp = none := Classical.byContradiction fun z => gr.h.k pp z hpp
    have gr2 : Grow Z1 H1 Z2 (upd H2 pp (.lst ws)) := by
      have sn : Same H2 (upd H2 pp (.lst ws)) := .of (same_new hpp _)
      refine ⟨gr.z, gr.zh.trans sn, gr.h.trans sn, fun t => (gr.t t).ext (same_new hpp _), gr.n⟩
    exact q pp ws Z2 _ (r1.grow gr2) (s1.trans gr2.stp) (s1.new hp1) hz2 upd_same dd
end
/-- repr may be written -/
class LabR [Lab] : Prop where
  on : Lab.gd
theorem gfn_gd {P : Program} {w : World} {K : PySem.W.Frag} {mg : Str → Option Value} {base : Heap} {k n : Nat} {f : Addr} {fd : FuncData} {ps : List Str} {m : List PyData → Option (List PyData)} (G : GFn P w K mg base k f fd ps (@spG (@Lab.mk Lab.toLabW Lab.T False) K n m)) : GFn P w K mg base k f fd ps (spG K n m) := by
  have cv : ∀ vs H Q E, spG K n m vs H Q E → @spG (@Lab.mk Lab.toLabW Lab.T False) K n m vs H Q E := fun vs H Q E h => by
    obtain ⟨hl, Z, ds, r, sz, tb, hd, e, q⟩ := h
    exact ⟨hl, Z, ds, r, sz, tb, hd, e, fun ws Z' H' g dd => q ws Z' H' (by cases g with | mk a b c d e => exact ⟨a, b, c, d, e⟩) dd⟩
  exact ⟨fun vs H Q E h => G.len vs H Q E (cv vs H Q E h), fun A outer s H args us vs Q E hr e0 hb rv h => G.run A outer s H args us vs Q E hr e0 hb rv (cv vs H Q E h)⟩
end DL
end L2

set_option Elab.async false
set_option maxRecDepth 100000
set_option maxHeartbeats 4000000
set_option autoImplicit false
namespace L2
namespace DL
open PySem PySem.Spec PyProof.Rows
/-! ### a tuple times an int from 0 on -/
theorem tmul_zero (l : Addr) (xs : Array Value) (n : Nat) (dd : Option Addr) (sl : Array (Option Value)) (u : Tok) (c1 : (xs.isEmpty || (0 : Int) == 1) = false) :
    Meets (Builtin.«tuple.__mul__» ⟨[.ref l, .int 0 u], []⟩) (fun _ R s => s.heap.get? l = some { cls := .type "tuple", dict := dd, data := .seq xs n, slots := sl } ∧
      R (.ok (.ret (Value.ref s.heap.objs.size))) { s with heap := s.heap.push { cls := Value.type "tuple", data := Data.seq #[] }, toks := s.toks }) :=
  .of_wp fun prog w A R s h => by
    obtain ⟨hp, g, d, tk, os⟩ := s
    obtain ⟨hl, h⟩ := h
    have f1 := AutoSeq1.idx_int
    wp_walk using wpAny_loadPart' hl
    repeat (first
      | (refine wpAny_ite_false (decide_eq_false (by decide)) ?_; wp_walk using wpAny_loadPart' hl)
      | (refine wpAny_ite_false (decide_eq_false (by rw [c1]; exact Bool.false_ne_true)) ?_; wp_walk using wpAny_loadPart' hl))
    exact ⟨_, rfl, h⟩
section
variable [Lab]
variable {X : Cx} {F : Fm}
def rep3D : PyData → PyData → Option PyData
  | .tuple xs, .int k => if (1 ≤ k ∨ k = 0 ∧ xs ≠ []) ∧ k ≤ 1000 ∧ xs.length ≤ 1000 then some (.tuple (List.replicate k.toNat xs).flatten) else none
  | _, _ => none
theorem od_rep3 : OpD X (binaryOp .Mult) rep3D := by
  intro pins s σ H x y v u Q I rx ry h
  obtain ⟨Z, a, b, d, sz, ha, hb, e, q⟩ := h
  match a, b, ha, hb, e with
  | .tuple ds, .int k, ha, hb, e =>
    change (if (1 ≤ k ∨ k = 0 ∧ ds ≠ []) ∧ k ≤ 1000 ∧ ds.length ≤ 1000 then some (PyData.tuple (List.replicate k.toNat ds).flatten) else none) = some d at e
    split at e
    case isFalse => cases e
    rename_i hc
    by_cases hg : 1 ≤ k
    · refine od_rep2 pins s σ H x y v u Q I rx ry ⟨Z, .tuple ds, .int k, d, sz, ha, hb, ?_, q⟩
      rw [← e]
      exact if_pos ⟨hg, hc.2.1, hc.2.2⟩
    · obtain ⟨hk, hd0⟩ : k = 0 ∧ ds ≠ [] := hc.1.resolve_left hg
      subst hk
      · cases e
        cases hb.int_inv
        cases ha with
        | @tup l xs _ hr hd =>
          have hl := dds_len hd
          cases rx
          obtain ⟨t, rfl⟩ := ry
          obtain ⟨its, r, ⟨⟨cls, dd, data, sl⟩, ho, hcl, n, hdd⟩, hs⟩ := I.tuple (same_sqT sz hr)
          simp only at hcl hdd
          subst hcl hdd
          have hle : its.length = ds.length := by rw [← r.length, hl]
          have c1 : (its.toArray.isEmpty || (0 : Int) == 1) = false := by
            cases its with
            | nil => exact absurd (List.eq_nil_of_length_eq_zero hle.symm) hd0
            | cons a b => rfl
          refine wpAny_binaryOp_repeat_ref (T := "tuple") (U := "int") (by decide) ⟨_, ho, rfl⟩ (fun s' => typeIs_int s' 0 t) noFill_tuple_mul F.fills_int_mul F.slot_int_rmul repeat_tuple F.slot_int_index.lookup
            (call_meets F.slot_int_rmul (typeIs_int s 0 t) F.entry_int_rmul (F.args_int_rmul_2 _ _) (int_rmul_tuple 0 t l its.toArray n dd sl)
              ⟨ho, rfl, ⟨_, ho, rfl⟩, call_meets F.slot_tuple_mul ⟨_, ho, rfl⟩ F.entry_tuple_mul (F.args_tuple_mul_2 _ _) (tmul_zero l its.toArray n dd sl t c1) ⟨ho, ?_⟩⟩)
          have hp := I.hok.fresh (Nat.le_refl s.heap.objs.size)
          refine ⟨.ref s.heap.objs.size, _, I.laid (t' := s.toks) (o := .tup []) (fun b ob q => Heap.get?_push_of_some _ q) (Nat.le_refl _) ?_, rfl, q _ _ _ (grow_new sz hp (.tup [])) (new_tup sz hp .nil)⟩
          exact ⟨by rw [sizeLine_eq]; decide, [], .nil, IsTup.new _ _⟩
/-! ### is None, is not None -/
def nonB : PyData → Bool
  | .none => true
  | _ => false
def isND (a b : PyData) : Option PyData := match b with
  | .none => some (.bool (nonB a))
  | _ => none
def notND (a b : PyData) : Option PyData := match b with
  | .none => some (.bool (!nonB a))
  | _ => none
theorem non_dd {K : PySem.W.Frag} {Z : Hp} {x : V} {a : PyData} (h : DD K Z x a) : decide (x = .non) = nonB a := by
  cases h <;> first | rfl | exact decide_eq_false (fun z => V.noConfusion z)
theorem od_isN : OpD X (compareOp .Is) isND := by
  intro pins s σ H x y v u Q I rx ry h
  obtain ⟨Z, a, b, d, sz, ha, hb, e, q⟩ := h
  match b, hb, e with
  | .none, hb, e =>
    cases e
    cases hb
    refine op_isN pins s σ H _ _ v u Q I rx ry ⟨rfl, ?_⟩
    rw [non_dd ha]
    exact q _ Z H (Grow.refl sz) (.bl _)
theorem od_notN : OpD X (compareOp .IsNot) notND := by
  intro pins s σ H x y v u Q I rx ry h
  obtain ⟨Z, a, b, d, sz, ha, hb, e, q⟩ := h
  match b, hb, e with
  | .none, hb, e =>
    cases e
    cases hb
    refine op_notN pins s σ H _ _ v u Q I rx ry ⟨rfl, ?_⟩
    rw [non_dd ha]
    exact q _ Z H (Grow.refl sz) (.bl _)
theorem isND_b : IsB isND := fun a b d h => by
  match b, h with
  | .none, h => cases h; exact ⟨_, rfl⟩
theorem notND_b : IsB notND := fun a b d h => by
  match b, h with
  | .none, h => cases h; exact ⟨_, rfl⟩
end
end DL
end L2

set_option Elab.async false
set_option maxRecDepth 100000
set_option maxHeartbeats 4000000
set_option autoImplicit false
namespace L2
namespace DL
open PySem PySem.Spec PyProof.Rows
/-! ### picks, shortened one by one -/
def stepS (F : List Pk) (p : Pk) : List Pk := match F.getLast? with
  | none => [p]
  | some q => if q.2 ≤ p.2 then F else if q.1 = p.1 then F.dropLast ++ [p] else F ++ [p]
def foldS (F : List Pk) (ps : List Pk) : List Pk := ps.foldl stepS F
theorem foldS_app (F a b : List Pk) : foldS F (a ++ b) = foldS (foldS F a) b := List.foldl_append
theorem foldS_nil (F : List Pk) : foldS F [] = F := rfl
theorem foldS_cons (F : List Pk) (p : Pk) (b : List Pk) : foldS F (p :: b) = foldS (stepS F p) b := rfl
theorem foldS_snoc (F a : List Pk) (p : Pk) : foldS F (a ++ [p]) = stepS (foldS F a) p := by rw [foldS_app]; rfl
theorem stepS_nil (p : Pk) : stepS [] p = [p] := rfl
theorem stepS_snoc (L : List Pk) (q p : Pk) : stepS (L ++ [q]) p = if q.2 ≤ p.2 then L ++ [q] else if q.1 = p.1 then L ++ [p] else L ++ [q] ++ [p] := by
  unfold stepS
  rw [List.getLast?_concat, List.dropLast_concat]
theorem snoc_or {α : Type} (l : List α) : l = [] ∨ ∃ m x, l = m ++ [x] := by
  rcases l.eq_nil_or_concat with h | ⟨m, x, h⟩
  · exact .inl h
  · exact .inr ⟨m, x, by rw [h, List.concat_eq_append]⟩
/-- behind a step the last size is not greater than the step's, nor than it was -/
theorem stepS_last (F : List Pk) (p : Pk) : ∃ L q, stepS F p = L ++ [q] ∧ q.2 ≤ p.2 ∧ ∀ G r, F = G ++ [r] → q.2 ≤ r.2 := by
  rcases snoc_or F with rfl | ⟨G, r, rfl⟩
  · exact ⟨[], p, rfl, Int.le_refl _, fun G r h => absurd h (by simp)⟩
  · rw [stepS_snoc]
    have inj : ∀ G' r', G ++ [r] = G' ++ [r'] → r' = r := fun G' r' h => by
      have := List.append_inj_right' h rfl
      exact (List.cons.inj this).1.symm
    split
    · rename_i h
      exact ⟨G, r, rfl, h, fun G' r' e => by rw [inj G' r' e]; exact Int.le_refl _⟩
    · rename_i h
      split
      · exact ⟨G, p, rfl, Int.le_refl _, fun G' r' e => by rw [inj G' r' e]; omega⟩
      · exact ⟨G ++ [r], p, rfl, Int.le_refl _, fun G' r' e => by rw [inj G' r' e]; omega⟩
theorem foldS_last : ∀ (ps : List Pk) (F G : List Pk) (r : Pk), F = G ++ [r] → ∃ L q, foldS F ps = L ++ [q] ∧ q.2 ≤ r.2 ∧ ∀ p ∈ ps, q.2 ≤ p.2
  | [], F, G, r, h => ⟨G, r, h, Int.le_refl _, fun _ z => nomatch z⟩
  | p :: ps, F, G, r, h => by
    obtain ⟨L, q, e, h1, h2⟩ := stepS_last F p
    obtain ⟨L', q', e', h1', h2'⟩ := foldS_last ps (stepS F p) L q e
    refine ⟨L', q', e', Int.le_trans h1' (h2 G r h), fun x hx => ?_⟩
    rcases List.mem_cons.mp hx with rfl | hx
    · exact Int.le_trans h1' h1
    · exact h2' x hx
theorem foldS_last' {ps : List Pk} (F : List Pk) (hne : ps ≠ []) : ∃ L q, foldS F ps = L ++ [q] ∧ ∀ p ∈ ps, q.2 ≤ p.2 := by
  cases ps with
  | nil => exact absurd rfl hne
  | cons p ps =>
    obtain ⟨L, q, e, h1, _⟩ := stepS_last F p
    obtain ⟨L', q', e', h1', h2'⟩ := foldS_last ps (stepS F p) L q e
    refine ⟨L', q', e', fun x hx => ?_⟩
    rcases List.mem_cons.mp hx with rfl | hx
    · exact Int.le_trans h1' h1
    · exact h2' x hx
/-- a pick behind one of the same order that is greater -/
theorem stepS_same (X : List Pk) {q p : Pk} (ho : q.1 = p.1) (hs : p.2 ≤ q.2) : stepS (stepS X q) p = stepS X p := by
  rcases snoc_or X with rfl | ⟨G, r, rfl⟩
  · rw [stepS_nil, stepS_nil]
    have := stepS_snoc [] q p
    rw [List.nil_append] at this
    rw [this]
    split
    · have e : q.2 = p.2 := by omega
      rw [show q = p from Prod.ext ho e]
    · rfl
  · rw [stepS_snoc G r q, stepS_snoc G r p]
    by_cases h1 : r.2 ≤ q.2
    · rw [if_pos h1, stepS_snoc]
    · rw [if_neg h1]
      have h2 : ¬ r.2 ≤ p.2 := by omega
      rw [if_neg h2]
      by_cases h3 : r.1 = q.1
      · rw [if_pos h3, if_pos (h3.trans ho), stepS_snoc]
        by_cases h4 : q.2 ≤ p.2
        · rw [if_pos h4, show q = p from Prod.ext ho (by omega)]
        · rw [if_neg h4, if_pos ho]
      · rw [if_neg h3, if_neg (fun z => h3 (z.trans ho.symm)), stepS_snoc]
        by_cases h4 : q.2 ≤ p.2
        · rw [if_pos h4, show q = p from Prod.ext ho (by omega)]
        · rw [if_neg h4, if_pos ho]
def gp (g : Od → Od) (p : Pk) : Pk := (g p.1, p.2)
/-- what picks do is what the shortened ones do, also with other orders in their place -/
theorem fold_short (g : Od → Od) (F : List Pk) : ∀ (n : Nat) (a : List Pk), a.length = n → foldS F (a.map (gp g)) = foldS F ((foldS [] a).map (gp g))
  | 0, a, h => by rw [List.eq_nil_of_length_eq_zero h]; rfl
  | n + 1, a, h => by
    rcases snoc_or a with rfl | ⟨b, p, rfl⟩
    · rfl
    · have ih := fold_short g F n b (by rw [List.length_append] at h; simpa using h)
      rw [List.map_append, foldS_snoc]
      show foldS F (b.map (gp g) ++ [gp g p]) = _
      rw [foldS_snoc, ih]
      rcases snoc_or (foldS [] b) with e | ⟨S, q, e⟩
      · rw [e]; rfl
      · rw [e, stepS_snoc]
        by_cases h1 : q.2 ≤ p.2
        · rw [if_pos h1]
          obtain ⟨L, x, ex, hx⟩ := foldS_last' (ps := (S ++ [q]).map (gp g)) F (by simp)
          rw [ex, stepS_snoc]
          have h2 : x.2 ≤ q.2 := hx (gp g q) (by simp)
          rw [if_pos (by show x.2 ≤ p.2; omega)]
        · rw [if_neg h1]
          by_cases h2 : q.1 = p.1
          · rw [if_pos h2, List.map_append, List.map_append]
            show stepS (foldS F (S.map (gp g) ++ [gp g q])) (gp g p) = foldS F (S.map (gp g) ++ [gp g p])
            rw [foldS_snoc, foldS_snoc]
            exact stepS_same _ (congrArg g h2) (by show p.2 ≤ q.2; omega)
          · rw [if_neg h2, List.map_append (l₂ := [p])]
            show _ = foldS F ((S ++ [q]).map (gp g) ++ [gp g p])
            rw [foldS_snoc]
theorem gp_id (a : List Pk) : a.map (gp id) = a := by
  have : gp id = id := funext fun p => rfl
  rw [this, List.map_id]
theorem fold_short0 (F a : List Pk) : foldS F a = foldS F (foldS [] a) := by
  have := fold_short id F a.length a rfl
  rwa [gp_id, gp_id] at this
/-- short is that -/
theorem short_snoc (a : List Pk) {p : Pk} (hp : p.2 < 30) : short (a ++ [p]) = stepS (short a) p := by
  unfold short
  rw [keep_app]
  have hl := keep_last 30 a
  have hd := dedup_last (keep 30 a)
  show dedup (keep 30 a ++ if p.2 < minS 30 a then p :: keep p.2 [] else keep (minS 30 a) []) = _
  unfold stepS
  rw [hd]
  generalize keep 30 a = K at hl hd ⊢
  have e0 : keep p.2 [] = [] := rfl
  have e1 : keep (minS 30 a) [] = [] := rfl
  rw [e0, e1]
  by_cases h : p.2 < minS 30 a
  · rw [if_pos h, dedup_snoc]
    cases hK : K.getLast? with
    | none => rfl
    | some q =>
      rw [hK] at hl
      have hq : minS 30 a = q.2 := hl
      show (if q.1 = p.1 then _ else _) = if q.2 ≤ p.2 then _ else _
      rw [if_neg (show ¬ q.2 ≤ p.2 by omega)]
  · rw [if_neg h, List.append_nil]
    cases hK : K.getLast? with
    | none =>
      rw [hK] at hl
      have hq : minS 30 a = 30 := hl
      omega
    | some q =>
      rw [hK] at hl
      have hq : minS 30 a = q.2 := hl
      show _ = if q.2 ≤ p.2 then _ else _
      rw [if_pos (by omega)]
theorem short_fold : ∀ (n : Nat) (a : List Pk), a.length = n → (∀ p ∈ a, p.2 < 30) → short a = foldS [] a
  | 0, a, h, _ => by rw [List.eq_nil_of_length_eq_zero h]; rfl
  | n + 1, a, h, hp => by
    rcases snoc_or a with rfl | ⟨b, p, rfl⟩
    · rfl
    · rw [short_snoc b (hp p (by simp)), foldS_snoc, short_fold n b (by rw [List.length_append] at h; simpa using h) fun q hq => hp q (List.mem_append_left _ hq)]
theorem short_eq {a : List Pk} (h : ∀ p ∈ a, PkOk p) : short a = foldS [] a := short_fold a.length a rfl fun p hp => by have := (h p hp).2.2; omega
theorem short_short {a : List Pk} (h : ∀ p ∈ a, PkOk p) : short (short a) = short a := by
  rw [short_eq (short_ok h).1, short_eq h, ← fold_short0]
/-! ### the same: orders alike, picks alike whatever was picked before -/
structure Alk (a b : List Pk × Od) : Prop where
  o : a.2 = b.2
  k : ∀ F, foldS F a.1 = foldS F b.1
theorem Alk.refl (a : List Pk × Od) : Alk a a := ⟨rfl, fun _ => rfl⟩
theorem Alk.trans {a b c : List Pk × Od} (h : Alk a b) (h2 : Alk b c) : Alk a c := ⟨h.o.trans h2.o, fun F => (h.k F).trans (h2.k F)⟩
theorem Alk.symm {a b : List Pk × Od} (h : Alk a b) : Alk b a := ⟨h.o.symm, fun F => (h.k F).symm⟩
theorem alk_of {a b : List Pk × Od} (ha : ∀ p ∈ a.1, PkOk p) (hb : ∀ p ∈ b.1, PkOk p) (hs : short a.1 = short b.1) (ho : a.2 = b.2) : Alk a b := by
  refine ⟨ho, fun F => ?_⟩
  rw [fold_short0 F a.1, fold_short0 F b.1, ← short_eq ha, ← short_eq hb, hs]
theorem Alk.short {a b : List Pk × Od} (h : Alk a b) (ha : ∀ p ∈ a.1, PkOk p) (hb : ∀ p ∈ b.1, PkOk p) : short a.1 = short b.1 := by
  rw [short_eq ha, short_eq hb, h.k]
section
variable {α : Type} {f : α → Od → List Pk × Od}
theorem alk_app {a b c d : List α} {o : Od} (h1 : Alk (seqS f a o) (seqS f b o)) (h2 : Alk (seqS f c (seqS f a o).2) (seqS f d (seqS f a o).2)) : Alk (seqS f (a ++ c) o) (seqS f (b ++ d) o) := by
  rw [seq_app, seq_app, ← h1.o]
  refine ⟨h2.o, fun F => ?_⟩
  show foldS F ((seqS f a o).1 ++ _) = foldS F ((seqS f b o).1 ++ _)
  rw [foldS_app, foldS_app, h1.k, h2.k]
theorem alk_mid {a b c d : List α} (h : ∀ o, Alk (seqS f b o) (seqS f c o)) (o : Od) : Alk (seqS f ((a ++ b) ++ d) o) (seqS f ((a ++ c) ++ d) o) :=
  alk_app (alk_app (Alk.refl _) (h _)) (Alk.refl _)
end
/-! ### programs without restore: what they do to any order -/
def act (s o : Od) : Od := (s.1 ++ phi (!s.2) (offs s.1 o.1), o.2.xor (!s.2))
theorem offs_nil (ks : List KB) : offs [] ks = ks := by rw [offs, List.filter_eq_self]; intro _ _; rfl
theorem act_start (s : Od) : act s start0 = s := by
  obtain ⟨ks, b⟩ := s
  cases b <;> simp [act, start0, offs, phi]
theorem start_act (o : Od) : act start0 o = o := by
  obtain ⟨ks, b⟩ := o
  simp [act, start0, offs_nil, phi]
theorem act_act (s t o : Od) : act s (act t o) = act (act s t) o := by
  obtain ⟨P2, b2⟩ := s
  obtain ⟨P1, b1⟩ := t
  have e : offs P2 (phi (!b1) (offs P1 o.1)) = phi (!b1) (offs (P2 ++ phi (!b2) (offs P2 P1)) o.1) := by
    rw [offs_phi]
    congr 1
    unfold offs
    rw [List.filter_filter]
    refine List.filter_congr fun k _ => ?_
    rw [List.map_append, show (phi (!b2) (P1.filter fun k => !decide (k.1 ∈ P2.map (·.1)))).map (·.1) = (offs P2 P1).map (·.1) from phi_cols _ _]
    have : (k.1 ∈ P2.map (·.1) ++ (offs P2 P1).map (·.1)) ↔ (k.1 ∈ P2.map (·.1) ∨ k.1 ∈ P1.map (·.1)) := by
      rw [List.mem_append]
      constructor
      · rintro (z | z)
        · exact .inl z
        · obtain ⟨x, hx, e⟩ := List.mem_map.mp z
          exact .inr (List.mem_map.mpr ⟨x, (List.mem_filter.mp hx).1, e⟩)
      · rintro (z | z)
        · exact .inl z
        · by_cases w : k.1 ∈ P2.map (·.1)
          · exact .inl w
          · obtain ⟨x, hx, e⟩ := List.mem_map.mp z
            refine .inr (List.mem_map.mpr ⟨x, List.mem_filter.mpr ⟨hx, ?_⟩, e⟩)
            rw [e]
            simpa using w
    by_cases w2 : k.1 ∈ P2.map (·.1)
    · rw [decide_eq_true w2, decide_eq_true (this.mpr (.inl w2))]; rfl
    · by_cases w1 : k.1 ∈ P1.map (·.1)
      · rw [decide_eq_true w1, decide_eq_true (this.mpr (.inr w1))]; simp
      · rw [decide_eq_false w2, decide_eq_false w1, decide_eq_false (fun z => (this.mp z).elim w2 w1)]; rfl
  unfold act
  dsimp only
  rw [offs_app, phi_app, e, phi_phi]
  refine Prod.ext ?_ ?_
  · dsimp only
    rw [List.append_assoc]
    congr 2
    cases b1 <;> cases b2 <;> rfl
  · dsimp only
    cases b1 <;> cases b2 <;> cases o.2 <;> rfl
def noRes : (n : Nat) → Cm n → Bool
  | 0, .res => false
  | 0, _ => true
  | _ + 1, .inl .res => false
  | _ + 1, .inl _ => true
  | n + 1, .inr (_, ps) => ps.all (noRes n)
/-- as from the start, the orders moved along -/
def Mv (f : Od → List Pk × Od) : Prop := ∀ o, f o = ((f start0).1.map (gp fun s => act s o), act (f start0).2 o)
theorem mv_seq {α : Type} {f : α → Od → List Pk × Od} : ∀ {cs : List α}, (∀ c ∈ cs, Mv (f c)) → Mv (seqS f cs)
  | [], _, o => by
    show (([] : List Pk), o) = ([], act start0 o)
    rw [start_act]
  | c :: cs, h, o => by
    have h1 := h c List.mem_cons_self
    have ih := mv_seq (cs := cs) fun x hx => h x (List.mem_cons_of_mem _ hx)
    rw [seqS, seqS, h1 o, ih (act (f c start0).2 o), ih (f c start0).2]
    dsimp only
    rw [List.map_append, List.map_map, act_act]
    congr 2
    refine List.map_congr_left fun p _ => ?_
    show (act p.1 (act _ o), p.2) = (act (act p.1 _) o, p.2)
    rw [act_act]
theorem mv_P : ∀ (p : Pl), (match p with | .res => false | _ => true) = true → Mv (semP p)
  | .sort d c, _, o => by
    show (([] : List Pk), putO c d o) = ([], act (putO c d start0) o)
    have : offs [(c, d)] o.1 = offO c o.1 := by
      unfold offs offO
      refine List.filter_congr fun k _ => ?_
      simp
    simp [putO, act, start0, phi, offO, this]
  | .rev, _, o => by
    show (([] : List Pk), flO o) = ([], act (flO start0) o)
    simp [flO, act, start0, phi, offs_nil]
  | .cut f k, _, o => by
    show ([(if f then o else flO o, k)], o) = ([(if f then start0 else flO start0, k)].map (gp fun s => act s o), act start0 o)
    rw [start_act]
    cases f
    · show ([(flO o, k)], o) = ([(act (flO start0) o, k)], o)
      simp [flO, act, start0, phi, offs_nil]
    · show ([(o, k)], o) = ([(act start0 o, k)], o)
      rw [start_act]
  | .res, h, _ => nomatch h
theorem mv_sem : ∀ (n : Nat) (c : Cm n), noRes n c = true → Mv (sem n c)
  | 0, .sort d c, _ => mv_P (.sort d c) rfl
  | 0, .rev, _ => mv_P .rev rfl
  | 0, .cut f k, _ => mv_P (.cut f k) rfl
  | 0, .res, h => nomatch h
  | _ + 1, .inl (.sort d c), _ => mv_P (.sort d c) rfl
  | _ + 1, .inl .rev, _ => mv_P .rev rfl
  | _ + 1, .inl (.cut f k), _ => mv_P (.cut f k) rfl
  | _ + 1, .inl .res, h => nomatch h
  | n + 1, .inr (t, ps), h => by
    have q := mv_seq (f := sem n) (cs := ps) fun c hc => mv_sem n c (List.all_eq_true.mp h c hc)
    intro o
    show ((seqS (sem n) ps o).1, if t % 2 = 0 then _ else _) = ((seqS (sem n) ps start0).1.map _, act (if t % 2 = 0 then _ else _) o)
    have e1 := q o
    refine Prod.ext ?_ ?_
    · have := congrArg Prod.fst e1
      exact this
    · dsimp only
      by_cases z : t % 2 = 0
      · rw [if_pos z, if_pos z, q (seqS (sem n) ps o).2, q (seqS (sem n) ps start0).2]
        dsimp only
        rw [congrArg Prod.snd e1]
        dsimp only
        rw [act_act]
      · rw [if_neg z, if_neg z]
        have := congrArg Prod.snd e1
        exact this
/-- alike from the start, alike from anywhere -/
theorem alk_mv {f g : Od → List Pk × Od} (hf : Mv f) (hg : Mv g) (h : Alk (f start0) (g start0)) (o : Od) : Alk (f o) (g o) := by
  rw [hf o, hg o]
  refine ⟨congrArg (fun s => act s o) h.o, fun F => ?_⟩
  dsimp only
  rw [fold_short _ F _ _ rfl, fold_short _ F _ (g start0).1 rfl, h.k []]
/-! ### an order, written as a program -/
def spelt (o : Od) : List Pl := .res :: ((if o.2 then [] else [.rev]) ++ (o.1.map fun k => Pl.sort k.2 k.1).reverse)
theorem put_new {c : Int} {d b : Bool} {ks : List KB} (h : c ∉ ks.map (·.1)) : putO c d (ks, b) = ((c, d) :: ks, b) := by
  show ((c, d) :: offO c ks, b) = _
  congr 2
  rw [offO, List.filter_eq_self]
  intro k hk
  simp only [Bool.not_eq_true', decide_eq_false_iff_not]
  exact fun z => h (by rw [← z]; exact List.mem_map_of_mem hk)
theorem sorts_do : ∀ (ks : List KB), (ks.map (·.1)).Nodup → ∀ b, seqS semP (ks.map fun k => Pl.sort k.2 k.1).reverse ([], b) = ([], (ks, b))
  | [], _, b => rfl
  | k :: ks, h, b => by
    rw [List.map_cons, List.nodup_cons] at h
    rw [List.map_cons, List.reverse_cons, seq_app, sorts_do ks h.2 b]
    show (([] : List Pk) ++ [], putO k.1 k.2 (ks, b)) = _
    rw [put_new h.1]
    rfl
theorem spelt_do {o : Od} (h : OOk o) (o' : Od) : seqS semP (spelt o) o' = ([], o) := by
  obtain ⟨ks, b⟩ := o
  have := sorts_do ks h.nd
  show ((semP .res o').1 ++ (seqS semP ((if b then [] else [Pl.rev]) ++ (ks.map fun k => Pl.sort k.2 k.1).reverse) start0).1, (seqS semP ((if b then [] else [Pl.rev]) ++ (ks.map fun k => Pl.sort k.2 k.1).reverse) start0).2) = _
  rw [seq_app]
  cases b
  · show (([] : List Pk) ++ ([] ++ (seqS semP (ks.map fun k => Pl.sort k.2 k.1).reverse ([], false)).1), (seqS semP (ks.map fun k => Pl.sort k.2 k.1).reverse ([], false)).2) = _
    rw [this false]; rfl
  · show (([] : List Pk) ++ ([] ++ (seqS semP (ks.map fun k => Pl.sort k.2 k.1).reverse ([], true)).1), (seqS semP (ks.map fun k => Pl.sort k.2 k.1).reverse ([], true)).2) = _
    rw [this true]; rfl
theorem spelt_ok {o : Od} (h : OOk o) : (∀ p ∈ spelt o, PlOk p) ∧ (spelt o).length ≤ 6 := by
  refine ⟨fun p hp => ?_, ?_⟩
  · rcases List.mem_cons.mp hp with rfl | hp
    · trivial
    · rcases List.mem_append.mp hp with z | z
      · obtain ⟨ks, b⟩ := o
        cases b
        · rw [show p = Pl.rev from List.mem_singleton.mp z]; trivial
        · cases z
      · obtain ⟨k, hk, rfl⟩ := List.mem_map.mp (List.mem_reverse.mp z)
        exact h.rg k hk
  · have := h.len
    obtain ⟨ks, b⟩ := o
    show ((if b then [] else [Pl.rev]) ++ (ks.map fun k => Pl.sort k.2 k.1).reverse).length + 1 ≤ 6
    rw [List.length_append, List.length_reverse, List.length_map]
    have e : (if b then ([] : List Pl) else [Pl.rev]).length ≤ 1 := by cases b <;> decide
    have : ks.length ≤ 4 := this
    omega
def spell : List Pk → List Pl
  | [] => []
  | p :: ps => (spelt p.1 ++ [.cut true p.2]) ++ spell ps
theorem spell_app : ∀ a b : List Pk, spell (a ++ b) = spell a ++ spell b
  | [], _ => rfl
  | p :: a, b => by rw [List.cons_append, spell, spell, spell_app a b]; simp only [List.append_assoc]
theorem spell_do : ∀ (ps : List Pk), (∀ p ∈ ps, PkOk p) → ∀ o : Od, (seqS semP (spell ps) o).1 = ps
  | [], _, _ => rfl
  | p :: ps, h, o => by
    rw [spell, seq_app, seq_app, spelt_do (h p List.mem_cons_self).1]
    show (([] : List Pk) ++ [(p.1, p.2)]) ++ (seqS semP (spell ps) _).1 = _
    rw [spell_do ps (fun q hq => h q (List.mem_cons_of_mem _ hq))]
    rfl
theorem spell_ok : ∀ {ps : List Pk}, (∀ p ∈ ps, PkOk p) → (∀ p ∈ spell ps, PlOk p) ∧ (spell ps).length ≤ 7 * ps.length
  | [], _ => And.intro (fun _ h => nomatch h) (Nat.le_refl _)
  | p :: ps, h => by
    obtain ⟨a, b⟩ := spell_ok (ps := ps) fun q hq => h q (List.mem_cons_of_mem _ hq)
    have hp := h p List.mem_cons_self
    obtain ⟨c, d⟩ := spelt_ok hp.1
    refine ⟨fun x hx => ?_, ?_⟩
    · rcases List.mem_append.mp hx with z | z
      · rcases List.mem_append.mp z with w | w
        · exact c x w
        · rw [show x = Pl.cut true p.2 from List.mem_singleton.mp w]; exact hp.2
      · exact a x z
    · rw [spell, List.length_append, List.length_append, List.length_cons]
      have : (p :: ps).length = ps.length + 1 := rfl
      show _ + 1 + _ ≤ _
      omega
def asProg (r : List Pk × Od) : List Pl := spell r.1 ++ spelt r.2
theorem asProg_do {r : List Pk × Od} (h : ∀ p ∈ r.1, PkOk p) (ho : OOk r.2) (o : Od) : seqS semP (asProg r) o = r := by
  unfold asProg
  rw [seq_app, spell_do r.1 h, spelt_do ho]
  show (r.1 ++ [], r.2) = r
  rw [List.append_nil]
end DL
end L2

set_option Elab.async false
set_option maxRecDepth 100000
set_option maxHeartbeats 4000000
set_option autoImplicit false
namespace L2
namespace DL
open PySem PySem.Spec PyProof.Rows
/-! ### what shortened picks leave -/
theorem srtP_self {key : Nat → List Int} (h : KvA key) {l : List Nat} (nd : l.Nodup) (hs : l.Pairwise fun i j => key i < key j) : srtP key l = l := srtP_of h nd (List.Perm.refl _) hs
theorem pick_len (t : Tab) (q : Pk) (l : List Nat) : (pickedP t [q] l).length ≤ q.2.toNat := by
  show ((srtP (kvO t q.1) l).take q.2.toNat).length ≤ _
  rw [List.length_take]
  omega
theorem pick_step (t : Tab) (F : List Pk) (p : Pk) {l : List Nat} (nd : l.Nodup) : (pickedP t (stepS F p) l).Perm (pickedP t (F ++ [p]) l) := by
  rcases snoc_or F with rfl | ⟨G, q, rfl⟩
  · exact List.Perm.refl _
  · rw [stepS_snoc, pickedP_app t (G ++ [q]) [p], pickedP_app t G [q]]
    have nG := pickedP_nodup t G nd
    generalize hl : pickedP t G l = m at nG
    split
    · rename_i h
      rw [pickedP_app, hl]
      show (pickedP t [q] m).Perm ((srtP (kvO t p.1) (pickedP t [q] m)).take p.2.toNat)
      have := pick_len t q m
      rw [List.take_of_length_le (by rw [srtP_len]; omega)]
      exact (srtP_perm _ _).symm
    · rename_i h
      split
      · rename_i ho
        rw [pickedP_app, hl]
        show ((srtP (kvO t p.1) m).take p.2.toNat).Perm ((srtP (kvO t p.1) ((srtP (kvO t q.1) m).take q.2.toNat)).take p.2.toNat)
        rw [ho, srtP_self (kvO_a t p.1) ((List.take_sublist _ _).nodup (srtP_nodup nG)) ((srtP_sorted (kvO_a t p.1) nG).sublist (List.take_sublist _ _)), List.take_take, Nat.min_eq_left (by omega)]
      · rw [pickedP_app, pickedP_app t G [q], hl]
theorem pick_fold (t : Tab) : ∀ (n : Nat) (a : List Pk), a.length = n → ∀ {l : List Nat}, l.Nodup → (pickedP t (foldS [] a) l).Perm (pickedP t a l)
  | 0, a, h, l, _ => by rw [List.eq_nil_of_length_eq_zero h]; exact List.Perm.refl _
  | n + 1, a, h, l, nd => by
    rcases snoc_or a with rfl | ⟨b, p, rfl⟩
    · exact List.Perm.refl _
    · have ih := pick_fold t n b (by rw [List.length_append] at h; simpa using h) nd
      rw [foldS_snoc]
      refine (pick_step t _ p nd).trans ?_
      rw [pickedP_app, pickedP_app]
      exact pickedP_perm t [p] (pickedP_nodup t _ nd) ih
theorem runP_alk {t : Tab} {a b : List Pk × Od} (h : Alk a b) : runP t a = runP t b := by
  have p1 := pick_fold t a.1.length a.1 rfl (List.nodup_range (n := t.length))
  have p2 := pick_fold t b.1.length b.1 rfl (List.nodup_range (n := t.length))
  rw [h.k []] at p1
  unfold runP
  rw [h.o]
  exact srtP_congr (kvO_a t _) (pickedP_nodup t _ List.nodup_range) (p1.symm.trans p2)
end DL
end L2

set_option Elab.async false
set_option maxRecDepth 100000
set_option maxHeartbeats 4000000
set_option autoImplicit false
namespace L2
namespace DL
open PySem PySem.Spec PyProof.Rows
section
variable [Lab]
variable {X : Cx} {F : Fm} {pos : Pos}
/-! ### a, b = data, a new list, where the stores are not swapped -/
def sDN (i j : Nat) (f : DEnv → Option (PyData × DEnv)) (gn : DEnv → Option (List PyData × DEnv)) (env : DEnv) : Option DFlow := (f env).bind fun x => (gn x.2).map fun y => .nx ((y.2.set i (some (.fr x.1))).set j (some (.ow y.1)))
theorem ds_dn (i j : Nat) {x y : Str} {e1 e2 : Expr} {px py pt pt2 : Pos} {kt k2} {f : DEnv → Option (PyData × DEnv)} {gn : DEnv → Option (List PyData × DEnv)} (hN : X.N.Nodup) (hij : i ≠ j) (ha : PD X F e1 f) (hb : PN X F e2 gn)
    (hc : X.calm = true := by rfl) (hi : X.N[i]? = some x := by rfl) (hj : X.N[j]? = some y := by rfl)
    (hx : Loc X.env.scope x := by first | exact Or.inl rfl | exact Or.inr rfl) (hy : Loc X.env.scope y := by first | exact Or.inl rfl | exact Or.inr rfl)
    (fx : X.fn x = true ∨ X.env.scope.names.lookup x = some .local := by first | exact .inl rfl | exact .inr rfl | assumption)
    (fy : X.fn y = true ∨ X.env.scope.names.lookup y = some .local := by first | exact .inl rfl | exact .inr rfl | assumption)
    (hs1 : starEach [e1, e2] X.env = (false, eval e1 X.env) :: starEach [e2] X.env := by rfl)
    (hs2 : starEach [e2] X.env = (false, eval e2 X.env) :: starEach [] X.env := by rfl)
    (hn : (assignEach [.Name x px, .Name y py] X.env).length = 2 := by rfl) (hst : (assignEach [.Name x px, .Name y py] X.env).findIdx? (·.1) = none := by rfl)
    (ha1 : (assignEach [.Name x px, .Name y py] X.env).map (·.2) = assign (.Name x px) X.env :: (assignEach [.Name y py] X.env).map (·.2) := by rfl)
    (ha2 : (assignEach [.Name y py] X.env).map (·.2) = assign (.Name y py) X.env :: (assignEach [] X.env).map (·.2) := by rfl)
    (hs : swapsWithSole [.Tuple [.Name x px, .Name y py] kt pt] (.Tuple [e1, e2] k2 pt2) pos.line X.env = pure false := by rfl) (hw : swappedStores [.Tuple [.Name x px, .Name y py] kt pt] (.Tuple [e1, e2] k2 pt2) X.env = pure none := by rfl)
    (h1 : (assignEach [.Tuple [.Name x px, .Name y py] kt pt] X.env).map (·.2) = [assign (.Tuple [.Name x px, .Name y py] kt pt) X.env] := by rfl) :
    PDS X F (.Assign [.Tuple [.Name x px, .Name y py] kt pt] (.Tuple [e1, e2] k2 pt2) pos) (sDN i j f gn) :=
  ps_imp (ps_asg (pe_tup (pa_cons ha (pa_cons hb pa_nil hs2) hs1)) (pg_tup hc (pgs_cons (pg_name hN hi hx fx) (pgs_cons (pg_name hN hj hy fy) pgs_nil ha2) ha1) hn hst) hs hw h1) fun D σ H h => by
    obtain ⟨Z, env, fl, r, e, q⟩ := h
    obtain ⟨⟨d, e1⟩, h1, h⟩ := bnd e
    obtain ⟨⟨ds, e2⟩, h2, h⟩ := mpd h
    subst h
    refine ⟨Z, env, d, e1, r, h1, fun v Z1 H1 r1 s1 d1 => ⟨Z1, e1, ds, e2, r1, h2, fun p xs Z2 H2 r2 s2 h0 hz hp dd => ⟨by rw [sizeLine_eq]; show (2 : Nat) ≤ _; decide, fun t ht => ⟨t, [v, .ref p], rfl, SqT.of upd_same, rfl, v, [.ref p], rfl, .ref p, [], rfl, rfl, ?_⟩⟩⟩⟩
    have gr := grow_own r2.zh ht (.tup [v, .ref p])
    have r3 := r2.grow gr
    have tp : p ≠ t := fun z => by rw [← z, hp] at ht; cases ht
    have hp3 : upd H2 t (.tup [v, .ref p]) p = some (.lst xs) := by rw [upd_ne tp]; exact hp
    have fr2 : Fre σ e2 p := s2.fre (fre_new r1 h0)
    have np : ¬ F.P p := fun z => (r1.pp p z).1 h0
    have ng : F.G p = none := r1.gh.free h0
    have ra := r3.store i (DDm d1 s2.z)
    refine q _ Z2 _ (ra.storeN j (p := p) (xs := xs) (ds := ds) (fun k dv ek ok sk => ?_) np ng hz hp3 dd) (s1.z.trans s2.z)
    rcases get_set_some ek with ⟨rfl, ex⟩ | ⟨hne, ex⟩
    · cases ex
      cases ok
    · rw [List.getElem?_set_ne (fun z => hne z.symm)] at sk
      exact fr2 k dv ex ok sk
theorem ev_dn {i j : Nat} {f : DEnv → Option (PyData × DEnv)} {gn : DEnv → Option (List PyData × DEnv)} {env e1 e2 e3 : DEnv} {d : PyData} {ds : List PyData} (h1 : f env = some (d, e1)) (h2 : gn e1 = some (ds, e2)) (he : (e2.set i (some (.fr d))).set j (some (.ow ds)) = e3) : sDN i j f gn env = some (.nx e3) := by
  unfold sDN; rw [h1]; show (gn e1).map _ = _; rw [h2, ← he]; rfl
end
end DL
end L2

set_option Elab.async false
set_option maxRecDepth 100000
set_option maxHeartbeats 4000000
set_option autoImplicit false
namespace L2
namespace DL
open PySem PySem.Spec PyProof.Rows
/-! ### zip of a tuple and a list -/
def ItzM (K : PySem.W.Frag) (a b : Addr) : It where
  go := fun i H => ∃ (xs ys : List V) (x y : V), SqT K H a xs ∧ SqL K H b ys ∧ xs[i]? = some x ∧ ys[i]? = some y
  yld := fun i H v H' => ∃ (T : Addr) (x y : V), v = .ref T ∧ H T = none ∧ H' = upd H T (.tup [x, y]) ∧ (∀ xs, SqT K H a xs → xs[i]? = some x) ∧ ∀ ys, SqL K H b ys → ys[i]? = some y
  stop := fun i H => ∃ xs ys : List V, SqT K H a xs ∧ SqL K H b ys ∧ i ≤ xs.length ∧ i ≤ ys.length ∧ (i = xs.length ∨ i = ys.length)
abbrev tnM (a b z TI TO j1 j2 : Addr) (i : Nat) (h : Heap) : Prop := PySem.IsZip h z TI TO .none ∧ PySem.IsTupOf2 h TI (.ref j1) (.ref j2) ∧ (∃ x y, PySem.IsTupOf2 h TO x y) ∧ h.IsTupleIter j1 a i ∧ h.IsListIter j2 b i
theorem turn_zipM {P : Program} {w : World} {K : PySem.W.Frag} {elts : List Expr} {kk : Nat} {tpos : Pos} {a b z TI TO j1 j2 : Addr} (D : PySem.ZipSep2 z TI TO j1 j2 [j1, a] [j2, b]) (na : a ≠ j1) (nb : b ≠ j2) :
    Turn P w K (.Tuple elts kk tpos) (ItzM K a b) [z, TI, TO, j1, j2] z (tnM a b z TI TO j1 j2) where
  mem := List.mem_cons_self
  obj := fun i h st c hc => by
    obtain ⟨hz, hTI, ⟨x, y, hTO⟩, ⟨o1, e1, _, d1⟩, ⟨o2, e2, _, d2⟩⟩ := st
    simp only [List.mem_cons, List.not_mem_nil, or_false] at hc
    rcases hc with rfl | rfl | rfl | rfl | rfl
    · exact ⟨_, hz, fun v q => nomatch q⟩
    · exact ⟨_, hTI, fun v q => nomatch q⟩
    · exact ⟨_, hTO, fun v q => nomatch q⟩
    · refine ⟨o1, e1, fun v q => ?_⟩; rw [d1] at q; cases q
    · refine ⟨o2, e2, fun v q => ?_⟩; rw [d2] at q; cases q
  keep := fun i h h' st k => by
    obtain ⟨hz, hTI, ⟨x, y, hTO⟩, m1, m2⟩ := st
    refine ⟨k z (by simp) _ hz, k TI (by simp) _ hTI, ⟨x, y, k TO (by simp) _ hTO⟩, ?_, ?_⟩
    · exact m1.at fun o q => k j1 (by simp) o q
    · exact m2.at fun o q => k j2 (by simp) o q
  item := by
    intro X hP hw hK hc i pins s σ H E I hf st hg
    subst hP hw hK
    obtain ⟨hz, hTI, ⟨x0, y0, hTO⟩, m1, m2⟩ := st
    obtain ⟨xs, ys, x, y, qx, qy, gx, gy⟩ := hg
    obtain ⟨us, rv, tp, _⟩ := I.tuple qx
    obtain ⟨vs, rw', lp, _⟩ := I.list qy
    obtain ⟨u, hu, ru⟩ := rv.get gx
    obtain ⟨v, hv, rv'⟩ := rw'.get gy
    have zlt : z < s.heap.objs.size := Heap.lt_size hz
    have hh : X.A.handled = none := I.ok.hd hc
    refine PySem.wpAny_pyNext_zipD2_item D (PySem.Draws.tuple (A := X.A.in1) hh j1 a na us.toArray) (PySem.Draws.list (A := X.A.in1) hh j2 b nb vs.toArray) hz hTI hTO ⟨m1, tp⟩ ⟨m2, lp.isList⟩ ?_ ?_ fun x1 x2 h' tk g1 g2 z' TO' t1 t2 hT hsz hk => ?_
    · rw [List.size_toArray]; exact (List.getElem?_eq_some_iff.mp hu).1
    · rw [List.size_toArray]; exact (List.getElem?_eq_some_iff.mp hv).1
    have e1 : x1 = u := by
      have : us.toArray[i]? = some u := by simpa using hu
      exact Option.some.inj (g1.symm.trans this)
    have e2 : x2 = v := by
      have : vs.toArray[i]? = some v := by simpa using hv
      exact Option.some.inj (g2.symm.trans this)
    subst e1 e2
    refine ⟨_, rfl, wpAny_letOwnedTupleGo_zip (s := { s with heap := h', toks := tk }) z' fun h2 z2 sb => ?_⟩
    have nT : h2.get? s.heap.objs.size = some { cls := .type "tuple", data := .seq #[x1, x2] } := (sb.2 _ (Nat.ne_of_gt zlt)).trans hT
    have new : ObjOk X.prog X.w (upd H s.heap.objs.size (.tup [x, y])) h2 s.heap.objs.size (.tup [x, y]) := ⟨by rw [sizeLine_eq]; show (2 : Nat) ≤ _; decide, [x1, x2], .cons ru (.cons rv' .nil), ⟨_, nT, rfl, _, rfl⟩⟩
    have I1 : Inv X pins σ (upd H s.heap.objs.size (.tup [x, y])) { s with heap := h2, toks := tk } := by
      refine I.turnedNew (t' := tk) (ch := [z, TI, TO, j1, j2]) (fun c o hb q => ?_) hf (Nat.le_refl _) new
      simp only [List.mem_cons, List.not_mem_nil, or_false, not_or] at hb
      exact (sb.2 c hb.1).trans (hk c o hb.1 hb.2.2.1 hb.2.2.2.1 hb.2.2.2.2 q)
    refine ⟨.ref s.heap.objs.size, _, I1, rfl, ⟨_, x, y, rfl, I.hok.fresh (Nat.le_refl _), rfl, fun l hl => ?_, fun l hl => ?_⟩, ⟨z2, ?_, ⟨x1, x2, ?_⟩, ?_, ?_⟩, fun c hcm => ?_⟩
    · rw [I.tuple_inj hl qx]; exact gx
    · rw [I.list_inj hl qy]; exact gy
    · exact (sb.2 _ D.TIz).trans (hk _ _ D.TIz D.TITO D.TIi1 D.TIi2 hTI)
    · exact (sb.2 _ D.TOz).trans TO'
    · exact t1.1.at fun o q => (sb.2 _ (fun e => D.zi1 e.symm)).trans q
    · exact t2.1.at fun o q => (sb.2 _ (fun e => D.zi2 e.symm)).trans q
    · have hlt : c < s.heap.objs.size := by
        simp only [List.mem_cons, List.not_mem_nil, or_false] at hcm
        rcases hcm with rfl | rfl | rfl | rfl | rfl
        · exact zlt
        · exact Heap.lt_size hTI
        · exact Heap.lt_size hTO
        · obtain ⟨_, q, _⟩ := m1; exact Heap.lt_size q
        · obtain ⟨_, q, _⟩ := m2; exact Heap.lt_size q
      rw [upd_ne (Nat.ne_of_lt hlt)]
      exact (hf c hcm).1
  done := by
    intro X hP hw hK hc i pins s σ H E I hf st hg
    subst hP hw hK
    obtain ⟨hz, hTI, ⟨x0, y0, hTO⟩, m1, m2⟩ := st
    obtain ⟨xs, ys, qx, qy, l1, l2, he⟩ := hg
    obtain ⟨us, rv, tp, _⟩ := I.tuple qx
    obtain ⟨vs, rw', lp, _⟩ := I.list qy
    have k1 := rv.length
    have k2 := rw'.length
    have hh : X.A.handled = none := I.ok.hd hc
    refine PySem.wpAny_pyNext_zipD2_end D (PySem.Draws.tuple (A := X.A.in1) hh j1 a na us.toArray) (PySem.Draws.list (A := X.A.in1) hh j2 b nb vs.toArray) hz hTI hTO ⟨m1, tp⟩ ⟨m2, lp.isList⟩ ?_ ?_ ?_ fun h' tk hk => ⟨rfl, ?_⟩
    · rw [List.size_toArray]; omega
    · rw [List.size_toArray]; omega
    · rw [List.size_toArray, List.size_toArray]; omega
    · refine I.turnedL (t' := tk) (ch := [z, TI, TO, j1, j2]) (fun c o hb q => ?_) hf
      simp only [List.mem_cons, List.not_mem_nil, or_false, not_or] at hb
      exact hk c o hb.1 hb.2.2.1 hb.2.2.2.1 hb.2.2.2.2 q
  self := fun A i s Q E st h => wpAny_pyIter_zip st.1 h
def iZipM (K : PySem.W.Frag) (ta : TA) : TI := fun σ H R => ta σ H fun vs H1 => ∃ (a b : Addr) (xs ys : List V), vs = [.ref a, .ref b] ∧ SqT K H1 a xs ∧ SqL K H1 b ys ∧ R (ItzM K a b) H1
theorem sepM {N a b : Nat} (ha : a < N) (hb : b < N) : PySem.ZipSep2 (N + 4) (N + 2) (N + 3) N (N + 1) [N, a] [N + 1, b] :=
  PySem.zip_sep2 (fp1 := [a]) (fp2 := [b]) (fun x hx => by rw [List.mem_singleton.mp hx]; exact ha) fun x hx => by rw [List.mem_singleton.mp hx]; exact hb
theorem pi_zipM {X : Cx} {e e2 : Expr} {ta : TA} {p pos tpos : Pos} {elts : List Expr} {kk : Nat} (hg : Gl X "zip") (hm : X.mg "zip" = none) (ha : PA X [e, e2] ta)
    (hs : starEach [e, e2] X.env = (false, eval e X.env) :: starEach [e2] X.env) (hpl : (backTo pos (starEach [e2] X.env)).any (·.1) = false) :
    PI X (.Tuple elts kk tpos) (.Call (.Name "zip" p) [e, e2] [] pos) (iZipM X.K ta) := by
  constructor
  intro pins s σ H R I h
  refine Call_ (ld_blt I hg hm PyProof.Rows.boot_zip (PyProof.Rows.callWith_type1 (thn (ha.run pos pins s σ H _ I h) ?_) hs hpl))
  rintro us s1 ⟨vs, H1, I1, r1, a, b, xs, ys, rfl, qx, qy, q⟩
  cases r1 with
  | cons r rr =>
    cases rr with
    | cons r' rr =>
      cases rr
      cases r
      cases r'
      obtain ⟨its, rv, tp, _⟩ := I1.tuple qx
      obtain ⟨jts, rw', lp, _⟩ := I1.list qy
      obtain ⟨o1, ho1, _⟩ := id tp
      have al : a < s1.heap.objs.size := Heap.lt_size ho1
      have bl : b < s1.heap.objs.size := lp.lt
      refine PySem.zip_begins2 (PySem.begins_tuple a its.toArray) (PySem.begins_list b jts.toArray) tp lp.isList fun h' hz hTI hTO g1 g2 hsz hk => wpAny_pyIter_zip hz ?_
      have I2 : Inv X pins σ H1 { s1 with heap := h' } := I1.kept (t' := s1.toks) hk
      refine ⟨s1.heap.objs.size + 4, [s1.heap.objs.size + 4, s1.heap.objs.size + 2, s1.heap.objs.size + 3, s1.heap.objs.size, s1.heap.objs.size + 1], _, _, H1, rfl, I2, turn_zipM (sepM al bl) (Nat.ne_of_lt al) (Nat.ne_of_lt (Nat.lt_succ_of_lt bl)), ⟨hz, hTI, ⟨_, _, hTO⟩, ⟨_, g1, rfl, rfl⟩, ⟨_, g2, rfl, rfl⟩⟩, fun c hc => ?_, q⟩
      have hle : s1.heap.objs.size ≤ c := by
        simp only [List.mem_cons, List.not_mem_nil, or_false] at hc
        rcases hc with z | z | z | z | z <;> rw [z] <;> first | exact Nat.le_refl _ | exact Nat.le_add_right _ _
      exact I1.fpOk hle (I1.hok.fresh hle)
section
variable [Lab]
theorem walk_zipM {K : PySem.W.Frag} {a b : Addr} {xs ys : List V} (hl : xs.length = ys.length) : Walk (ItzM K a b) xs.length (fun H => SqT K H a xs ∧ SqL K H b ys) (YPair (fun i => xs[i]?) (fun i => ys[i]?)) := by
  refine ⟨fun i _ hi q => ⟨xs, ys, xs[i], ys[i]'(by omega), q.1, q.2, by simp [hi], by simp [show i < ys.length by omega]⟩, fun _ q => ⟨xs, ys, q.1, q.2, Nat.le_refl _, by omega, .inl rfl⟩, fun i H v H' _ q y => ?_⟩
  obtain ⟨T, x, y, h1, h2, h3, h4, h5⟩ := y
  exact ⟨T, x, y, h1, h2, h3, h4 xs q.1, h5 ys q.2⟩
def zipD (xs ys : List PyData) : List PyData := List.zipWith (fun x y => .tuple [x, y]) xs ys
theorem wd_zipM {K : PySem.W.Frag} {Z : Hp} {a b : Addr} {xs ys : List V} {ds es : List PyData} (ha : SqT K Z a xs) (hd : DDs K Z xs ds) (hb : LsR K Z b ys) (he : DDs K Z ys es) (hl : ds.length = es.length) : WalkD K (ItzM K a b) Z (zipD ds es) := by
  have l1 := dds_len hd
  have l2 := dds_len he
  have lz : (zipD ds es).length = xs.length := by unfold zipD; rw [List.length_zipWith]; omega
  refine ⟨_, _, lz ▸ walk_zipM (K := K) (a := a) (b := b) (xs := xs) (ys := ys) (by omega), fun H s => ⟨same_sqT s ha, (same_ls s hb).sq⟩, fun i H x H' Zc hi y s1 s2 => ?_⟩
  obtain ⟨T, u, v, rfl, nT, rfl, e1, e2⟩ := y
  obtain ⟨d, e3, e4⟩ := dds_get' hd e1
  obtain ⟨d', e5, e6⟩ := dds_get' he e2
  refine ⟨_, .tuple [d, d'], grow_new s2 nT _, ?_, new_tup s2 nT (.cons (DDm e4 s1) (.cons (DDm e6 s1) .nil))⟩
  unfold zipD
  rw [List.getElem?_zipWith, e3, e5]
def zipA : List PyData → Option (List PyData)
  | [.tuple xs, .list ys] => if xs.length = ys.length then some (zipD xs ys) else none
  | _ => none
theorem di_zipM {X : Cx} {F : Fm} {e e2 : Expr} {fa : DEnv → Option (List PyData × DEnv)} {p pos : Pos} {elts : List Expr} {kk : Nat} {tpos : Pos} (hm : X.mg "zip" = none) (ha : PDA X F [e, e2] fa) (hg : Gl X "zip" := by rfl) (hs : starEach [e, e2] X.env = (false, eval e X.env) :: starEach [e2] X.env := by rfl) (hpl : (backTo pos (starEach [e2] X.env)).any (·.1) = false := by rfl) :
    PDI X F (.Tuple elts kk tpos) (.Call (.Name "zip" p) [e, e2] [] pos) (iArg zipA fa) := pi_imp (pi_zipM hg hm ha hs hpl) fun σ H Q h => by
  obtain ⟨Z, env, ds, env', r, e, q⟩ := h
  obtain ⟨⟨d, e1⟩, h1, h⟩ := bnd e
  obtain ⟨ds', h2, h⟩ := mpd h
  cases h
  match d, h1, h2 with
  | [.tuple js, .list ks], h1, h2 =>
    change (if js.length = ks.length then some (zipD js ks) else none) = some ds at h2
    split at h2
    case isFalse => cases h2
    rename_i hl
    cases h2
    refine ⟨Z, env, _, e1, r, h1, fun vs Z1 H1 r1 s1 d1 => ?_⟩
    cases d1 with
    | cons d1 dr =>
      cases dr with
      | cons d2 dn =>
        cases dn
        cases d1 with
        | @tup a xs _ hr hd =>
          cases d2 with
          | @lst b ys _ hr2 hd2 => exact ⟨a, b, xs, ys, rfl, same_sqT r1.zh hr, (same_ls r1.zh hr2).sq, q _ Z1 H1 r1 s1 (wd_zipM hr hd hr2 hd2 hl)⟩
end
end DL
end L2

set_option Elab.async false
set_option maxRecDepth 100000
set_option maxHeartbeats 4000000
set_option autoImplicit false
namespace L2
namespace DL
open PySem PySem.Spec PyProof.Rows
/-! ### len(set(t)), t a tuple of different ints -/
theorem same_count {l m : List Int} (hl : l.Nodup) (hm : m.Nodup) (h : ∀ x, x ∈ l ↔ x ∈ m) : l.length = m.length :=
  Nat.le_antisymm (nodup_le l m hl fun x hx => (h x).mp hx) (nodup_le m l hm fun x hx => (h x).mpr hx)
section
variable [Lab]
variable {X : Cx} {F : Fm} {e : Expr} {f : DEnv → Option (PyData × DEnv)}
def tLenSetT (K : PySem.W.Frag) (te : TE) : TE := fun σ H Q => te σ H fun x H1 => ∃ (l : Addr) (ns : List Int), x = .ref l ∧ SqT K H1 l (ns.map V.int) ∧ ns.Nodup ∧ ns.length < 64 ∧ Q (.int (ns.length : Nat)) H1
theorem pe_lenSetT {te : TE} {p1 p2 p3 p4 : Pos} (hc : X.calm = true) (h1 : Gl X "len") (m1 : X.mg "len" = none) (h2 : Gl X "set") (m2 : X.mg "set" = none) (he : PE X e te)
    (ne : starEach [e] X.env = (false, eval e X.env) :: starEach [] X.env) : PE X (.Call (.Name "len" p1) [.Call (.Name "set" p2) [e] [] p3] [] p4) (tLenSetT X.K te) := by
  refine ⟨fun pins s σ H Q I h => Call_ (ld_blt I h1 m1 PySem.boot_len (callWith_builtin1 (args_cons (Call_ (ld_blt I h2 m2 PyProof.Rows.boot_set ?_)) rfl) rfl rfl))⟩
  refine callWith_type1 (args_cons (thn (he.run pins s σ H _ I h) fun v sa ⟨x, Ha, Ia, ra, qa⟩ => args_nil ?_) ne) ne rfl
  obtain ⟨l, ns, rfl, hq, hnd, hl, qa⟩ := qa
  cases ra
  obtain ⟨its, rv, pl, hz⟩ := Ia.tuple hq
  refine call_set_tupI (P := X.prog) (w := X.w) ns (Ia.ok.hd hc) pl (by simpa using rv.ints) (by unfold scanBound; omega) fun hp tk c hS hle kp => args_nil ?_
  obtain ⟨o, es, ep, t, ho, hex, hd, _, nd, hm, _, hf, hn, _⟩ := hS
  have hcount : es.size = ns.length := by
    have := same_count nd hnd fun k => by
      rw [← hm k]
      exact decide_eq_true_iff
    rwa [List.length_map, Array.length_toList] at this
  have Ib : Inv X pins σ Ha { sa with heap := hp, toks := tk } := Ia.kept fun b o z => kp b o z
  exact call_len_set ho hex hd hf (by rw [hcount]; omega) ⟨.int (ns.length : Nat), Ha, Ib.tok _, ⟨_, by rw [hcount]⟩, qa⟩
def lenSetT : PyData → Option PyData
  | .tuple ds => (intsL ds).bind fun ns => if ns.Nodup ∧ ns.length < 64 then some (.int (ns.length : Nat)) else none
  | _ => none
def fLenSetT (f : DEnv → Option (PyData × DEnv)) (env : DEnv) : Option (PyData × DEnv) := (f env).bind fun x => (lenSetT x.1).map fun d => (d, x.2)
theorem pd_lenSetT {p1 p2 p3 p4 : Pos} (m1 : X.mg "len" = none) (m2 : X.mg "set" = none) (he : PD X F e f) (hc : X.calm = true := by rfl) (h1 : Gl X "len" := by rfl) (h2 : Gl X "set" := by rfl)
    (ne : starEach [e] X.env = (false, eval e X.env) :: starEach [] X.env := by rfl) : PD X F (.Call (.Name "len" p1) [.Call (.Name "set" p2) [e] [] p3] [] p4) (fLenSetT f) := pe_imp (pe_lenSetT hc h1 m1 h2 m2 he ne) fun σ H Q h => by
  obtain ⟨Z, env, d, env', r, e, q⟩ := h
  obtain ⟨⟨d0, e1⟩, g1, e⟩ := bnd e
  obtain ⟨d', g2, e⟩ := mpd e
  cases e
  refine ⟨Z, env, d0, e1, r, g1, fun v Z1 H1 r1 s1 d1 => ?_⟩
  cases d0 with
  | tuple ds =>
    obtain ⟨ns, g3, g4⟩ := bnd g2
    split at g4
    case isFalse => cases g4
    rename_i hl
    cases g4
    cases intsL_of g3
    cases d1 with
    | @tup a xs _ hx dx =>
      cases dds_intsV dx
      exact ⟨a, ns, rfl, same_sqT r1.zh hx, hl.1, hl.2, q _ Z1 H1 r1 s1 (.int _)⟩
  | _ => cases g2
theorem ev_lenSetT {env e1 : DEnv} {d z : PyData} (h : f env = some (d, e1)) (h2 : lenSetT d = some z) : fLenSetT f env = some (z, e1) := by
  unfold fLenSetT; rw [h]; show (lenSetT d).map _ = _; rw [h2]; rfl
end
end DL
end L2

set_option Elab.async false
set_option maxRecDepth 100000
set_option maxHeartbeats 4000000
set_option autoImplicit false
namespace L2
namespace DL
open PySem PySem.Spec PyProof.Rows
variable [Lab]
/-- reached from a start by steps, stores into the block's names and wipes -/
structure Frm (σ0 : St) (e0 : DEnv) (Z0 H0 : Hp) (σ : St) (e : DEnv) (Z H : Hp) : Prop where
  st : Stp σ0 e0 Z0 H0 e Z H
  ss : ∀ (j : Nat) (dv : DV), e[j]? = some (some dv) → ownish dv = true → σ[j]? = σ0[j]?
section
variable {F : Fm} {σ0 σ σ' : St} {e0 e e' : DEnv} {Z0 H0 Z H Z' H' : Hp} {D : Addr}
theorem Frm.free (f : Frm σ0 e0 Z0 H0 σ e Z H) {q : Addr} (h : Fre σ0 e0 q) : Fre σ e q := fun j dv ej oj sj => by
  obtain ⟨dv0, b, o⟩ := f.st.o j dv ej oj
  exact h j dv0 b o ((f.ss j dv ej oj).symm.trans sj)
theorem Frm.step (f : Frm σ0 e0 Z0 H0 σ e Z H) (b : Stp σ e Z H e' Z' H') : Frm σ0 e0 Z0 H0 σ e' Z' H' := by
  refine ⟨⟨f.st.z.trans b.z, fun q o hq n fr => b.h q o (f.st.h q o hq n fr) n (f.free fr), fun q h4 h0 hh fr => ?_, fun j dv ej oj => ?_, fun q hq => b.k q (f.st.k q hq)⟩, fun j dv ej oj => ?_⟩
  · by_cases hz : Z q = none
    · exact b.n q h4 hz (f.st.k q hh) (f.free fr)
    · exact f.st.n q hz h0 hh fr
  · obtain ⟨dv1, a, o⟩ := b.o j dv ej oj
    exact f.st.o j dv1 a o
  · obtain ⟨dv1, a, o⟩ := b.o j dv ej oj
    exact f.ss j dv1 a o
theorem Frm.wipe (f : Frm σ0 e0 Z0 H0 σ e Z H) (vs : List Nat) : Frm σ0 e0 Z0 H0 (L2.wipe σ vs) (wipeE e vs) Z H :=
  ⟨⟨f.st.z, f.st.h, f.st.n, fun j dv ej oj => f.st.o j dv (wipeE_in _ _ _ _ ej).2 oj, f.st.k⟩, fun j dv ej oj => by
    obtain ⟨a, b⟩ := wipeE_in _ _ _ _ ej
    rw [wipe_get _ _ _ a]; exact f.ss j dv b oj⟩
theorem Frm.tg {ts : List Nat} (f : Frm σ0 e0 Z0 H0 σ e Z H) (k : TgOk ts σ e σ' e') : Frm σ0 e0 Z0 H0 σ' e' Z H :=
  ⟨⟨f.st.z, f.st.h, f.st.n, fun j dv ej oj => f.st.o j dv (k.o j dv ej oj).2 oj, f.st.k⟩, fun j dv ej oj => by
    obtain ⟨a, b⟩ := k.o j dv ej oj
    rw [k.s j a]; exact f.ss j dv b oj⟩
theorem Frm.poke (f : Frm σ0 e0 Z0 H0 σ e Z H) (h0 : H0 D = none) (x : HO) : Frm σ0 e0 Z0 H0 σ e Z (upd H D x) :=
  ⟨⟨f.st.z, fun q o hq n fr => by rw [upd_ne (fun z => by rw [z, h0] at hq; cases hq)]; exact f.st.h q o hq n fr, f.st.n, f.st.o, fun q hq => by
    by_cases hqD : q = D
    · subst hqD; rw [upd_same]; simp
    · rw [upd_ne hqD]; exact f.st.k q hq⟩, f.ss⟩
theorem dkeep {acc : List V} (fr : Fre σ e D) (b : Stp σ e Z H e' Z' H') (hD : H D = some (.lst acc)) (zD : Z D = none) : H' D = some (.lst acc) ∧ Z' D = none := by
  refine ⟨b.h D _ hD nt_lst fr, ?_⟩
  cases hh : Z' D with
  | none => rfl
  | some o => exact absurd fr (b.n D (by rw [hh]; simp) zD (by rw [hD]; simp))
/-- one clause's loop, the list at D within -/
def LcLoop (J : It) (g : TG) (tt : TT) (te : TE) (vs : List Nat) (σ : St) (D : Addr) (H1 : Hp) (Qd : Hp → Prop) : Prop := ∃ W : Nat → Nat → Hp → Prop, (∃ m, W 0 m H1) ∧ ∀ i m H, W i m H →
    (J.stop i H ∧ Qd H) ∨ (J.go i H ∧ ∃ Nx : Hp → Prop, (∀ H', Nx H' → ∃ m', m' < m ∧ W (i + 1) m' H') ∧ ∀ x H', J.yld i H x H' → g x (L2.wipe σ vs) H' fun σ2 H2 => L2.wipe σ2 vs = L2.wipe σ vs ∧ tt σ2 H2 fun b H3 => if b = true then te σ2 H3 fun y H4 => ∃ acc, H4 D = some (.lst acc) ∧ acc.length < sizeLine ∧ Nx (upd H4 D (.lst (acc ++ [y]))) else Nx H3)
theorem lcWalk {J : It} {n : Nat} {G : Hp → Prop} {Y : Nat → Hp → V → Hp → Prop} (w : Walk J n G Y) {g : TG} {tt : TT} {te : TE} {vs : List Nat} {H1 : Hp} {Qd : Hp → Prop} (Pv : Nat → Hp → Prop) (h0 : Pv 0 H1) (hG : ∀ i H, i ≤ n → Pv i H → G H)
    (hs : ∀ i x H H', i < n → Pv i H → Y i H x H' → g x (L2.wipe σ vs) H' fun σ2 H2 => L2.wipe σ2 vs = L2.wipe σ vs ∧ tt σ2 H2 fun b H3 => if b = true then te σ2 H3 fun y H4 => ∃ acc, H4 D = some (.lst acc) ∧ acc.length < sizeLine ∧ Pv (i + 1) (upd H4 D (.lst (acc ++ [y]))) else Pv (i + 1) H3) (hd : ∀ H, Pv n H → Qd H) : LcLoop J g tt te vs σ D H1 Qd :=
  ⟨fun i m H => m + i = n ∧ Pv i H, ⟨n, rfl, h0⟩, fun i m H ⟨e, p⟩ => by
    have q := hG i H (by omega) p
    cases m with
    | zero => obtain rfl : i = n := by omega
              exact Or.inl ⟨w.stops H q, hd H p⟩
    | succ m => exact Or.inr ⟨w.goes i H (by omega) q, Pv (i + 1), fun H' p' => ⟨m, by omega, by omega, p'⟩, fun x H' y => hs i x H H' (by omega) p (w.yields i H x H' (by omega) q y)⟩⟩
theorem lc_in {K : PySem.W.Frag} {ts vs : List Nat} {g : PyData → DEnv → Option DEnv} {ft : DEnv → Option (Bool × DEnv)} {fe : DEnv → Option (PyData × DEnv)} (hts : ∀ i ∈ ts, i ∈ vs) (hD0 : H0 D = none) (gD : F.G D = none) (pD : ¬ F.P D) (frD : Fre σ0 e0 D) {J : It} {Z1 H1 : Hp} {ds : List PyData} {ew env' : DEnv} {acc0 : List V} {ad0 rs : List PyData}
    (wk : WalkD K J Z1 ds) (r1 : Rel K F Z1 H1 (L2.wipe σ vs) ew) (nv : ∀ (j : Nat) (dv : DV), ew[j]? = some (some dv) → j ∉ vs) (fm : Frm σ0 e0 Z0 H0 (L2.wipe σ vs) ew Z1 H1) (hD1 : H1 D = some (.lst acc0)) (zD1 : Z1 D = none) (da : DDs K Z1 acc0 ad0) (hl : acc0.length + ds.length ≤ sizeLine) (el : lcD g ft fe vs ds ew = some (rs, env')) {Qd : Hp → Prop}
    (hq : ∀ acc Zc Hc, Same Z1 Zc → Rel K F Zc Hc (L2.wipe σ vs) env' → Frm σ0 e0 Z0 H0 (L2.wipe σ vs) env' Zc Hc → Hc D = some (.lst acc) → Zc D = none → acc.length ≤ acc0.length + ds.length → DDs K Zc acc (ad0 ++ rs) → Qd Hc) :
    LcLoop J (tGN K F ts g) (tDT K F ft) (tD K F fe) vs σ D H1 Qd := by
  obtain ⟨G, Y, wk, hG, hY⟩ := wk
  refine lcWalk wk (fun i Hc => ∃ Zc ec acc ad rest, Same Z1 Zc ∧ Rel K F Zc Hc (L2.wipe σ vs) ec ∧ (∀ (j : Nat) (dv : DV), ec[j]? = some (some dv) → j ∉ vs) ∧ Frm σ0 e0 Z0 H0 (L2.wipe σ vs) ec Zc Hc ∧ Hc D = some (.lst acc) ∧ Zc D = none ∧ acc.length ≤ acc0.length + i ∧ DDs K Zc acc ad ∧ lcD g ft fe vs (ds.drop i) ec = some (rest, env') ∧ ad0 ++ rs = ad ++ rest) ?_ ?_ ?_ ?_
  · exact ⟨Z1, ew, acc0, ad0, rs, Same.refl _, r1, nv, fm, hD1, zD1, Nat.le_refl _, da, el, rfl⟩
  · rintro i Hc hi ⟨Zc, ec, acc, ad, rest, sz, rc, _⟩
    exact hG Hc (sz.trans rc.zh)
  · rintro i x Hc H2 hi ⟨Zc, ec, acc, ad, rest, sz, rc, nv, fm, hDc, zDc, hla, dacc, el, eq⟩ y
    obtain ⟨Zn, d, gr, hd, dd⟩ := hY i Hc x H2 Zc hi y sz rc.zh
    have ed : ds.drop i = d :: ds.drop (i + 1) := by
      obtain ⟨hl, hx⟩ := List.getElem?_eq_some_iff.mp hd
      rw [← hx]
      exact List.drop_eq_getElem_cons hl
    rw [ed] at el
    obtain ⟨e2, g2, el⟩ := bnd el
    obtain ⟨⟨tb, e3⟩, t2, el⟩ := bnd el
    obtain ⟨hDn, zDn⟩ := dkeep (fm.free frD) (gr.stp (σ := L2.wipe σ vs) (env := ec)) hDc zDc
    have fmn := fm.step (gr.stp (σ := L2.wipe σ vs) (env := ec))
    refine ⟨Zn, ec, d, e2, rc.grow gr, dd, g2, fun σ2 r2 k2 => ?_⟩
    have wst : L2.wipe σ2 vs = L2.wipe σ vs := by
      rw [wipe_eq (σ := L2.wipe σ vs) (τ := σ2) k2.l (fun j hj => k2.s j fun z => hj (hts j z))]
      exact wipe_eq (wipe_length σ vs) fun j hj => wipe_get σ vs j hj
    have fm2 := fmn.tg k2
    refine ⟨wst, Zn, e2, tb, e3, r2, t2, fun Z3 H3 r3 s3 => ?_⟩
    obtain ⟨hD3, zD3⟩ := dkeep (fm2.free frD) s3 hDn zDn
    have fm3 := fm2.step s3
    cases tb with
    | false =>
      have rw3 := r3.wipe vs
      have fw3 := fm3.wipe vs
      rw [wst] at rw3 fw3
      exact iteF ⟨Z3, wipeE e3 vs, acc, ad, rest, (sz.trans gr.z).trans s3.z, rw3, fun j dv e => (wipeE_in _ _ _ _ e).1, fw3, hD3, zD3, by omega, DDsm dacc (gr.z.trans s3.z), el, eq⟩
    | true =>
      obtain ⟨⟨yv, e4⟩, y2, el⟩ := bnd el
      obtain ⟨⟨rr, e5⟩, l2, el⟩ := mpd el
      cases el
      refine iteT ⟨Z3, e3, yv, e4, r3, y2, fun v Z4 H4 r4 s4 d4 => ?_⟩
      obtain ⟨hD4, zD4⟩ := dkeep (fm3.free frD) s4 hD3 zD3
      have fm4 := fm3.step s4
      have pk := pok_upd r4.zh zD4 hD4 (.lst (acc ++ [v]))
      have rp := (r4.poke0 (fm4.free frD) gD pD pk (by rw [upd_same]; simp)).wipe vs
      have fp := (fm4.poke hD0 (.lst (acc ++ [v]))).wipe vs
      rw [wst] at rp fp
      refine ⟨acc, hD4, by omega, Z4, wipeE e4 vs, acc ++ [v], ad ++ [yv], rr, (sz.trans gr.z).trans (s3.z.trans s4.z), rp, fun j dv e => (wipeE_in _ _ _ _ e).1, fp, upd_same, zD4, ?_, dds_app (DDsm dacc (gr.z.trans (s3.z.trans s4.z))) (.cons d4 .nil), l2, ?_⟩
      · rw [List.length_append, List.length_singleton]; omega
      · rw [eq, List.append_assoc]; rfl
  · rintro Hc ⟨Zc, ec, acc, ad, rest, sz, rc, nv, fm, hDc, zDc, hla, dacc, el, eq⟩
    rw [List.drop_length] at el
    cases el
    rw [List.append_nil] at eq
    subst eq
    exact hq acc Zc Hc sz rc fm hDc zDc hla dacc
/-! ### comprehensions of two clauses -/
def lcD2 (g : PyData → DEnv → Option DEnv) (ft : DEnv → Option (Bool × DEnv)) (fi1 : DEnv → Option (List PyData × DEnv)) (g1 : PyData → DEnv → Option DEnv) (ft1 : DEnv → Option (Bool × DEnv)) (fe : DEnv → Option (PyData × DEnv)) (vs vs1 : List Nat) : List PyData → DEnv → Option (List PyData × DEnv)
  | [], env => some ([], env)
  | d :: ds, env => (g d env).bind fun e1 => (ft e1).bind fun t => if t.1 then (fi1 t.2).bind fun x => if x.1.length ≤ 1000 then (lcD g1 ft1 fe vs1 x.1 (wipeE x.2 vs1)).bind fun r => (lcD2 g ft fi1 g1 ft1 fe vs vs1 ds (wipeE r.2 vs)).map fun q => (r.1 ++ q.1, q.2) else none else lcD2 g ft fi1 g1 ft1 fe vs vs1 ds (wipeE t.2 vs)
def nLc2 (fi : DEnv → Option (List PyData × DEnv)) (g : PyData → DEnv → Option DEnv) (ft : DEnv → Option (Bool × DEnv)) (fi1 : DEnv → Option (List PyData × DEnv)) (g1 : PyData → DEnv → Option DEnv) (ft1 : DEnv → Option (Bool × DEnv)) (fe : DEnv → Option (PyData × DEnv)) (vs vs1 : List Nat) (env : DEnv) : Option (List PyData × DEnv) :=
  (fi env).bind fun x => if x.1.length ≤ 1000 then lcD2 g ft fi1 g1 ft1 fe vs vs1 x.1 (wipeE x.2 vs) else none
theorem million_le : 1000000 ≤ sizeLine := by decide
theorem lc_read2 {K : PySem.W.Frag} {ts ts1 vs vs1 : List Nat} {fi fi1 : DEnv → Option (List PyData × DEnv)} {g g1 : PyData → DEnv → Option DEnv} {ft ft1 : DEnv → Option (Bool × DEnv)} {fe : DEnv → Option (PyData × DEnv)} (hts : ∀ i ∈ ts, i ∈ vs) (hts1 : ∀ i ∈ ts1, i ∈ vs1) (hv : ∀ i ∈ vs1, i ∈ vs) {Q : VK} (h : tDN K F (nLc2 fi g ft fi1 g1 ft1 fe vs vs1) σ H Q) :
    tLc2 (tDI K F fi) (tGN K F ts g) (tDT K F ft) (tDI K F fi1) (tGN K F ts1 g1) (tDT K F ft1) (tD K F fe) vs vs1 σ H Q := by
  obtain ⟨Z, env, rs, env', r, e, q⟩ := h
  obtain ⟨⟨ds, e1⟩, e0, e⟩ := bnd e
  dsimp only at e
  split at e
  case isFalse => cases e
  rename_i hlim
  refine ⟨Z, env, ds, e1, r, e0, fun J Z1 H1 r1 s1 w D hD => ?_⟩
  obtain ⟨G, Y, wk, hG, hY⟩ := w
  have hD0 : H D = none := s1.new hD
  have zD1 : Z1 D = none := r1.zh.free hD
  have g1' : Grow Z1 H1 Z1 (upd H1 D (.lst [])) := grow_own r1.zh hD _
  have frD : Fre σ env D := fre_new r hD0
  have gD : F.G D = none := r.gh.free hD0
  have pD : ¬ F.P D := fun z => (r.pp D z).1 hD0
  have f0 : Frm σ env Z H σ e1 Z1 (upd H1 D (.lst [])) := ⟨s1.trans g1'.stp, fun _ _ _ _ => rfl⟩
  have big := million_le
  let Pv : Nat → Hp → Prop := fun i Hc => ∃ Zc ec acc ad rest, Same Z1 Zc ∧ Rel K F Zc Hc (L2.wipe σ vs) ec ∧ (∀ (j : Nat) (dv : DV), ec[j]? = some (some dv) → j ∉ vs) ∧ Frm σ env Z H (L2.wipe σ vs) ec Zc Hc ∧ Hc D = some (.lst acc) ∧ Zc D = none ∧ acc.length ≤ 1000 * i ∧ DDs K Zc acc ad ∧ lcD2 g ft fi1 g1 ft1 fe vs vs1 (ds.drop i) ec = some (rest, env') ∧ rs = ad ++ rest
  refine ⟨fun i m Hc => m + i = ds.length ∧ Pv i Hc, ⟨ds.length, rfl, Z1, wipeE e1 vs, [], [], rs, Same.refl _, (r1.grow g1').wipe vs, fun j dv e => (wipeE_in _ _ _ _ e).1, f0.wipe vs, upd_same, zD1, Nat.zero_le _, .nil, e, rfl⟩, ?_⟩
  rintro i m Hc ⟨em, p⟩
  obtain ⟨Zc, ec, acc, ad, rest, sz, rc, nv, fm, hDc, zDc, hla, dacc, el, eq⟩ := p
  have hGc := hG Hc (sz.trans rc.zh)
  cases m with
  | zero =>
    obtain rfl : i = ds.length := by omega
    rw [List.drop_length] at el
    cases el
    rw [List.append_nil] at eq
    subst eq
    have st := fm.st
    exact Or.inl ⟨wk.stops Hc hGc, q D acc Zc Hc (rc.unwipe nv) st hD0 zDc hDc dacc⟩
  | succ m =>
    have hi : i < ds.length := by omega
    refine Or.inr ⟨wk.goes i Hc hi hGc, Pv (i + 1), fun H' p' => ⟨m, by omega, by omega, p'⟩, fun x H2 y => ?_⟩
    obtain ⟨Zn, d, gr, hd, dd⟩ := hY i Hc x H2 Zc hi (wk.yields i Hc x H2 hi hGc y) sz rc.zh
    have ed : ds.drop i = d :: ds.drop (i + 1) := by
      obtain ⟨hl, hx⟩ := List.getElem?_eq_some_iff.mp hd
      rw [← hx]
      exact List.drop_eq_getElem_cons hl
    rw [ed] at el
    obtain ⟨e2, g2, el⟩ := bnd el
    obtain ⟨⟨tb, e3⟩, t2, el⟩ := bnd el
    obtain ⟨hDn, zDn⟩ := dkeep (fm.free frD) (gr.stp (σ := L2.wipe σ vs) (env := ec)) hDc zDc
    have fmn := fm.step (gr.stp (σ := L2.wipe σ vs) (env := ec))
    refine ⟨Zn, ec, d, e2, rc.grow gr, dd, g2, fun σ2 r2 k2 => ?_⟩
    have wst : L2.wipe σ2 vs = L2.wipe σ vs := by
      rw [wipe_eq (σ := L2.wipe σ vs) (τ := σ2) k2.l (fun j hj => k2.s j fun z => hj (hts j z))]
      exact wipe_eq (wipe_length σ vs) fun j hj => wipe_get σ vs j hj
    have wst1 : L2.wipe (L2.wipe σ2 vs1) vs = L2.wipe σ vs := by
      rw [← wst]
      exact wipe_eq (wipe_length σ2 vs1) fun j hj => wipe_get σ2 vs1 j fun z => hj (hv j z)
    have fm2 := fmn.tg k2
    refine ⟨wst, Zn, e2, tb, e3, r2, t2, fun Z3 H3 r3 s3 => ?_⟩
    obtain ⟨hD3, zD3⟩ := dkeep (fm2.free frD) s3 hDn zDn
    have fm3 := fm2.step s3
    cases tb with
    | false =>
      have rw3 := r3.wipe vs
      have fw3 := fm3.wipe vs
      rw [wst] at rw3 fw3
      exact iteF ⟨Z3, wipeE e3 vs, acc, ad, rest, (sz.trans gr.z).trans s3.z, rw3, fun j dv e => (wipeE_in _ _ _ _ e).1, fw3, hD3, zD3, by omega, DDsm dacc (gr.z.trans s3.z), el, eq⟩
    | true =>
      obtain ⟨⟨ds1, e4⟩, x2, el⟩ := bnd el
      dsimp only at el
      split at el
      case isFalse => cases el
      rename_i hl1
      obtain ⟨⟨rs1, e5⟩, l1, el⟩ := bnd el
      obtain ⟨⟨rr, e6⟩, l2, el⟩ := mpd el
      cases el
      refine iteT ⟨Z3, e3, ds1, e4, r3, x2, fun J1 Z4 H4 r4 s4 w4 => ?_⟩
      obtain ⟨hD4, zD4⟩ := dkeep (fm3.free frD) s4 hD3 zD3
      have fm4 := fm3.step s4
      have sz4 := (sz.trans gr.z).trans (s3.z.trans s4.z)
      refine lc_in (σ0 := σ) (e0 := env) (Z0 := Z) (H0 := H) (acc0 := acc) (ad0 := ad) hts1 hD0 gD pD frD w4 (r4.wipe vs1) (fun j dv e => (wipeE_in _ _ _ _ e).1) (fm4.wipe vs1) hD4 zD4 (DDsm dacc (gr.z.trans (s3.z.trans s4.z))) (by omega) l1 fun acc' Z5 H5 s5 r5 fm5 hD5 zD5 hl5 d5 => ?_
      have rw5 := r5.wipe vs
      have fw5 := fm5.wipe vs
      rw [wst1] at rw5 fw5
      exact ⟨Z5, wipeE e5 vs, acc', ad ++ rs1, rr, sz4.trans s5, rw5, fun j dv e => (wipeE_in _ _ _ _ e).1, fw5, hD5, zD5, by omega, d5, l2, by rw [eq, List.append_assoc]⟩
end
section
variable {X : Cx} {F : Fm} {tg iter tg1 iter1 elt : Expr} {ifs ifs1 : List Expr} {pos : Pos} {y : Str} {fe : DEnv → Option (PyData × DEnv)} {fi fi1 : DEnv → Option (List PyData × DEnv)} {ft ft1 : DEnv → Option (Bool × DEnv)} {scope : Scope} {ts ts1 : List Nat} {g g1 : PyData → DEnv → Option DEnv}
theorem pn_lc2 (own : List (Str × Nat)) (vs1 : List Nat) (hN : X.N.Nodup) (hi : PDI X F tg iter fi) (ok : BlkOk X.N X.env.scope scope own)
    (hg : ∀ (s : Shared) (H : Hp) (C : Addr) (cl : List (Str × Addr)) (fp : List Addr), PGN (X.blk s H scope (compEnvC scope cl C X.env) fp) F tg ts g) (ht : ∀ (s : Shared) (H : Hp) (C : Addr) (cl : List (Str × Addr)) (fp : List Addr), PDTs (X.blk s H scope (compEnvC scope cl C X.env) fp) F ifs ft) (hi1 : ∀ (s : Shared) (H : Hp) (C : Addr) (cl : List (Str × Addr)) (fp : List Addr), PDI (X.blk s H scope (compEnvC scope cl C X.env) fp) F tg1 iter1 fi1)
    (hg1 : ∀ (s : Shared) (H : Hp) (C : Addr) (cl : List (Str × Addr)) (fp : List Addr), PGN (X.blk s H scope (compEnvC scope cl C X.env) fp) F tg1 ts1 g1) (ht1 : ∀ (s : Shared) (H : Hp) (C : Addr) (cl : List (Str × Addr)) (fp : List Addr), PDTs (X.blk s H scope (compEnvC scope cl C X.env) fp) F ifs1 ft1) (he : ∀ (s : Shared) (H : Hp) (C : Addr) (cl : List (Str × Addr)) (fp : List Addr), PD (X.blk s H scope (compEnvC scope cl C X.env) fp) F elt fe)
    (hts : ∀ i ∈ ts, i ∈ own.map (·.2) := by decide) (hts1 : ∀ i ∈ ts1, i ∈ vs1 := by decide) (hv : ∀ i ∈ vs1, i ∈ own.map (·.2) := by decide) (hc : X.calm = true := by rfl) (hs : ∀ x, foldedSetIterable iter X.env x = pure x := by intro _; rfl) (hs1 : ∀ env x, foldedSetIterable iter1 env x = pure x := by intro _ _; rfl) :
    PN X F (.ListComp elt [⟨tg, iter, ifs, 0⟩, ⟨tg1, iter1, ifs1, 0⟩] scope pos) (nLc2 fi g ft fi1 g1 ft1 fe (own.map (·.2)) vs1) :=
  pe_imp (pe_lc2 (wi1 := tDI X.K F fi1) (g := tGN X.K F ts g) (tt := tDT X.K F ft) (g1 := tGN X.K F ts1 g1) (tt1 := tDT X.K F ft1) (te := tD X.K F fe) hc hN hi ok hv hg ht hi1 hg1 ht1 he hs hs1) fun _ _ _ h => lc_read2 hts hts1 hv h
theorem ds_setLc2 (i : Nat) {py spos : Pos} (own : List (Str × Nat)) (vs1 : List Nat) (hN : X.N.Nodup) (hi : PDI X F tg iter fi) (ok : BlkOk X.N X.env.scope scope own)
    (hg : ∀ (s : Shared) (H : Hp) (C : Addr) (cl : List (Str × Addr)) (fp : List Addr), PGN (X.blk s H scope (compEnvC scope cl C X.env) fp) F tg ts g) (ht : ∀ (s : Shared) (H : Hp) (C : Addr) (cl : List (Str × Addr)) (fp : List Addr), PDTs (X.blk s H scope (compEnvC scope cl C X.env) fp) F ifs ft) (hi1 : ∀ (s : Shared) (H : Hp) (C : Addr) (cl : List (Str × Addr)) (fp : List Addr), PDI (X.blk s H scope (compEnvC scope cl C X.env) fp) F tg1 iter1 fi1)
    (hg1 : ∀ (s : Shared) (H : Hp) (C : Addr) (cl : List (Str × Addr)) (fp : List Addr), PGN (X.blk s H scope (compEnvC scope cl C X.env) fp) F tg1 ts1 g1) (ht1 : ∀ (s : Shared) (H : Hp) (C : Addr) (cl : List (Str × Addr)) (fp : List Addr), PDTs (X.blk s H scope (compEnvC scope cl C X.env) fp) F ifs1 ft1) (he : ∀ (s : Shared) (H : Hp) (C : Addr) (cl : List (Str × Addr)) (fp : List Addr), PD (X.blk s H scope (compEnvC scope cl C X.env) fp) F elt fe)
    (hsw : swapsWith (.ListComp elt [⟨tg, iter, ifs, 0⟩, ⟨tg1, iter1, ifs1, 0⟩] scope pos) (some (.Name y py)) spos.line X.env = pure true) (hy : X.N[i]? = some y := by rfl) (hyl : X.env.scope.names.lookup y = some .local := by rfl)
    (hts : ∀ i ∈ ts, i ∈ own.map (·.2) := by decide) (hts1 : ∀ i ∈ ts1, i ∈ vs1 := by decide) (hv : ∀ i ∈ vs1, i ∈ own.map (·.2) := by decide) (hc : X.calm = true := by rfl) (hs : ∀ x, foldedSetIterable iter X.env x = pure x := by intro _; rfl) (hs1 : ∀ env x, foldedSetIterable iter1 env x = pure x := by intro _ _; rfl) :
    PDS X F (.Assign [.Name y py] (.ListComp elt [⟨tg, iter, ifs, 0⟩, ⟨tg1, iter1, ifs1, 0⟩] scope pos) spos) (sSetN i (nLc2 fi g ft fi1 g1 ft1 fe (own.map (·.2)) vs1)) :=
  ps_imp (ps_setLc2 (wi1 := tDI X.K F fi1) (g := tGN X.K F ts g) (tt := tDT X.K F ft) (g1 := tGN X.K F ts1 g1) (tt1 := tDT X.K F ft1) (te := tD X.K F fe) hc hN hy hyl hsw hi ok hv hg ht hi1 hg1 ht1 he hs hs1) fun D σ H h => by
    obtain ⟨Z, env, fl, r, e, q⟩ := h
    obtain ⟨⟨d, e1⟩, h1, h⟩ := mpd e
    subst h
    exact lc_read2 hts hts1 hv ⟨Z, env, d, e1, r, h1, fun p xs Z' H' r' s' h0 hz hp dd => q _ Z' H' (r'.storeN i (s'.fre (fre_new r h0)) (fun z => (r.pp p z).1 h0) (r.gh.free h0) hz hp dd) s'.z⟩
end
end DL
end L2

set_option Elab.async false
set_option maxRecDepth 100000
set_option maxHeartbeats 4000000
set_option autoImplicit false
namespace L2
namespace DL
open PySem PySem.Spec PyProof.Rows
variable [Lab]
/-! ### zip of two tuples -/
theorem walk_zipTT {K : PySem.W.Frag} {a b : Addr} {xs ys : List V} {n : Nat} (hn : n = min xs.length ys.length) : Walk (RZ.ItzT K a b) n (fun H => SqT K H a xs ∧ SqT K H b ys) (YPair (fun i => xs[i]?) (fun i => ys[i]?)) :=
  ⟨fun i _ hi q => ⟨xs, ys, xs[i]'(by omega), ys[i]'(by omega), q.1, q.2, List.getElem?_eq_getElem _, List.getElem?_eq_getElem _⟩, fun _ q => ⟨xs, ys, q.1, q.2, by omega⟩, fun i H v H' _ q h => by
    obtain ⟨T, x, y, h1, h2, h3, h4, h5⟩ := h
    exact ⟨T, x, y, h1, h2, h3, h4 xs q.1, h5 ys q.2⟩⟩
theorem wd_zipTT {K : PySem.W.Frag} {Z : Hp} {a b : Addr} {xs ys : List V} {ds es : List PyData} (ha : SqT K Z a xs) (hd : DDs K Z xs ds) (hb : SqT K Z b ys) (he : DDs K Z ys es) : WalkD K (RZ.ItzT K a b) Z (zipD ds es) := by
  have l1 := dds_len hd
  have l2 := dds_len he
  have lz : (zipD ds es).length = min xs.length ys.length := by unfold zipD; rw [List.length_zipWith]; omega
  refine ⟨_, _, walk_zipTT (K := K) (a := a) (b := b) (xs := xs) (ys := ys) lz, fun H s => ⟨same_sqT s ha, same_sqT s hb⟩, fun i H x H' Zc hi y s1 s2 => ?_⟩
  obtain ⟨T, u, v, rfl, nT, rfl, e1, e2⟩ := y
  obtain ⟨d, e3, e4⟩ := dds_get' hd e1
  obtain ⟨d', e5, e6⟩ := dds_get' he e2
  refine ⟨_, .tuple [d, d'], grow_new s2 nT _, ?_, new_tup s2 nT (.cons (DDm e4 s1) (.cons (DDm e6 s1) .nil))⟩
  unfold zipD
  rw [List.getElem?_zipWith, e3, e5]
def zipTT : List PyData → Option (List PyData)
  | [.tuple xs, .tuple ys] => some (zipD xs ys)
  | _ => none
theorem di_zipT {X : Cx} {F : Fm} {e e2 : Expr} {fa : DEnv → Option (List PyData × DEnv)} {p pos : Pos} {elts : List Expr} {kk : Nat} {tpos : Pos} (hm : X.mg "zip" = none) (ha : PDA X F [e, e2] fa) (hg : Gl X "zip" := by rfl) (hs : starEach [e, e2] X.env = (false, eval e X.env) :: starEach [e2] X.env := by rfl) (hpl : (backTo pos (starEach [e2] X.env)).any (·.1) = false := by rfl) :
    PDI X F (.Tuple elts kk tpos) (.Call (.Name "zip" p) [e, e2] [] pos) (iArg zipTT fa) := pi_imp (RZ.pi_zipA hg hm ha hs hpl) fun σ H Q h => by
  obtain ⟨Z, env, ds, env', r, e, q⟩ := h
  obtain ⟨⟨d, e1⟩, h1, h⟩ := bnd e
  obtain ⟨ds', h2, h⟩ := mpd h
  cases h
  match d, h1, h2 with
  | [.tuple js, .tuple ks], h1, h2 =>
    cases h2
    refine ⟨Z, env, _, e1, r, h1, fun vs Z1 H1 r1 s1 d1 => ?_⟩
    cases d1 with
    | cons d1 dr =>
      cases dr with
      | cons d2 dn =>
        cases dn
        cases d1 with
        | @tup a xs _ hr hd =>
          cases d2 with
          | @tup b ys _ hr2 hd2 => exact ⟨a, b, xs, ys, rfl, .inr ⟨same_sqT r1.zh hr, same_sqT r1.zh hr2, q _ Z1 H1 r1 s1 (wd_zipTT hr hd hr2 hd2)⟩⟩
end DL
end L2

set_option Elab.async false
set_option maxRecDepth 100000
set_option maxHeartbeats 4000000
set_option autoImplicit false
namespace L2
namespace DL
open PySem PySem.Spec PyProof.Rows
/-! ### xs[i] op= e, xs an owned list; t += t' of tuples -/
theorem no_tuple_iadd : typeLookup (.type "tuple") (dunderI "add") = pure none := by rw [typeLookup_type, builtinLookup_eq_fast]; kernel_rfl
theorem icat_tup {prog : Program} {w : World} {A : Around} {E : Value → Shared → Prop} {s : Shared} {t b : Addr} {vs ws : List Value} {Q : Value → Shared → Prop} (ht : IsTup s.heap t vs.toArray) (hb : IsTup s.heap b ws.toArray) (hv : vs ≠ []) (hw : ws ≠ [])
    (h2 : Q (.ref s.heap.objs.size) { s with heap := s.heap.push { cls := .type "tuple", data := .seq (vs ++ ws).toArray } }) (hsz : vs.length + ws.length ≤ sizeLine) :
    wpAny (model prog w) A (inplaceOp .Add (.ref t) (.ref b)) Q E s := by
  obtain ⟨⟨cls, dd, data, sl⟩, ho, hc, n, hd⟩ := id ht
  obtain ⟨⟨cls2, dd2, data2, sl2⟩, ho2, hc2, n2, hd2⟩ := id hb
  simp only at hc hd hc2 hd2
  subst hc hd hc2 hd2
  have e : vs.toArray ++ ws.toArray = (vs ++ ws).toArray := by simp
  refine wpAny_inplaceOp_concat (id := "tuple.__add__") ⟨_, ho, rfl⟩ ⟨_, ho2, rfl⟩ no_tuple_iadd noFill_tuple_add seq_tuple_add (call_meets PySem.F.slot_tuple_add ⟨_, ho, rfl⟩ PySem.F.entry_tuple_add (PySem.F.args_tuple_add_2 _ _)
    (PyProof.Rows.tuple_addW2 t b vs.toArray ws.toArray n n2 dd dd2 sl sl2 (by simpa using hv) (by simpa using hw) (by rw [List.size_toArray, List.size_toArray]; exact hsz)) ⟨ho, ho2, ?_⟩)
  rw [e]
  exact h2
variable [Lab]
section
variable {X : Cx} {F : Fm} {e : Expr} {y : Str} {pos pn tpos : Pos} {f fe : DEnv → Option (PyData × DEnv)}
def iaddT : PyData → PyData → Option PyData
  | .tuple (a :: as), .tuple (b :: bs) => if (a :: as).length + (b :: bs).length ≤ lim then some (.tuple (a :: as ++ b :: bs)) else none
  | _, _ => none
theorem od_iaddT : OpD X (inplaceOp .Add) iaddT := by
  intro pins s σ H x y v u Q I rx ry h
  obtain ⟨Z, a, b, d, sz, ha, hb, e, q⟩ := h
  have hlim : lim = 100000 := rfl
  have hsl := sizeLine_eq
  match a, b, ha, hb, e with
  | .tuple (a0 :: as), .tuple (b0 :: bs), ha, hb, e =>
    change (if (a0 :: as).length + (b0 :: bs).length ≤ lim then some (PyData.tuple (a0 :: as ++ b0 :: bs)) else none) = some d at e
    split at e
    case isFalse => cases e
    cases e
    cases ha with
    | @tup p xs _ hx dx =>
      cases hb with
      | @tup p' ys _ hy dy =>
        have l1 := dds_len dx
        have l2 := dds_len dy
        cases rx
        cases ry
        obtain ⟨its, r1, p1, _⟩ := I.tuple (same_sqT sz hx)
        obtain ⟨its2, r2, p2, _⟩ := I.tuple (same_sqT sz hy)
        have k1 := r1.length
        have k2 := r2.length
        have hz : xs.length + ys.length ≤ sizeLine := by omega
        have fr := I.hok.fresh (Nat.le_refl s.heap.objs.size)
        refine icat_tup p1 p2 (fun z => by rw [z] at k1; rw [k1] at l1; cases l1) (fun z => by rw [z] at k2; rw [k2] at l2; cases l2) ⟨.ref s.heap.objs.size, _, I.laid (t' := s.toks) (o := .tup (xs ++ ys)) (fun b ob q => Heap.get?_push_of_some _ q) (Nat.le_refl _) ⟨by rw [List.length_append]; exact hz, _, r1.append r2, IsTup.new _ _⟩, rfl, ?_⟩ (by omega)
        exact q _ _ _ (grow_new sz fr _) (new_tup sz fr (dds_app dx dy))
def rGetL : V → V → Hp → VK → Prop := fun o i H Q => ∃ p xs k j x, o = .ref p ∧ i = .int k ∧ H p = some (.lst xs) ∧ ixN xs.length k = some j ∧ xs[j]? = some x ∧ Q x H
theorem get_own : PGet X rGetL := by
  intro pins s σ H o i ov iv Q I ro ri h
  obtain ⟨p, xs, k, j, x, rfl, rfl, hp, hj, hx, q⟩ := h
  cases ro
  obtain ⟨t, rfl⟩ := ri
  obtain ⟨its, n, r, ho, hz⟩ := I.lst hp
  obtain ⟨h1, h2, h3, h4⟩ := ixN_seq hj
  obtain ⟨w, ew, rw'⟩ := r.get hx
  have hl := r.length
  have hn := line63
  have il : s.heap.IsList p its.toArray := ⟨_, ho, rfl, n, rfl⟩
  have fin : EP X pins σ Q w s := ⟨x, H, I, rw', q⟩
  by_cases h0 : 0 ≤ k
  · have hk : k.toNat = j := by
      rw [seqIndex_of h0 h4] at h1
      exact Option.some.inj h1
    exact wpAny_getItem_list il h0 (by omega) (by rw [hk]; simpa using ew) fin
  · have hk : (k + (its.toArray.size : Int)).toNat = j := by
      rw [seqIndex_neg (by omega) h3] at h1
      rw [List.size_toArray, ← hl]
      exact Option.some.inj h1
    exact wpAny_getItem_list_neg il (by omega) (by rw [List.size_toArray] <;> omega) (by omega) (by rw [hk]; simpa using ew) fin
def sAugIx (j : Nat) (f : DEnv → Option (PyData × DEnv)) (o : PyData → PyData → Option PyData) (fe : DEnv → Option (PyData × DEnv)) (env : DEnv) : Option DFlow :=
  (rdO j env).bind fun _ => (f env).bind fun x => (rdO j x.2).bind fun es => match x.1 with
    | .int i => (ixN es.length i).bind fun k => (es[k]?).bind fun d => (fe x.2).bind fun y => (o d y.1).bind fun d' => (rdO j y.2).bind fun es' => if es'.length = es.length then some (.nx (wrO j (es'.set k d') y.2)) else none
    | _ => none
theorem ds_augIx (j : Nat) {i : Expr} {op : Operator} {o : PyData → PyData → Option PyData} (ho : OpD X (inplaceOp op) o) (hi : PD X F i f) (he : PD X F e fe) (hN : X.N[j]? = some y := by rfl) (hv : Vis X.env.scope y := by first | exact Or.inl rfl | exact Or.inr (Or.inl rfl) | exact Or.inr (Or.inr rfl)) (hd : (y == ("__debug__" : Str)) = false := by decide)
    (hcd : (y == ("__classdict__" : Str)) = false := by decide) (ha : ∀ ov iv new, augStore i ov iv new = (do holding [new, ov, iv] (setItem ov iv new); release [new, ov, iv] []; pure .next) := by intros; rfl) :
    PDS X F (.AugAssign (.Subscript (.Name y pn) i tpos) op e pos) (sAugIx j f o fe) :=
  ps_imp (ps_augS (pe_var hN hv hd hcd) hi get_own he ho set_list ha) fun D σ H h => by
    obtain ⟨Z, env, fl, r, e, q⟩ := h
    obtain ⟨z0, h0, e⟩ := bnd e
    obtain ⟨⟨u, e1⟩, h1, h⟩ := bnd e
    obtain ⟨zs, h2, h⟩ := bnd h
    cases u with
    | int i =>
      obtain ⟨k, h3, h⟩ := bnd h
      obtain ⟨d, h4, h⟩ := bnd h
      obtain ⟨⟨y, e2⟩, h5, h⟩ := bnd h
      obtain ⟨d', h6, h⟩ := bnd h
      obtain ⟨zs', h7, h⟩ := bnd h
      dsimp only at h
      split at h
      case isFalse => cases h
      rename_i hlen
      cases h
      obtain ⟨p, xs, sj, _, hp0, _, _⟩ := r.poke h0
      refine ⟨.ref p, sj, Z, env, .int i, e1, r, h1, fun w Z1 H1 r1 s1 d1 => ?_⟩
      obtain ⟨p', xs', sj', zp, hp, dp, _⟩ := r1.poke h2
      rw [sj] at sj'
      cases sj'
      cases d1.int_inv
      have hxk : ∃ x, xs'[k]? = some x ∧ DD X.K Z1 x d := by
        have hk : k < xs'.length := by
          rw [dds_len dp]; exact (List.getElem?_eq_some_iff.mp h4).1
        obtain ⟨d2, a, b⟩ := dds_get' dp (List.getElem?_eq_getElem hk)
        rw [h4] at a
        cases a
        exact ⟨_, List.getElem?_eq_getElem hk, b⟩
      obtain ⟨x, hx, dx⟩ := hxk
      refine ⟨p, xs', i, k, x, rfl, rfl, hp, by rw [dds_len dp]; exact h3, hx, Z1, e1, y, e2, r1, h5, fun yv Z2 H2 r2 s2 dy => ⟨Z2, d, y, d', r2.zh, DDm dx s2.z, dy, h6, fun zv Z3 H3 gr dz => ?_⟩⟩
      obtain ⟨p2, xs2, sj2, zp2, hp2, dp2, fin⟩ := (r2.grow gr).poke h7
      rw [sj] at sj2
      cases sj2
      refine ⟨p, xs2, i, k, rfl, rfl, hp2, by rw [dds_len dp2, hlen]; exact h3, ?_⟩
      obtain ⟨b1, b2⟩ := fin Z3 (upd H3 p (.lst (xs2.set k zv))) _ (zs'.set k d') (pok_upd (r2.grow gr).zh zp2 hp2 _) upd_same (dds_set dz k dp2)
      exact q σ Z3 _ b1 (((s1.trans s2).z.trans gr.z).trans b2.z)
    | _ => cases h
end
end DL
end L2

set_option Elab.async false
set_option maxRecDepth 100000
set_option maxHeartbeats 4000000
set_option autoImplicit false
namespace L2
namespace DL
open PySem PySem.Spec PyProof.Rows
variable [Lab]
/-! ### a walk over reversed(t), t a tuple -/
theorem walk_revT {K : PySem.W.Frag} {a : Addr} {xs : List V} : Walk (RT.ItvT K a xs.length) xs.length (fun H => SqT K H a xs) (fun i H x H' => H' = H ∧ xs[xs.length - 1 - i]? = some x) :=
  ⟨fun i _ hi q => ⟨hi, xs, xs[xs.length - 1 - i]'(by omega), q, List.getElem?_eq_getElem _⟩, fun _ _ => Nat.le_refl _, fun _ _ _ _ _ q h => ⟨h.1, h.2 xs q⟩⟩
theorem wd_revT {K : PySem.W.Frag} {Z : Hp} {a : Addr} {xs : List V} {ds : List PyData} (h : SqT K Z a xs) (hd : DDs K Z xs ds) : WalkD K (RT.ItvT K a xs.length) Z ds.reverse := by
  have l := dds_len hd
  have lz : ds.reverse.length = xs.length := by rw [List.length_reverse]; omega
  refine ⟨fun H => SqT K H a xs, fun i H x H' => H' = H ∧ xs[xs.length - 1 - i]? = some x, by rw [lz]; exact walk_revT, fun H s => same_sqT s h, fun i H x H' Zc hi y s1 s2 => ?_⟩
  obtain ⟨rfl, y⟩ := y
  obtain ⟨d, e1, e2⟩ := dds_get' hd y
  refine ⟨Zc, d, Grow.refl s2, ?_, DDm e2 s1⟩
  rw [List.length_reverse] at hi
  rw [List.getElem?_reverse hi, ← e1, l]
def iRevT (f : DEnv → Option (PyData × DEnv)) (env : DEnv) : Option (List PyData × DEnv) := (f env).bind fun x => match x.1 with
  | .tuple ds => some (ds.reverse, x.2)
  | _ => none
theorem di_revT {X : Cx} {F : Fm} {tg e : Expr} {f : DEnv → Option (PyData × DEnv)} {p pos : Pos} (hm : X.mg "reversed" = none) (ha : PD X F e f) (hg : Gl X "reversed" := by rfl) (hs : starEach [e] X.env = (false, eval e X.env) :: starEach [] X.env := by rfl) :
    PDI X F tg (.Call (.Name "reversed" p) [e] [] pos) (iRevT f) := pi_imp (RT.pi_revA hg hm ha hs) fun σ H Q h => by
  obtain ⟨Z, env, d, env', r, e, q⟩ := h
  obtain ⟨⟨i, e1⟩, h1, e⟩ := bnd e
  match i, h1, e with
  | .tuple js, h1, e =>
    cases e
    refine ⟨Z, env, _, e1, r, h1, fun v Z1 H1 r1 s1 d1 => ?_⟩
    cases d1 with
    | @tup a xs _ hr hd => exact ⟨a, xs, rfl, .inr ⟨same_sqT r1.zh hr, q _ Z1 H1 r1 s1 (wd_revT hr hd)⟩⟩
end DL
end L2

set_option Elab.async false
set_option maxRecDepth 100000
set_option maxHeartbeats 4000000
set_option autoImplicit false
namespace L2
namespace DL
open PySem PySem.Spec PyProof.Rows PySem.Calls
variable [Lab]
/-! ### any(l), l a list of ints -/
section
variable {X : Cx}
omit [Lab] in
theorem ints_at : ∀ {ns : List Int} {us : List Value}, Vals (ns.map V.int) us → ∀ (i : Nat) (v : Value), us[i]? = some v → ∃ t, v = Value.int (ns.getD i 0) t ∧ i < ns.length
  | [], us, h, i, v, e => by
    rw [List.map_nil] at h
    cases h
    cases i <;> cases e
  | n :: ns, us, h, i, v, e => by
    rw [List.map_cons] at h
    cases h with
    | cons r t =>
      cases i with
      | zero =>
        cases e
        obtain ⟨t, rfl⟩ := r
        exact ⟨t, rfl, Nat.succ_pos _⟩
      | succ i =>
        obtain ⟨t, e1, e2⟩ := ints_at t i v e
        exact ⟨t, e1, Nat.succ_lt_succ e2⟩
omit [Lab] in
theorem truth_ints {prog : Program} {w : World} {A : Around} {ns : List Int} {its : List Value} (e : Vals (ns.map V.int) its) :
    TruthOf prog w A (fun i v => its.toArray[i]? = some v) (fun i => ns.getD i 0 != 0) := fun i v s Q E hv hq => by
  have hv' : its[i]? = some v := by simpa using hv
  obtain ⟨t, rfl, _⟩ := ints_at e i v hv'
  exact P.truthy_int hq
omit [Lab] in
theorem any_rangeI : ∀ ns : List Int, (List.range ns.length).any (fun i => ns.getD i 0 != 0) = ns.any fun i => i != 0
  | [] => rfl
  | b :: bs => by
    rw [List.length_cons, List.range_succ_eq_map, List.any_cons, List.any_map, List.any_cons, ← any_rangeI bs]
    rfl
def anyI : List PyData → Option PyData
  | [.list ds] => (intsD ds).map fun ns => .bool (ns.any fun i => i != 0)
  | _ => none
theorem cd_anyI (hc : X.calm = true) : CallD X (.builtin "any") anyI := by
  intro pins s σ H xs us Q I r h
  obtain ⟨Z, ds, d, sz, hd, e, q⟩ := h
  match ds, hd, e with
  | [.list ds], hd, e =>
    obtain ⟨ns, e1, rfl⟩ := mpd e
    obtain ⟨v, rfl, h1⟩ := dds1 hd
    cases h1 with
    | @lst a ys _ hr ha =>
      have := ints_of ha e1
      subst this
      obtain ⟨its, rv, hl, _⟩ := I.list (same_ls sz hr).sq
      rw [Vals.ref1 r]
      have hlen := rv.length
      rw [List.length_map] at hlen
      refine call_any_walk (iter_any hl.isList fun s₂ e2 st hne => ?_)
      subst e2
      refine ⟨_, _, _, _, _, _, _, rfl, Walks.list (A := X.A.in1) (I.ok.hd hc) _ a hne its.toArray, st, truth_ints rv, fun h' tk hk => ?_⟩
      refine ⟨.bl _, H, I.kept fun b o eo => hk b o (fun hmem => ?_) (Heap.get?_push_of_some _ eo), ?_, q _ Z H (Grow.refl sz) (.bl _)⟩
      · rcases List.mem_cons.mp hmem with e1 | hmem
        · exact absurd (e1 ▸ Heap.lt_size eo) (Nat.lt_irrefl _)
        · cases hmem
      · show Value.bool _ = Value.bool _
        rw [← any_rangeI, List.size_toArray, hlen]
theorem any_mapI (ns : List Int) : anyI [.list (ns.map PyData.int)] = some (.bool (ns.any fun i => i != 0)) := by
  have : ∀ ns : List Int, intsD (ns.map PyData.int) = some ns := fun ns => by
    induction ns with
    | nil => rfl
    | cons n ns ih =>
      show (intsD (ns.map PyData.int)).map (n :: ·) = _
      rw [ih]; rfl
  show (intsD (ns.map PyData.int)).map _ = _
  rw [this]; rfl
end
end DL
end L2

set_option Elab.async false
set_option maxRecDepth 100000
set_option maxHeartbeats 4000000
set_option autoImplicit false
namespace L2
namespace DL
open PySem PySem.Spec PyProof.Rows
/-! ### keys that agree with a sequence of places -/
def stepsL (v : Nat → Int) : List Nat → List Int
  | a :: b :: r => (v b - v a) :: stepsL v (b :: r)
  | _ => []
def stepsG (v : Nat → Int) (gs : List (List Nat)) : List Int := gs.flatMap (stepsL v)
def dirL (l : List Int) : Option Bool := if l.all (fun x => decide (0 ≤ x)) then some true else if l.all (fun x => decide (x ≤ 0)) then some false else none
def fitC (t : Tab) (gs : List (List Nat)) (c : Nat) : Option KB := match dirL (stepsG (fun i => cellT t i c) gs) with
  | some d => if (stepsG (fun i => cellT t i c) gs).any (fun x => x != 0) then some ((c : Int), d) else none
  | none => none
def fitK (t : Tab) (m : Nat) (gs : List (List Nat)) : Option KB := (List.range m).findSome? (fitC t gs)
def splitGo (v : Nat → Int) : List Nat → Nat → List Nat → List (List Nat)
  | cur, _, [] => [cur]
  | cur, a, b :: r => if v a = v b then splitGo v (cur ++ [b]) b r else cur :: splitGo v [b] b r
def splitL (v : Nat → Int) : List Nat → List (List Nat)
  | [] => [[]]
  | a :: r => splitGo v [a] a r
theorem stepsL_iff {P : Int → Prop} {R : Int → Int → Prop} (hP : ∀ x y, P (y - x) ↔ R x y) (tr : ∀ x y z, R x y → R y z → R x z) (v : Nat → Int) : ∀ g : List Nat, (∀ x ∈ stepsL v g, P x) ↔ g.Pairwise fun i j => R (v i) (v j)
  | [] => ⟨fun _ => .nil, fun _ _ h => nomatch h⟩
  | [a] => ⟨fun _ => List.pairwise_singleton _ _, fun _ _ h => nomatch h⟩
  | a :: b :: r => by
    have ih := stepsL_iff hP tr v (b :: r)
    rw [stepsL, List.pairwise_cons]
    constructor
    · intro h
      have hb := ih.mp fun x hx => h x (List.mem_cons_of_mem _ hx)
      have hab : R (v a) (v b) := (hP _ _).mp (h _ List.mem_cons_self)
      refine ⟨fun j hj => ?_, hb⟩
      rcases List.mem_cons.mp hj with rfl | hj
      · exact hab
      · exact tr _ _ _ hab ((List.pairwise_cons.mp hb).1 j hj)
    · rintro ⟨h1, h2⟩ x hx
      rcases List.mem_cons.mp hx with rfl | hx
      · exact (hP _ _).mpr (h1 b List.mem_cons_self)
      · exact ih.mpr h2 x hx
theorem steps_le (v : Nat → Int) (gs : List (List Nat)) : (∀ x ∈ stepsG v gs, 0 ≤ x) ↔ ∀ g ∈ gs, g.Pairwise fun i j => v i ≤ v j := by
  unfold stepsG
  constructor
  · intro h g hg
    exact (stepsL_iff (P := fun x => 0 ≤ x) (R := fun x y => x ≤ y) (fun x y => by omega) (fun x y z => by omega) v g).mp fun x hx => h x (List.mem_flatMap.mpr ⟨g, hg, hx⟩)
  · intro h x hx
    obtain ⟨g, hg, hx⟩ := List.mem_flatMap.mp hx
    exact (stepsL_iff (P := fun x => 0 ≤ x) (R := fun x y => x ≤ y) (fun x y => by omega) (fun x y z => by omega) v g).mpr (h g hg) x hx
theorem steps_ge (v : Nat → Int) (gs : List (List Nat)) : (∀ x ∈ stepsG v gs, x ≤ 0) ↔ ∀ g ∈ gs, g.Pairwise fun i j => v j ≤ v i := by
  unfold stepsG
  constructor
  · intro h g hg
    exact (stepsL_iff (P := fun x => x ≤ 0) (R := fun x y => y ≤ x) (fun x y => by omega) (fun x y z => by omega) v g).mp fun x hx => h x (List.mem_flatMap.mpr ⟨g, hg, hx⟩)
  · intro h x hx
    obtain ⟨g, hg, hx⟩ := List.mem_flatMap.mp hx
    exact (stepsL_iff (P := fun x => x ≤ 0) (R := fun x y => y ≤ x) (fun x y => by omega) (fun x y z => by omega) v g).mpr (h g hg) x hx
theorem steps_eq (v : Nat → Int) (gs : List (List Nat)) : (∀ x ∈ stepsG v gs, x = 0) ↔ ∀ g ∈ gs, g.Pairwise fun i j => v i = v j := by
  unfold stepsG
  constructor
  · intro h g hg
    exact (stepsL_iff (P := fun x => x = 0) (R := fun x y => x = y) (fun x y => by omega) (fun x y z => by omega) v g).mp fun x hx => h x (List.mem_flatMap.mpr ⟨g, hg, hx⟩)
  · intro h x hx
    obtain ⟨g, hg, hx⟩ := List.mem_flatMap.mp hx
    exact (stepsL_iff (P := fun x => x = 0) (R := fun x y => x = y) (fun x y => by omega) (fun x y z => by omega) v g).mpr (h g hg) x hx
theorem sg_up (x : Int) : sg (dS true) x = x := by unfold sg dS; simp
theorem sg_dn (x : Int) : sg (dS false) x = -x := by show (if ("down" : Str) = "up" then x else -x) = -x; rw [if_neg (by decide)]
theorem dirL_sg {v : Nat → Int} {gs : List (List Nat)} {d : Bool} (h : dirL (stepsG v gs) = some d) : ∀ g ∈ gs, g.Pairwise fun i j => sg (dS d) (v i) ≤ sg (dS d) (v j) := by
  unfold dirL at h
  by_cases h1 : (stepsG v gs).all (fun x => decide (0 ≤ x)) = true
  · rw [if_pos h1] at h
    cases h
    have := (steps_le v gs).mp (by simpa using h1)
    intro g hg
    exact (this g hg).imp fun {i j} z => by rw [sg_up, sg_up]; exact z
  · rw [if_neg h1] at h
    by_cases h2 : (stepsG v gs).all (fun x => decide (x ≤ 0)) = true
    · rw [if_pos h2] at h
      cases h
      have := (steps_ge v gs).mp (by simpa using h2)
      intro g hg
      exact (this g hg).imp fun {i j} z => by rw [sg_dn, sg_dn]; omega
    · rw [if_neg h2] at h
      cases h
theorem dirL_of {v : Nat → Int} {gs : List (List Nat)} (d : Bool) (h : ∀ g ∈ gs, g.Pairwise fun i j => sg (dS d) (v i) ≤ sg (dS d) (v j)) : ∃ d', dirL (stepsG v gs) = some d' := by
  unfold dirL
  cases d with
  | true =>
    have : ∀ x ∈ stepsG v gs, 0 ≤ x := (steps_le v gs).mpr fun g hg => (h g hg).imp fun {i j} z => by rw [sg_up, sg_up] at z; exact z
    exact ⟨true, if_pos (by simpa using this)⟩
  | false =>
    have : ∀ x ∈ stepsG v gs, x ≤ 0 := (steps_ge v gs).mpr fun g hg => (h g hg).imp fun {i j} z => by rw [sg_dn, sg_dn] at z; omega
    by_cases h1 : (stepsG v gs).all (fun x => decide (0 ≤ x)) = true
    · exact ⟨true, if_pos h1⟩
    · exact ⟨false, by rw [if_neg h1, if_pos (by simpa using this)]⟩
theorem fitC_some {t : Tab} {gs : List (List Nat)} {c : Nat} {k : KB} (h : fitC t gs c = some k) : k.1 = (c : Int) ∧ dirL (stepsG (fun i => cellT t i c) gs) = some k.2 ∧ ¬ ∀ x ∈ stepsG (fun i => cellT t i c) gs, x = 0 := by
  unfold fitC at h
  split at h
  · rename_i d hd
    by_cases z : (stepsG (fun i => cellT t i c) gs).any (fun x => x != 0) = true
    · rw [if_pos z] at h
      cases h
      refine ⟨rfl, hd, fun hz => ?_⟩
      obtain ⟨x, hx, hn⟩ := List.any_eq_true.mp z
      rw [hz x hx] at hn
      exact absurd hn (by decide)
    · rw [if_neg z] at h; cases h
  · cases h
theorem fitC_none {t : Tab} {gs : List (List Nat)} {c : Nat} (h : fitC t gs c = none) (d : Bool) (hd : ∀ g ∈ gs, g.Pairwise fun i j => sg (dS d) (cellT t i c) ≤ sg (dS d) (cellT t j c)) : ∀ g ∈ gs, g.Pairwise fun i j => cellT t i c = cellT t j c := by
  obtain ⟨d', e⟩ := dirL_of (v := fun i => cellT t i c) d hd
  unfold fitC at h
  rw [e] at h
  dsimp only at h
  by_cases z : (stepsG (fun i => cellT t i c) gs).any (fun x => x != 0) = true
  · rw [if_pos z] at h; cases h
  · refine (steps_eq (fun i => cellT t i c) gs).mp fun x hx => ?_
    rcases Decidable.em (x = 0) with z0 | z0
    · exact z0
    · exact absurd (List.any_eq_true.mpr ⟨x, hx, by simpa using z0⟩) z
/-! ### groups parted -/
theorem splitGo_flat (v : Nat → Int) : ∀ (r cur : List Nat) (a : Nat), (splitGo v cur a r).flatten = cur ++ r
  | [], cur, a => by simp [splitGo]
  | b :: r, cur, a => by
    rw [splitGo]
    by_cases h : v a = v b
    · rw [if_pos h, splitGo_flat v r]; simp
    · rw [if_neg h, List.flatten_cons, splitGo_flat v r]; simp
theorem splitL_flat (v : Nat → Int) : ∀ g : List Nat, (splitL v g).flatten = g
  | [] => rfl
  | a :: r => by rw [splitL, splitGo_flat]; rfl
theorem splitGo_ne (v : Nat → Int) : ∀ (r cur : List Nat) (a : Nat), cur ≠ [] → ∀ g ∈ splitGo v cur a r, g ≠ []
  | [], cur, a, hc, g, hg => by rw [splitGo, List.mem_singleton] at hg; rw [hg]; exact hc
  | b :: r, cur, a, hc, g, hg => by
    rw [splitGo] at hg
    by_cases h : v a = v b
    · rw [if_pos h] at hg; exact splitGo_ne v r _ _ (by simp) g hg
    · rw [if_neg h] at hg
      rcases List.mem_cons.mp hg with rfl | hg
      · exact hc
      · exact splitGo_ne v r _ _ (by simp) g hg
theorem splitGo_lv (v : Nat → Int) : ∀ (r cur : List Nat) (a : Nat), (∀ i ∈ cur, v i = v a) → ∀ g ∈ splitGo v cur a r, ∀ i ∈ g, ∀ j ∈ g, v i = v j
  | [], cur, a, hc, g, hg, i, hi, j, hj => by rw [splitGo, List.mem_singleton] at hg; subst hg; rw [hc i hi, hc j hj]
  | b :: r, cur, a, hc, g, hg, i, hi, j, hj => by
    rw [splitGo] at hg
    by_cases h : v a = v b
    · rw [if_pos h] at hg
      refine splitGo_lv v r _ _ (fun x hx => ?_) g hg i hi j hj
      rcases List.mem_append.mp hx with hx | hx
      · rw [hc x hx, h]
      · rw [List.mem_singleton.mp hx]
    · rw [if_neg h] at hg
      rcases List.mem_cons.mp hg with rfl | hg
      · rw [hc i hi, hc j hj]
      · exact splitGo_lv v r _ _ (fun x hx => by rw [List.mem_singleton.mp hx]) g hg i hi j hj
theorem splitGo_mem (v : Nat → Int) {r cur : List Nat} {a : Nat} {g : List Nat} (hg : g ∈ splitGo v cur a r) {i : Nat} (hi : i ∈ g) : i ∈ cur ∨ i ∈ r := by
  have : i ∈ (splitGo v cur a r).flatten := List.mem_flatten.mpr ⟨g, hg, hi⟩
  rw [splitGo_flat] at this
  exact List.mem_append.mp this
theorem splitGo_pw (v u : Nat → Int) (huv : ∀ i j, u i = u j → v i = v j) : ∀ (r cur : List Nat) (a : Nat), (∀ i ∈ cur, v i = v a) → (∀ i j, v i = v j → u i = u j) → (a :: r).Pairwise (fun i j => u i ≤ u j) → (splitGo v cur a r).Pairwise fun g h => ∀ i ∈ g, ∀ j ∈ h, u i < u j
  | [], cur, a, _, _, _ => List.pairwise_singleton _ _
  | b :: r, cur, a, hc, hvu, hp => by
    rw [splitGo]
    have hp2 := (List.pairwise_cons.mp hp).2
    by_cases h : v a = v b
    · rw [if_pos h]
      refine splitGo_pw v u huv r _ _ (fun x hx => ?_) hvu hp2
      rcases List.mem_append.mp hx with hx | hx
      · rw [hc x hx, h]
      · rw [List.mem_singleton.mp hx]
    · rw [if_neg h, List.pairwise_cons]
      refine ⟨fun g hg i hi j hj => ?_, splitGo_pw v u huv r _ _ (fun x hx => by rw [List.mem_singleton.mp hx]) hvu hp2⟩
      have h1 : u i = u a := hvu _ _ (hc i hi)
      have h2 : u a < u b := by
        have h3 := (List.pairwise_cons.mp hp).1 b List.mem_cons_self
        rcases Int.lt_or_eq_of_le h3 with z | z
        · exact z
        · exact absurd (huv _ _ z) h
      have h4 : u b ≤ u j := by
        rcases splitGo_mem v hg hj with z | z
        · rw [List.mem_singleton.mp z]; omega
        · exact (List.pairwise_cons.mp hp2).1 j z
      omega
/-! ### the keys found -/
abbrev kvK (t : Tab) (ks : List KB) (i : Nat) : List Int := kvs t (ks.map toKy) i
theorem kvK_app (t : Tab) (ks : List KB) (k : KB) (i : Nat) : kvK t (ks ++ [k]) i = kvK t ks i ++ [sg (dS k.2) (cellT t i k.1)] := by
  unfold kvK kvs
  rw [List.map_append, List.map_append]
  rfl
structure Along (t : Tab) (m : Nat) (ps : List Nat) (ks : List KB) (gs : List (List Nat)) : Prop where
  fl : gs.flatten = ps
  ne : ∀ g ∈ gs, g ≠ []
  nd : (ks.map (·.1)).Nodup
  rg : ∀ k ∈ ks, 0 ≤ k.1 ∧ k.1 < (m : Int)
  lv : ∀ g ∈ gs, g.Pairwise fun i j => kvK t ks i = kvK t ks j
  pw : gs.Pairwise fun g h => ∀ i ∈ g, ∀ j ∈ h, kvK t ks i < kvK t ks j
theorem along0 (t : Tab) (m : Nat) {ps : List Nat} (h : ps ≠ []) : Along t m ps [] [ps] := by
  refine ⟨by simp, fun g hg => by rw [List.mem_singleton.mp hg]; exact h, List.nodup_nil, fun _ h => (nomatch h), fun g _ => ?_, List.pairwise_singleton _ _⟩
  exact List.pairwise_of_forall fun _ _ => rfl
theorem kvK_mem {t : Tab} {ks : List KB} {i j : Nat} (h : kvK t ks i = kvK t ks j) {k : KB} (hk : k ∈ ks) : cellT t i k.1 = cellT t j k.1 := by
  unfold kvK kvs at h
  rw [List.map_map, List.map_map] at h
  exact sg_inj (List.map_inj_left.mp h k hk)
theorem pw_all {α : Type} {R : α → α → Prop} (rf : ∀ a, R a a) (sy : ∀ a b, R a b → R b a) : ∀ {l : List α}, l.Pairwise R → ∀ i ∈ l, ∀ j ∈ l, R i j
  | [], _, _, h, _, _ => nomatch h
  | a :: l, h, i, hi, j, hj => by
    rw [List.pairwise_cons] at h
    rcases List.mem_cons.mp hi with ei | hi' <;> rcases List.mem_cons.mp hj with ej | hj'
    · rw [ei, ej]; exact rf _
    · rw [ei]; exact h.1 _ hj'
    · rw [ej]; exact sy _ _ (h.1 _ hi')
    · exact pw_all rf sy h.2 i hi' j hj'
theorem Along.step {t : Tab} {m : Nat} {ps : List Nat} {ks : List KB} {gs : List (List Nat)} (h : Along t m ps ks gs) {k : KB} (hk : fitK t m gs = some k) : Along t m ps (ks ++ [k]) (gs.flatMap (splitL fun i => cellT t i k.1)) := by
  obtain ⟨c, hc, hf⟩ := List.exists_of_findSome?_eq_some hk
  obtain ⟨e1, e2, e3⟩ := fitC_some hf
  have hm : c < m := List.mem_range.mp hc
  have mono := dirL_sg e2
  have fresh : k.1 ∉ ks.map (·.1) := fun z => by
    obtain ⟨k', hk', ek⟩ := List.mem_map.mp z
    refine e3 ((steps_eq (fun i => cellT t i c) gs).mpr fun g hg => (h.lv g hg).imp fun {i j} zz => ?_)
    have := kvK_mem zz hk'
    rw [ek, e1] at this
    exact this
  have inG : ∀ g ∈ gs, ∀ g' ∈ splitL (fun i => cellT t i k.1) g, ∀ i ∈ g', i ∈ g := fun g hg g' hg' i hi => by
    have : i ∈ (splitL (fun i => cellT t i k.1) g).flatten := List.mem_flatten.mpr ⟨g', hg', hi⟩
    rwa [splitL_flat] at this
  have lvA : ∀ g ∈ gs, ∀ i ∈ g, ∀ j ∈ g, kvK t ks i = kvK t ks j := fun g hg => pw_all (R := fun i j => kvK t ks i = kvK t ks j) (fun _ => rfl) (fun _ _ z => z.symm) (h.lv g hg)
  refine ⟨?_, fun g' hg' => ?_, ?_, fun x hx => ?_, fun g' hg' => ?_, ?_⟩
  · rw [← h.fl, List.flatMap_def, List.flatten_flatten, List.map_map]
    congr 1
    exact (List.map_congr_left fun g _ => splitL_flat _ g).trans (List.map_id _)
  · obtain ⟨g, hg, hg'⟩ := List.mem_flatMap.mp hg'
    cases g with
    | nil => exact absurd rfl (h.ne _ hg)
    | cons a r => exact splitGo_ne _ r [a] a (by simp) g' hg'
  · rw [List.map_append]
    refine List.nodup_append.mpr ⟨h.nd, by simp, fun a ha b hb => ?_⟩
    rw [show b = k.1 by simpa using hb]
    exact fun z => fresh (z ▸ ha)
  · rcases List.mem_append.mp hx with z | z
    · exact h.rg x z
    · rw [List.mem_singleton.mp z, e1]; omega
  · obtain ⟨g, hg, hg'⟩ := List.mem_flatMap.mp hg'
    have lvg : ∀ i ∈ g', ∀ j ∈ g', cellT t i k.1 = cellT t j k.1 := by
      cases g with
      | nil => exact absurd rfl (h.ne _ hg)
      | cons a r => exact splitGo_lv (fun i => cellT t i k.1) r [a] a (fun x hx => by rw [List.mem_singleton.mp hx]) g' hg'
    refine List.Pairwise.imp_of_mem (R := fun _ _ => True) (fun {i j} hi hj _ => ?_) (List.pairwise_of_forall fun _ _ => trivial)
    rw [kvK_app, kvK_app, lvA g hg i (inG g hg g' hg' i hi) j (inG g hg g' hg' j hj), lvg i hi j hj]
  · rw [List.pairwise_flatMap]
    refine ⟨fun g hg => ?_, ?_⟩
    · have mg := mono g hg
      have hs : (splitL (fun i => cellT t i k.1) g).Pairwise fun a b => ∀ i ∈ a, ∀ j ∈ b, sg (dS k.2) (cellT t i k.1) < sg (dS k.2) (cellT t j k.1) := by
        cases g with
        | nil => exact absurd rfl (h.ne _ hg)
        | cons a r =>
          refine splitGo_pw (fun i => cellT t i k.1) (fun i => sg (dS k.2) (cellT t i k.1)) (fun i j z => sg_inj z) r [a] a (fun x hx => by rw [List.mem_singleton.mp hx]) (fun i j z => by show sg _ _ = sg _ _; rw [show cellT t i k.1 = cellT t j k.1 from z]) ?_
          rw [e1]
          exact mg
      refine List.Pairwise.imp_of_mem (fun {a b} ha hb hab i hi j hj => ?_) hs
      rw [kvK_app, kvK_app, lex_snoc (by rw [kvs_len, kvs_len])]
      exact .inr ⟨lvA g hg i (inG g hg a ha i hi) j (inG g hg b hb j hj), hab i hi j hj⟩
    · refine List.Pairwise.imp_of_mem (fun {g g2} hg hg2 hgg a ha b hb i hi j hj => ?_) h.pw
      rw [kvK_app, kvK_app, lex_snoc (by rw [kvs_len, kvs_len])]
      exact .inl (hgg i (inG g hg a ha i hi) j (inG g2 hg2 b hb j hj))
theorem Along.len {t : Tab} {m : Nat} {ps : List Nat} {ks : List KB} {gs : List (List Nat)} (h : Along t m ps ks gs) : ks.length ≤ m := by
  have := nodup_le (ks.map (·.1)) ((List.range m).map fun i : Nat => (i : Int)) h.nd fun c hc => by
    obtain ⟨k, hk, rfl⟩ := List.mem_map.mp hc
    obtain ⟨a, b⟩ := h.rg k hk
    exact List.mem_map.mpr ⟨k.1.toNat, List.mem_range.mpr (by omega), by omega⟩
  rw [List.length_map, List.length_map, List.length_range] at this
  exact this
theorem Along.sub {t : Tab} {m : Nat} {ps : List Nat} {ks : List KB} {gs : List (List Nat)} (h : Along t m ps ks gs) {g : List Nat} (hg : g ∈ gs) : g.Sublist ps := by
  rw [← h.fl]; exact List.sublist_flatten_of_mem hg
/-- where an order has the sequence, the places that the keys leave level go one way -/
theorem along_end {t : Tab} {m : Nat} {gs : List (List Nat)} (hf : fitK t m gs = none) (s : Bool) : ∀ (l : List KB), (∀ k ∈ l, 0 ≤ k.1 ∧ k.1 < (m : Int)) → (∀ g ∈ gs, g.Pairwise fun i j => kvK t l i ++ [sg (dS s) (i : Int)] < kvK t l j ++ [sg (dS s) (j : Int)]) → ∃ d, dirL (stepsG (fun i => (i : Int)) gs) = some d
  | [], _, h => by
    refine dirL_of s fun g hg => (h g hg).imp fun {i j} z => ?_
    rcases lex_cons.mp (show [sg (dS s) (i : Int)] < [sg (dS s) (j : Int)] from z) with z | z
    · omega
    · exact absurd z.2 lex_nil
  | k :: l, hr, h => by
    have hk := hr k List.mem_cons_self
    obtain ⟨c, hc⟩ : ∃ c : Nat, k.1 = (c : Int) := ⟨k.1.toNat, by omega⟩
    have hcm : c < m := by omega
    have hcons : ∀ g ∈ gs, g.Pairwise fun i j => sg (dS k.2) (cellT t i k.1) < sg (dS k.2) (cellT t j k.1) ∨ (sg (dS k.2) (cellT t i k.1) = sg (dS k.2) (cellT t j k.1) ∧ kvK t l i ++ [sg (dS s) (i : Int)] < kvK t l j ++ [sg (dS s) (j : Int)]) := fun g hg => (h g hg).imp fun {i j} z => lex_cons.mp z
    have hn : fitC t gs c = none := List.findSome?_eq_none_iff.mp hf c (List.mem_range.mpr hcm)
    have hle : ∀ g ∈ gs, g.Pairwise fun i j => sg (dS k.2) (cellT t i c) ≤ sg (dS k.2) (cellT t j c) := fun g hg => (hcons g hg).imp fun {i j} z => by
      rw [hc] at z
      rcases z with z | z
      · omega
      · rw [z.1]; omega
    have heq := fitC_none hn k.2 hle
    refine along_end hf s l (fun x hx => hr x (List.mem_cons_of_mem _ hx)) fun g hg => ((hcons g hg).and (heq g hg)).imp fun {i j} z => ?_
    obtain ⟨z1, z2⟩ := z
    rw [hc, z2] at z1
    rcases z1 with z1 | z1
    · omega
    · exact z1.2
theorem Along.done {t : Tab} {m : Nat} {ps : List Nat} {ks : List KB} {gs : List (List Nat)} (h : Along t m ps ks gs) (nd : ps.Nodup) {d : Bool} (hd : dirL (stepsG (fun i => (i : Int)) gs) = some d) : ps.Pairwise fun i j => kvO t (ks, d) i < kvO t (ks, d) j := by
  have mono := dirL_sg hd
  rw [← h.fl, List.pairwise_flatten]
  refine ⟨fun g hg => ?_, h.pw.imp fun {g g2} z i hi j hj => ?_⟩
  · have ndg : g.Nodup := (h.sub hg).nodup nd
    refine (((h.lv g hg).and (mono g hg)).and ndg).imp fun {i j} z => ?_
    obtain ⟨⟨z1, z2⟩, z3⟩ := z
    show kvK t ks i ++ [sg (dS d) (i : Int)] < kvK t ks j ++ [sg (dS d) (j : Int)]
    rw [lex_snoc (by rw [kvs_len, kvs_len])]
    refine .inr ⟨z1, ?_⟩
    rcases Int.lt_or_eq_of_le z2 with w | w
    · exact w
    · exact absurd (by have := sg_inj w; omega) z3
  · show kvK t ks i ++ [sg (dS d) (i : Int)] < kvK t ks j ++ [sg (dS d) (j : Int)]
    rw [lex_snoc (by rw [kvs_len, kvs_len])]
    exact .inl (z i hi j hj)
theorem Along.dir {t : Tab} {m : Nat} {ps : List Nat} {ks : List KB} {gs : List (List Nat)} (h : Along t m ps ks gs) (hf : fitK t m gs = none) {o : Od} (ho : ∀ k ∈ o.1, 0 ≤ k.1 ∧ k.1 < (m : Int)) (hs : ps.Pairwise fun i j => kvO t o i < kvO t o j) : ∃ d, dirL (stepsG (fun i => (i : Int)) gs) = some d :=
  along_end hf o.2 o.1 ho fun g hg => hs.sublist (h.sub hg)
end DL
end L2

set_option Elab.async false
set_option maxRecDepth 100000
set_option maxHeartbeats 4000000
set_option autoImplicit false
namespace L2
namespace DL
open PySem PySem.Spec PyProof.Rows PySem.Calls
/-! ### nested keys -/
mutual
def nkOf : PyData → Option NestedKey
  | .none => some .none
  | .int i => some (.num i)
  | .str s => some (.text s)
  | .tuple ds => (nksOf ds).map .tup
  | .bool _ => none
  | .list _ => none
  | .dict _ => none
def nksOf : List PyData → Option (List NestedKey)
  | [] => some []
  | d :: ds => (nkOf d).bind fun k => (nksOf ds).map (k :: ·)
end
variable [Lab]
mutual
theorem nk_data : ∀ (d : PyData) (k : NestedKey), nkOf d = some k → k.data = d
  | .none, _, h => by cases h; rfl
  | .int _, _, h => by cases h; rfl
  | .str _, _, h => by cases h; rfl
  | .bool _, _, h => by cases h
  | .list _, _, h => by cases h
  | .dict _, _, h => by cases h
  | .tuple ds, k, h => by
    rw [nkOf] at h
    obtain ⟨ks, e, rfl⟩ := mpd h
    rw [NestedKey.data, nks_data ds ks e]
theorem nks_data : ∀ (ds : List PyData) (ks : List NestedKey), nksOf ds = some ks → NestedKey.datas ks = ds
  | [], _, h => by cases h; rfl
  | d :: ds, _, h => by
    rw [nksOf] at h
    obtain ⟨k, e1, h⟩ := bnd h
    obtain ⟨ks, e2, rfl⟩ := mpd h
    rw [NestedKey.datas, nk_data d k e1, nks_data ds ks e2]
end
mutual
theorem nk_of : ∀ k : NestedKey, nkOf k.data = some k
  | .none => rfl
  | .num _ => rfl
  | .text _ => rfl
  | .tup ks => by rw [NestedKey.data, nkOf, nks_of ks]; rfl
theorem nks_of : ∀ ks : List NestedKey, nksOf (NestedKey.datas ks) = some ks
  | [] => rfl
  | k :: ks => by rw [NestedKey.datas, nksOf, nk_of k, nks_of ks]; rfl
end
mutual
theorem dd_nk {X : Cx} {pins : List (Addr × Obj)} {σ : St} {H : Hp} {s : Shared} (I : Inv X pins σ H s) {Z : Hp} (sz : Same Z H) : ∀ (k : NestedKey) (v : V) (u : Value), DD X.K Z v k.data → RelV v u → NestedIs s.heap k u
  | .none, v, u, h, r => by cases h; cases (show u = Value.none from r); exact .none
  | .num i, v, u, h, r => by cases h; obtain ⟨t, rfl⟩ := (show ∃ t, u = Value.int i t from r); exact .int i t
  | .text x, v, u, h, r => by cases h; obtain ⟨t, rfl⟩ := (show ∃ t, u = Value.str x t from r); exact .text x t
  | .tup ks, v, u, h, r => by
    rw [NestedKey.data] at h
    cases h with
    | @tup a xs _ hs hd =>
      cases (show u = Value.ref a from r)
      obtain ⟨its, rv, ⟨o, h1, h2, n, h3⟩, _⟩ := I.tuple (same_sqT sz hs)
      exact .tup h1 h2 h3 (by simpa using dds_nk I sz ks xs its hd rv)
theorem dds_nk {X : Cx} {pins : List (Addr × Obj)} {σ : St} {H : Hp} {s : Shared} (I : Inv X pins σ H s) {Z : Hp} (sz : Same Z H) : ∀ (ks : List NestedKey) (vs : List V) (us : List Value), DDs X.K Z vs (NestedKey.datas ks) → Vals vs us → NestedAll s.heap ks us
  | [], _, _, h, r => by
    rw [NestedKey.datas] at h
    cases h; cases r; exact .nil
  | k :: ks, _, _, h, r => by
    rw [NestedKey.datas] at h
    cases h with
    | cons h1 h2 =>
      cases r with
      | cons r1 r2 => exact .cons (dd_nk I sz k _ _ h1 r1) (dds_nk I sz ks _ _ h2 r2)
end
/-! ### the dict as the library tells it -/
abbrev NEnt := NestedKey × Addr × V
omit [Lab] in
theorem ents_of {P : Program} {w : World} : ∀ {xs : List NEnt} {es : List DictEntry}, Paired (fun (x : NEnt) (e : DictEntry) => e.hash = x.1.hash w ∧ e.key = .ref x.2.1 ∧ RelV x.2.2 e.val) xs es →
    ∃ ys : List (NestedKey × Addr × Value), es = ys.map (entryOfKey (nestedKind P w)) ∧ Paired (fun (x : NEnt) (y : NestedKey × Addr × Value) => x.1 = y.1 ∧ x.2.1 = y.2.1 ∧ RelV x.2.2 y.2.2) xs ys
  | _, _, .nil => ⟨[], rfl, .nil⟩
  | _, _, .cons (a := x) (b := e) h t => by
    obtain ⟨ys, e1, r⟩ := ents_of (P := P) t
    obtain ⟨h1, h2, h3⟩ := h
    refine ⟨(x.1, x.2.1, e.val) :: ys, ?_, .cons ⟨rfl, rfl, h3⟩ r⟩
    rw [List.map_cons, ← e1]
    congr 1
    obtain ⟨eh, ek, ev⟩ := e
    dsimp only at h1 h2
    rw [h1, h2]; rfl
omit [Lab] in
theorem ents_back {P : Program} {w : World} : ∀ {xs : List NEnt} {ys : List (NestedKey × Addr × Value)}, Paired (fun (x : NEnt) (y : NestedKey × Addr × Value) => x.1 = y.1 ∧ x.2.1 = y.2.1 ∧ RelV x.2.2 y.2.2) xs ys →
    Paired (fun (x : NEnt) (e : DictEntry) => e.hash = x.1.hash w ∧ e.key = .ref x.2.1 ∧ RelV x.2.2 e.val) xs (ys.map (entryOfKey (nestedKind P w)))
  | _, _, .nil => .nil
  | _, _, .cons h t => .cons ⟨by rw [h.1]; rfl, by rw [h.2.1]; rfl, h.2.2⟩ (ents_back t)
omit [Lab] in
theorem prs_keys {xs : List NEnt} {ys : List (NestedKey × Addr × Value)} (h : Paired (fun (x : NEnt) (y : NestedKey × Addr × Value) => x.1 = y.1 ∧ x.2.1 = y.2.1 ∧ RelV x.2.2 y.2.2) xs ys) : xs.map (·.1) = ys.map (·.1) := by
  induction h with
  | nil => rfl
  | cons h _ ih => rw [List.map_cons, List.map_cons, h.1, ih]
omit [Lab] in
theorem paired_mem {α β : Type} {R : α → β → Prop} : ∀ {xs : List α} {ys : List β}, Paired R xs ys → ∀ y ∈ ys, ∃ x ∈ xs, R x y
  | _, _, .nil, _, h => nomatch h
  | _, _, .cons (a := a) h t, y, hy => by
    rcases List.mem_cons.mp hy with rfl | hy
    · exact ⟨a, List.mem_cons_self, h⟩
    · obtain ⟨x, hx, r⟩ := paired_mem t y hy
      exact ⟨x, List.mem_cons_of_mem _ hx, r⟩
omit [Lab] in
theorem paired_get {α β : Type} {R : α → β → Prop} : ∀ {xs : List α} {ys : List β}, Paired R xs ys → ∀ (i : Nat) (x : α), xs[i]? = some x → ∃ y, ys[i]? = some y ∧ R x y
  | _, _, .nil, _, _, h => by simp at h
  | _, _, .cons (b := b) h t, 0, x, e => by
    simp at e; subst e
    exact ⟨b, rfl, h⟩
  | _, _, .cons h t, i + 1, x, e => by
    obtain ⟨y, e1, r⟩ := paired_get t i x (by simpa using e)
    exact ⟨y, by simpa using e1, r⟩
theorem ddk_get {K : PySem.W.Frag} {Z : Hp} : ∀ {xs : List NEnt} {kvs : List (PyData × PyData)}, DDk K Z xs kvs → ∀ x ∈ xs, DD K Z (.ref x.2.1) x.1.data ∧ ∃ vd, DD K Z x.2.2 vd ∧ (x.1.data, vd) ∈ kvs
  | _, _, .nil, _, h => nomatch h
  | _, _, .cons h0 h1 h2 t, x, hx => by
    rcases List.mem_cons.mp hx with rfl | hx
    · dsimp only
      rw [h0]
      exact ⟨h1, _, h2, List.mem_cons_self⟩
    · obtain ⟨a, vd, b, c⟩ := ddk_get t x hx
      exact ⟨a, vd, b, List.mem_cons_of_mem _ c⟩
theorem ddk_at {K : PySem.W.Frag} {Z : Hp} : ∀ {xs : List NEnt} {kvs : List (PyData × PyData)}, DDk K Z xs kvs → ∀ (i : Nat) (x : NEnt), xs[i]? = some x → ∃ p, kvs[i]? = some p ∧ DD K Z (.ref x.2.1) p.1 ∧ DD K Z x.2.2 p.2 ∧ x.1.data = p.1
  | _, _, .nil, _, _, h => by simp at h
  | _, _, .cons (kd := kd) (vd := vd) h0 h1 h2 t, 0, x, e => by
    simp at e; subst e
    exact ⟨(kd, vd), rfl, h1, h2, h0⟩
  | _, _, .cons h0 h1 h2 t, i + 1, x, e => by
    obtain ⟨p, e1, r⟩ := ddk_at t i x (by simpa using e)
    exact ⟨p, by simpa using e1, r⟩
theorem ddk_len {K : PySem.W.Frag} {Z : Hp} : ∀ {xs : List NEnt} {kvs : List (PyData × PyData)}, DDk K Z xs kvs → xs.length = kvs.length
  | _, _, .nil => rfl
  | _, _, .cons _ _ _ t => by rw [List.length_cons, List.length_cons, ddk_len t]
/-- the dict at a, in the library's words -/
theorem dn_of {X : Cx} {pins : List (Addr × Obj)} {σ : St} {H : Hp} {s : Shared} (hw : LabW.w = some X.w) (I : Inv X pins σ H s) {Z : Hp} (sz : Same Z H) {a : Addr} {o : Obj} {xs : List NEnt} {kvs : List (PyData × PyData)} (h : H a = some (DnO a o)) (f : DnF LabW.w a o xs) (d : DDk X.K Z xs kvs) :
    ∃ ys : List (NestedKey × Addr × Value), s.heap.DictOfH (nestedKind X.prog X.w) a ys ∧ Paired (fun (x : NEnt) (y : NestedKey × Addr × Value) => x.1 = y.1 ∧ x.2.1 = y.2.1 ∧ RelV x.2.2 y.2.2) xs ys := by
  obtain ⟨h1, _⟩ := (show ObjOk X.prog X.w H s.heap a (DnO a o) from I.hok a _ h)
  obtain ⟨w', es, ep, ew, hd, rel⟩ := f.es
  rw [hw] at ew
  cases ew
  obtain ⟨ys, e1, r⟩ := ents_of (P := X.prog) rel
  refine ⟨ys, ⟨o, es, ep, h1, f.ex, hd, e1, fun y hy => ?_, by rw [← prs_keys r]; exact f.nd⟩, r⟩
  obtain ⟨x, hx, e2, e3, _⟩ := paired_mem r y hy
  obtain ⟨dk, _⟩ := ddk_get d x hx
  have dp := f.dp x hx
  rw [← e2, ← e3]
  exact ⟨dd_nk I sz x.1 _ _ dk rfl, dp⟩
/-! ### look-up -/
def lookN (k : NestedKey) : List (PyData × PyData) → Option PyData
  | [] => none
  | (kd, vd) :: r => if nkOf kd = some k then some vd else lookN k r
def ixK : PyData → PyData → Option PyData
  | .dict kvs, d => (nkOf d).bind fun k => match k with
    | .tup ks => if (NestedKey.tup ks).depth ≤ 8 then lookN (.tup ks) kvs else none
    | _ => none
  | _, _ => none
theorem look_get {K : PySem.W.Frag} {Z : Hp} {k : NestedKey} {d : PyData} : ∀ {xs : List NEnt} {kvs : List (PyData × PyData)} {ys : List (NestedKey × Addr × Value)}, DDk K Z xs kvs → Paired (fun (x : NEnt) (y : NestedKey × Addr × Value) => x.1 = y.1 ∧ x.2.1 = y.2.1 ∧ RelV x.2.2 y.2.2) xs ys → lookN k kvs = some d →
    ∃ p v, atKey ys k = some p ∧ RelV v p.2 ∧ DD K Z v d
  | _, _, _, .nil, .nil, h => by cases h
  | _, _, _, .cons (k := k0) (a := a) (v := v) (kd := kd) (vd := vd) h0 h1 h2 t, .cons (b := y) r tr, h => by
    rw [lookN] at h
    obtain ⟨r1, r2, r3⟩ := r
    dsimp only at r1 r2 r3
    by_cases z : nkOf kd = some k
    · rw [if_pos z] at h
      cases h
      rw [← h0, nk_of] at z
      cases z
      refine ⟨y.2, v, ?_, r3, h2⟩
      simp [atKey, ← r1]
    · rw [if_neg z] at h
      obtain ⟨p, v', e1, e2, e3⟩ := look_get t tr h
      refine ⟨p, v', ?_, e2, e3⟩
      have : ¬ y.1 = k := fun e => z (by rw [← h0, nk_of, r1, e])
      simp only [atKey, if_neg this] at e1 ⊢
      simpa [this] using e1
theorem id_ixK {X : Cx} (hw : LabW.w = some X.w) {j : Nat} (hr : Room j X.A) : IxR X (r2D X.K ixK) := by
  intro value slice pins s σ H x y v u Q I rx ry h hs
  obtain ⟨Z, a, b, d, sz, ha, hb, e, q⟩ := h
  match a, ha, e with
  | .dict kvs, ha, e =>
    obtain ⟨k, e1, e2⟩ := bnd e
    match k, e1, e2 with
    | .tup ks, e1, e2 =>
      dsimp only at e2
      by_cases hdp : (NestedKey.tup ks).depth ≤ 8
      · rw [if_pos hdp] at e2
        have hk := nk_data _ _ e1
        subst hk
        cases ha with
        | dct _ => cases e2
        | @dcn p o xs _ hp hf hd =>
          cases (show v = Value.ref p from rx)
          obtain ⟨ys, D, r⟩ := dn_of hw I sz (sz.h _ _ hp nt_exo) hf hd
          obtain ⟨pr, v', f1, f2, f3⟩ := look_get hd r e2
          have hb' : ∃ b0, y = .ref b0 := by
            rw [NestedKey.data] at hb
            cases hb; exact ⟨_, rfl⟩
          obtain ⟨b0, rfl⟩ := hb'
          cases (show u = Value.ref b0 from ry)
          have hkey := dd_nk I sz _ _ _ hb (show RelV (.ref b0) (Value.ref b0) from rfl)
          refine tail_any D.typeIs slot_dict_getitem.lookup (wpAny_getItem_heap (knd := nestedKind X.prog X.w) (by show X.A.units + 1 + 8 < cLine; have := hr.un; omega) ⟨hkey, hdp⟩ D f1 ⟨v', H, I.tok _, f2, q v' Z H (Grow.refl sz) f3⟩) hs
      · rw [if_neg hdp] at e2; cases e2
theorem pd_ixK {X : Cx} {F : Fm} {a b : Expr} {f g : DEnv → Option (PyData × DEnv)} {pos : Pos} (hw : LabW.w = some X.w) {j : Nat} (hr : Room j X.A) (ha : PD X F a f) (hb : PD X F b g) (hs : PlainIx b := by exact fun _ _ => rfl) : PD X F (.Subscript a b pos) (fBin ixK f g) := pe_imp (pe_ix (id_ixK hw hr) ha hb hs) fun _ _ _ h => bin_read h
/-! ### a walk over the keys -/
def ItN (d : Addr) (o : Obj) (xs : List NEnt) : It := ⟨fun i H => H d = some (DnO d o) ∧ i < xs.length, fun i H x H' => H' = H ∧ ∃ y, xs[i]? = some y ∧ x = .ref y.2.1, fun i H => H d = some (DnO d o) ∧ xs.length ≤ i⟩
omit [Lab] in
theorem turn_keysN {P : Program} {w : World} {K : PySem.W.Frag} {tg : Expr} {wl : Option World} {d : Addr} {o : Obj} {xs : List NEnt} {es : Array DictEntry} {ep : Nat} {w' : World} (it : Addr) (hdat : o.data = .dict es ep) (rel : Paired (fun (x : NEnt) (e : DictEntry) => e.hash = x.1.hash w' ∧ e.key = .ref x.2.1 ∧ RelV x.2.2 e.val) xs es.toList) :
    Turn P w K tg (ItN d o xs) [it] it (fun i h => h.IsKeyIter it d i xs.length ep) where
  mem := by simp
  obj := fun i h st b hb => by
    have e : b = it := by simpa using hb
    subst e
    obtain ⟨oi, e, c, dd⟩ := st
    exact ⟨oi, e, fun v z => by rw [dd] at z; cases z⟩
  keep := fun i h h' st k => st.at fun oi e => k it (by simp) oi e
  item := by
    intro X hP hw hK hc i pins s σ H E I hf st hg
    subst hP hw hK
    obtain ⟨hd, hi⟩ := hg
    obtain ⟨f0, f1, f2, f3, f4, f5⟩ := hf it (by simp)
    obtain ⟨ho, _⟩ := (show ObjOk X.prog X.w H s.heap d (DnO d o) from I.hok d _ hd)
    obtain ⟨en, e1, e2, e3, e4⟩ := paired_get rel i xs[i] (List.getElem?_eq_getElem hi)
    have hsz : es.size = xs.length := by rw [rel.length]; simp
    refine next_key_item st ho hdat hsz (by rw [← Array.getElem?_toList]; exact e1) fun h' st' sb => ?_
    have I1 : Inv X pins σ H { s with heap := h' } := I.turned (t' := s.toks) (fun b ob hb e => (sb.2 b hb).trans e) f0 f1 f3 f4 f5
    obtain ⟨oi, e, c, dd⟩ := id st'
    exact ⟨en.key, rfl, go_of (s := { s with heap := h' }) e c dd (by decide) ⟨.ref xs[i].2.1, H, I1, e3, ⟨rfl, xs[i], List.getElem?_eq_getElem hi, rfl⟩, st', fun b hb => (hf b hb).1⟩⟩
  done := by
    intro X hP hw hK hc i pins s σ H E I hf st hg
    subst hP hw hK
    obtain ⟨hd, hi⟩ := hg
    obtain ⟨f0, f1, f2, f3, f4, f5⟩ := hf it (by simp)
    obtain ⟨ho, _⟩ := (show ObjOk X.prog X.w H s.heap d (DnO d o) from I.hok d _ hd)
    have hsz : es.size = xs.length := by rw [rel.length]; simp
    exact next_key_end (I.ok.hd hc) st ho hdat hsz hi fun h' eb => ⟨rfl, I.turned (t' := s.toks) (fun b ob hb e => eb b ob hb e) f0 f1 f3 f4 f5⟩
  self := fun A i s Q E st h => by
    refine wpAny_pyIter_slot st.typeIs F.slot_dict_keyiterator_iter (wpAny_call_entry F.slot_dict_keyiterator_iter st.typeIs F.entry_dict_keyiterator_iter ?_ (F.args_dict_keyiterator_iter_1 _))
    show wpAny _ _ (ret (.ref it)) _ _ s
    exact wpAny_pure ⟨_, rfl, "dict_keyiterator", _, st.typeIs, F.slot_dict_keyiterator_next.lookup, h⟩
def iKeysN (td : TE) : TI := fun σ H R => td σ H fun x H1 => ∃ d o xs, x = .ref d ∧ H1 d = some (DnO d o) ∧ (∃ wl, DnF wl d o xs) ∧ R (ItN d o xs) H1
omit [Lab] in
theorem pi_keysN {X : Cx} {tg e : Expr} {td : TE} (he : PE X e td) : PI X tg e (iKeysN td) := by
  refine ⟨fun pins s σ H R I h => ?_⟩
  refine thn (he.run pins s σ H _ I h) fun u s1 ⟨x, H1, I1, rx, d, o, xs, ex, hd, ⟨wl, hf⟩, q⟩ => ?_
  subst ex
  obtain rfl : u = Value.ref d := rx
  obtain ⟨ho, _⟩ := (show ObjOk X.prog X.w H1 s1.heap d (DnO d o) from I1.hok d _ hd)
  obtain ⟨w', es, ep, _, hdat, rel⟩ := hf.es
  have hsz : es.size = xs.length := by rw [rel.length]; simp
  refine iter_keys hf.hd ho hf.ex hdat (pi_one (tk := s1.toks) I1 _ (turn_keysN (wl := wl) _ hdat rel) ⟨_, Heap.get?_push_size _ rfl, rfl, ?_⟩ q)
  rw [hsz] <;> rfl
theorem wd_keysN {K : PySem.W.Frag} {Z : Hp} {a : Addr} {o : Obj} {xs : List NEnt} {kvs : List (PyData × PyData)} (h : Z a = some (DnO a o)) (hd : DDk K Z xs kvs) : WalkD K (ItN a o xs) Z (kvs.map (·.1)) := by
  have l := ddk_len hd
  refine ⟨fun H => H a = some (DnO a o), fun i H x H' => H' = H ∧ ∃ y, xs[i]? = some y ∧ x = .ref y.2.1, ?_, fun H s => s.h _ _ h nt_exo, fun i H x H' Zc hi y s1 s2 => ?_⟩
  · rw [List.length_map, ← l]
    exact ⟨fun i H hi q => ⟨q, hi⟩, fun H q => ⟨q, Nat.le_refl _⟩, fun i H x H' hi q z => z⟩
  · obtain ⟨rfl, y, e, rfl⟩ := y
    obtain ⟨p, e1, e2, _, _⟩ := ddk_at hd i y e
    exact ⟨Zc, p.1, Grow.refl s2, by rw [List.getElem?_map, e1]; rfl, DDm e2 s1⟩
def iKeyD (f : DEnv → Option (PyData × DEnv)) (env : DEnv) : Option (List PyData × DEnv) := (f env).bind fun x => match x.1 with
  | .dict (kv :: kvs) => some ((kv :: kvs).map (·.1), x.2)
  | _ => none
theorem di_keysN {X : Cx} {F : Fm} {tg e : Expr} {f : DEnv → Option (PyData × DEnv)} (ha : PD X F e f) : PDI X F tg e (iKeyD f) := pi_imp (pi_keysN ha) fun σ H Q h => by
  obtain ⟨Z, env, ds, env', r, e, q⟩ := h
  obtain ⟨⟨d, e1⟩, h1, h⟩ := bnd e
  match d, h1, h with
  | .dict (kv :: kvs), h1, h =>
    cases h
    refine ⟨Z, env, _, e1, r, h1, fun v Z1 H1 r1 s1 d1 => ?_⟩
    cases d1 with
    | @dcn a o xs _ hp hf hd => exact ⟨a, o, xs, rfl, r1.zh.h _ _ hp nt_exo, ⟨_, hf⟩, q _ Z1 H1 r1 s1 (wd_keysN hp hd)⟩
end DL
end L2

set_option Elab.async false
set_option maxRecDepth 100000
set_option maxHeartbeats 4000000
set_option autoImplicit false
namespace L2
namespace DL
open PySem PySem.Spec PyProof.Rows PySem.Calls
variable [Lab]
/-! ### a display, its keys nested tuples -/
abbrev FD := DEnv → Option (PyData × DEnv)
def fPrs : List (FD × FD) → DEnv → Option (List (PyData × PyData) × DEnv)
  | [], env => some ([], env)
  | (f, g) :: r, env => (f env).bind fun x => (g x.2).bind fun y => (fPrs r y.2).map fun z => ((x.1, y.1) :: z.1, z.2)
def trsD (K : PySem.W.Frag) (F : Fm) (fs : List (FD × FD)) : List (TE × TE) := fs.map fun p => (tD K F p.1, tD K F p.2)
abbrev DDp (K : PySem.W.Frag) (Z : Hp) : List (V × V) → List (PyData × PyData) → Prop := Paired fun p d => DD K Z p.1 d.1 ∧ DD K Z p.2 d.2
theorem prs_read {K : PySem.W.Frag} {F : Fm} : ∀ (fs : List (FD × FD)) {σ : St} {Z H : Hp} {env env' : DEnv} {kvs : List (PyData × PyData)} {Q : List (V × V) → Hp → Prop}, Rel K F Z H σ env → fPrs fs env = some (kvs, env') →
    (∀ ps Z' H', Rel K F Z' H' σ env' → Stp σ env Z H env' Z' H' → DDp K Z' ps kvs → Q ps H') → tPairs (trsD K F fs) σ H Q
  | [], _, Z, H, _, _, _, _, r, h, q => by cases h; exact q [] Z H r Stp.refl .nil
  | (f, g) :: fs, σ, Z, H, env, env', kvs, Q, r, h, q => by
    rw [fPrs] at h
    obtain ⟨⟨kd, e1⟩, h1, h⟩ := bnd h
    obtain ⟨⟨vd, e2⟩, h2, h⟩ := bnd h
    obtain ⟨⟨kvs', e3⟩, h3, h⟩ := mpd h
    cases h
    refine ⟨Z, env, kd, e1, r, h1, fun v1 Z1 H1 r1 s1 d1 => ⟨Z1, e1, vd, e2, r1, h2, fun v2 Z2 H2 r2 s2 d2 => ?_⟩⟩
    exact prs_read fs r2 h3 fun ps Z3 H3 r3 s3 dp => q _ Z3 H3 r3 ((s1.trans s2).trans s3) (.cons ⟨DDm (DDm d1 s2.z) s3.z, DDm d2 s3.z⟩ dp)
def kysOf : List (PyData × PyData) → Option (List NestedKey)
  | [] => some []
  | (kd, _) :: r => (nkOf kd).bind fun k => match k with
    | .tup ks => if (NestedKey.tup ks).depth ≤ 8 then (kysOf r).map (NestedKey.tup ks :: ·) else none
    | _ => none
def fDictN (fs : List (FD × FD)) (env : DEnv) : Option (PyData × DEnv) := (fPrs fs env).bind fun x => (kysOf x.1).bind fun ks => if ks.Nodup then some (.dict x.1, x.2) else none
theorem ents_mk {K : PySem.W.Frag} {Z : Hp} : ∀ {ps : List (V × V)} {kvs : List (PyData × PyData)} {ks : List NestedKey}, DDp K Z ps kvs → kysOf kvs = some ks →
    ∃ xs : List NEnt, ps = xs.map (fun x => (V.ref x.2.1, x.2.2)) ∧ DDk K Z xs kvs ∧ xs.map (·.1) = ks ∧ ∀ x ∈ xs, x.1.depth ≤ 8
  | _, _, _, .nil, h => by cases h; exact ⟨[], rfl, .nil, rfl, fun _ h => nomatch h⟩
  | _, _, _, .cons (a := p) (b := d) r t, h => by
    obtain ⟨kd, vd⟩ := d
    rw [kysOf] at h
    obtain ⟨k, e1, h⟩ := bnd h
    match k, e1, h with
    | .tup ks, e1, h =>
      dsimp only at h
      by_cases hdp : (NestedKey.tup ks).depth ≤ 8
      · rw [if_pos hdp] at h
        obtain ⟨ks', e2, rfl⟩ := mpd h
        obtain ⟨xs, q1, q2, q3, q4⟩ := ents_mk t e2
        have hk := nk_data _ _ e1
        obtain ⟨r1, r2⟩ := r
        obtain ⟨p1, p2⟩ := p
        dsimp only at r1 r2 hk
        have hr : ∃ a, p1 = .ref a := by
          rw [← hk, NestedKey.data] at r1
          cases r1; exact ⟨_, rfl⟩
        obtain ⟨a, rfl⟩ := hr
        refine ⟨(.tup ks, a, p2) :: xs, by rw [q1]; rfl, .cons hk r1 r2 q2, by rw [List.map_cons, q3], fun x hx => ?_⟩
        rcases List.mem_cons.mp hx with rfl | hx
        · exact hdp
        · exact q4 x hx
      · rw [if_neg hdp] at h; cases h
/-- the pairs as the library stores them -/
theorem carriesN {X : Cx} {pins : List (Addr × Obj)} {σ : St} {H : Hp} {s : Shared} (I : Inv X pins σ H s) {Z : Hp} (sz : Same Z H) : ∀ {xs : List NEnt} {ws : List (Value × Value)}, VV (xs.map fun x => (V.ref x.2.1, x.2.2)) ws → (∀ x ∈ xs, DD X.K Z (.ref x.2.1) x.1.data ∧ x.1.depth ≤ 8) →
    ∃ ys : List (NestedKey × Addr × Value), CarriesH (nestedKind X.prog X.w) s.heap ws ys ∧ Paired (fun (x : NEnt) (y : NestedKey × Addr × Value) => x.1 = y.1 ∧ x.2.1 = y.2.1 ∧ RelV x.2.2 y.2.2) xs ys
  | [], _, r, _ => by rw [List.map_nil] at r; cases r; exact ⟨[], True.intro, .nil⟩
  | x :: xs, _, r, hk => by
    rw [List.map_cons] at r
    cases r with
    | @cons a b as bs h t =>
      obtain ⟨ys, c, q⟩ := carriesN I sz t fun y hy => hk y (List.mem_cons_of_mem _ hy)
      obtain ⟨b1, b2⟩ := b
      obtain ⟨h1, h2⟩ := h
      cases (show b1 = Value.ref x.2.1 from h1)
      obtain ⟨k1, k2⟩ := hk x List.mem_cons_self
      exact ⟨(x.1, x.2.1, b2) :: ys, ⟨rfl, rfl, ⟨dd_nk I sz x.1 _ _ k1 rfl, k2⟩, c⟩, .cons ⟨rfl, rfl, h2⟩ q⟩
omit [Lab] in
theorem storedH_new {xs : List (NestedKey × Addr × Value)} {k : NestedKey} {a : Addr} {v : Value} (h : k ∉ xs.map (·.1)) : storedH xs k a v = xs ++ [(k, a, v)] := by
  have hn : atKey xs k = none := by
    induction xs with
    | nil => rfl
    | cons x xs ih =>
      rw [List.map_cons, List.mem_cons, not_or] at h
      have := ih h.2
      have hx : ¬ x.1 = k := fun e => h.1 e.symm
      simp only [atKey] at this ⊢
      simpa [hx] using this
  unfold storedH
  rw [hn]
  rfl
omit [Lab] in
theorem storedAll_new : ∀ (ys acc : List (NestedKey × Addr × Value)), ((acc ++ ys).map (·.1)).Nodup → storedAllH acc ys = acc ++ ys
  | [], acc, _ => by rw [List.append_nil]; rfl
  | y :: ys, acc, h => by
    have hn : y.1 ∉ acc.map (·.1) := fun z => by
      rw [List.map_append, List.map_cons, List.nodup_append] at h
      exact h.2.2 _ z _ List.mem_cons_self rfl
    show storedAllH (storedH acc y.1 y.2.1 y.2.2) ys = _
    rw [storedH_new hn, storedAll_new ys (acc ++ [y]) (by rw [List.append_assoc]; exact h), List.append_assoc]
    rfl
def tDispN (K : PySem.W.Frag) (wl : Option World) (DDf : Hp → V → PyData → Prop) (trs : List (TE × TE)) : TE := fun σ H Q => ∀ p, H p = none → tPairs trs σ (upd H p (.dK [])) fun ps H2 => H2 p = some (.dK []) ∧ ∃ (xs : List NEnt) (Z : Hp), ps = xs.map (fun x => (V.ref x.2.1, x.2.2)) ∧ Same Z H2 ∧
  (∀ x ∈ xs, DDf Z (.ref x.2.1) x.1.data ∧ x.1.depth ≤ 8) ∧ (xs.map (·.1)).Nodup ∧ ∀ o, DnF wl p o xs → Q (.ref p) (upd H2 p (DnO p o))
theorem pe_dispN {X : Cx} {pos : Pos} {keys : List (Option Expr)} {values : List Expr} {trs : List (TE × TE)} (hw : LabW.w = some X.w) {j : Nat} (hr : Room j X.A) (h : PPs X pos keys values trs) (hall : keys.all (·.isSome) = true) (hl : keys.length = values.length) (h0 : keys ≠ [])
    (h15 : keys.length ≤ 15) : PE X (.Dict keys values pos) (tDispN X.K LabW.w (DD X.K) trs) := by
  refine ⟨fun pins s σ H Q I q => ?_⟩
  have hn := I.hok.fresh (Nat.le_refl s.heap.objs.size)
  have I1 := I.laid (a := s.heap.objs.size) (o := .dK []) (h' := s.heap.push { cls := .type "dict", data := .dict #[] }) (t' := s.toks) (fun _ _ q => Heap.get?_push_of_some _ q) (Nat.le_refl _) (dk_empty s.heap I.big)
  have hlen := pairTrees_length keys values X.env pos hall hl
  have hne : pairTrees keys values X.env pos ≠ [] := fun z => by rw [z] at hlen; exact h0 (List.length_eq_zero_iff.mp hlen.symm)
  rw [arm_eval_Dict, zip_pairTrees keys values X.env pos hall hl, dictDisplay_pairs _ hne (by omega)]
  refine wpAny_bind (wpAny_standAt (wpAny_bind (wpAny_subDictH (knd := nestedKind X.prog X.w) (Q := fun d s' => wpAny (model X.prog X.w) X.A (pure (Value.ref d)) (EP X pins σ Q) X.xe s') (by show X.A.units + 8 < cLine; have := hr.un; omega) (by rw [hlen]; exact h15) ?_)))
  refine thn (h.run pins _ σ _ _ I1 (q _ hn)) fun ws s2 ⟨ps, H2, I2, rel, e, xs, Z, ep, sz, hk, nd, q2⟩ => ?_
  subst ep
  obtain ⟨ys, c, r⟩ := carriesN I2 sz rel hk
  obtain ⟨z, hd, vs0, r0, dd⟩ := dk_of I2.hok e
  cases r0
  have D0 : s2.heap.DictOfH (nestedKind X.prog X.w) s.heap.objs.size [] := by
    obtain ⟨es, ep, ⟨o, ho, hc, hdat⟩, hsz, _⟩ := dd.raw
    refine ⟨o, es, ep, ho, hc, hdat, ?_, (fun _ h => nomatch h), List.nodup_nil⟩
    rw [List.map_nil, ← List.length_eq_zero_iff, Array.length_toList]
    exact hsz
  refine ⟨ys, c, D0, fun h' tk D hs => wpAny_pure ?_⟩
  rw [storedAll_new ys [] (by rw [List.nil_append, ← prs_keys r]; exact nd), List.nil_append] at D
  obtain ⟨o, es, ep, ho, hc, hdat, he, _, _⟩ := D
  have hf : DnF LabW.w s.heap.objs.size o xs := ⟨hd, nd, hc, ⟨X.w, es, ep, hw, hdat, by rw [he]; exact ents_back r⟩, fun x hx => (hk x hx).2⟩
  refine ⟨.ref s.heap.objs.size, _, d_write (t' := tk) I2 (by rw [e]; exact True.intro) hs ⟨o, ho⟩ ?_, rfl, q2 o hf⟩
  exact ⟨ho, ⟨o, ho⟩, fun h1 h2 e1 e2 => e2 _ e1⟩
theorem TB.nk {H : Hp} (t : TB H) {p : Addr} {kvs : List (Key × V)} (h : H p = some (.dK kvs)) (o : HO) : TB (upd H p o) := fun q hq => by
  obtain ⟨ps, a, b, c⟩ := t q hq
  refine ⟨ps, ?_, b, fun pos cv e => ?_⟩
  · rw [upd_ne (fun z => by rw [z, h] at a; cases a)]; exact a
  · obtain ⟨c0, e1, e2⟩ := c pos cv e
    exact ⟨c0, e1, by rw [upd_ne (fun z => by rw [z, h] at e2; unfold LamX.CodeO at e2; cases e2)]; exact e2⟩
theorem pd_dispN {X : Cx} {F : Fm} {pos : Pos} {keys : List (Option Expr)} {values : List Expr} {fs : List (FD × FD)} (hw : LabW.w = some X.w) {j : Nat} (hr : Room j X.A) (h : PPs X pos keys values (trsD X.K F fs)) (hall : keys.all (·.isSome) = true) (hl : keys.length = values.length) (h0 : keys ≠ [])
    (h15 : keys.length ≤ 15) : PD X F (.Dict keys values pos) (fDictN fs) := pe_imp (pe_dispN hw hr h hall hl h0 h15) fun σ H Q h => by
  obtain ⟨Z, env, d, env', r, e, q⟩ := h
  unfold fDictN at e
  obtain ⟨⟨kvs, e1⟩, h1, e⟩ := bnd e
  obtain ⟨ks, h2, e⟩ := bnd e
  by_cases nd : ks.Nodup
  · rw [if_pos nd] at e
    cases e
    intro p hp
    have gr := grow_own r.zh hp (.dK [])
    have ng : F.G p = none := r.gh.free hp
    have np : ¬ F.P p := fun z => (r.pp p z).1 hp
    have fr := fre_new r hp
    have fr2 : Fre σ env p := fr
    refine prs_read fs (r.grow gr) h1 fun ps Z1 H1 r1 s1 dp => ?_
    have e1 : H1 p = some (.dK []) := s1.h p _ upd_same nt_dK fr
    have hz : Z p = none := r.zh.free hp
    have hz1 : Z1 p = none := by
      cases hh : Z1 p with
      | none => rfl
      | some o => exact absurd fr (s1.n p (by rw [hh]; simp) hz (by rw [upd_same]; simp))
    obtain ⟨xs, ep, dk, hk, hdp⟩ := ents_mk dp h2
    refine ⟨e1, xs, Z1, ep, r1.zh, fun x hx => ⟨(ddk_get dk x hx).1, hdp x hx⟩, by rw [hk]; exact nd, fun o hf => ?_⟩
    have sZ : Same Z1 (upd Z1 p (DnO p o)) := .of (same_new hz1 _)
    have st := gr.stp (σ := σ) (env := env) |>.trans s1
    refine q (.ref p) (upd Z1 p (DnO p o)) (upd H1 p (DnO p o)) ⟨r1.z0.trans sZ, same_upd2 r1.zh p _, ⟨fun b x a n => ?_, fun b a => ?_⟩, fun b hb => ?_, fun b hb => ?_, r1.len, fun i dv ei => ?_, r1.inj, TB.nk r1.tb e1 _⟩ ⟨st.z.trans sZ, fun b x a n f => ?_, fun b a c d f => ?_, st.o, fun b a => ?_⟩ (.dcn upd_same hf (ddk_mono sZ _ _ dk))
    · have : b ≠ p := fun z => by rw [z, ng] at a; cases a
      rw [upd_ne this]; exact r1.gh.h b x a n
    · by_cases z : b = p
      · rw [z, upd_same]; simp
      · rw [upd_ne z]; exact r1.gh.k b a
    · by_cases z : b = p
      · rw [z]; exact .inr ⟨ng, np⟩
      · rw [upd_ne z] at hb; exact r1.nw b hb
    · have : b ≠ p := fun z => np (z ▸ hb)
      rw [upd_ne this, upd_ne this]
      exact r1.pp b hb
    · have sl := r1.sl i dv ei
      cases dv with
      | fr d =>
        obtain ⟨v, a1, a2⟩ := sl
        exact ⟨v, a1, DDm a2 sZ⟩
      | ow ds =>
        obtain ⟨p', xs', a1, a2, a3, a4, a5, a6⟩ := sl
        have : p' ≠ p := fun z => by rw [z, e1] at a5; cases a5
        exact ⟨p', xs', a1, a2, a3, by rw [upd_ne this]; exact a4, by rw [upd_ne this]; exact a5, DDsm a6 sZ⟩
      | rf ds =>
        obtain ⟨p', xs', a1, a2, a5, a6⟩ := sl
        have : p' ≠ p := fun z => by rw [z, e1] at a5; cases a5
        exact ⟨p', xs', a1, a2, by rw [upd_ne this]; exact a5, DDsm a6 sZ⟩
      | dk ds =>
        obtain ⟨p', o', xs', a1, a2, a3, a4, a5, a6, a7⟩ := sl
        have : p' ≠ p := fun z => by rw [z, e1] at a5; cases (Option.some.inj a5)
        exact ⟨p', o', xs', a1, a2, a3, by rw [upd_ne this]; exact a4, by rw [upd_ne this]; exact a5, a6, ddk_mono sZ _ _ a7⟩
    · have : b ≠ p := fun z => by rw [z, hp] at a; cases a
      rw [upd_ne this]; exact st.h b x a n f
    · by_cases z : b = p
      · rw [z] at d; exact absurd hp d
      · rw [upd_ne z] at a; exact st.n b a c d f
    · by_cases z : b = p
      · rw [z, upd_same]; simp
      · rw [upd_ne z]; exact st.k b a
  · rw [if_neg nd] at e; cases e
end DL
end L2

set_option Elab.async false
set_option maxRecDepth 100000
set_option maxHeartbeats 4000000
set_option autoImplicit false
namespace L2
namespace DL
open PySem PySem.Spec PyProof.Rows PySem.Calls
variable [Lab]
/-! ### min(l, key=len) -/
section
variable {X : Cx} {pins : List (Addr × Obj)} {σ : St} {H : Hp}
/-- what a key does: an int for each item, what stood stays -/
abbrev KeyTurn (X : Cx) (pins : List (Addr × Obj)) (σ : St) (H : Hp) (id : String) (xs : List V) (kf : Nat → Int) : Prop := ∀ (i : Nat) (x : V) (u : Value) (s : Shared) (Q : Value → Shared → Prop) (E : Value → Shared → Prop), Inv X pins σ H s → xs[i]? = some x → RelV x u →
  (∀ t h' tk, (∀ b o, s.heap.get? b = some o → h'.get? b = some o) → Q (.int (kf i) t) { s with heap := h', toks := tk }) → wpAny (model X.prog X.w) X.A.in1 (call (.builtin id) [u]) Q E s
/-- the least so far -/
structure Least (kf : Nat → Int) (i j : Nat) : Prop where
  lt : i < j
  le : ∀ k, k < j → kf i ≤ kf k ∧ (k < i → kf i < kf k)
omit [Lab] in
theorem Least.no {kf : Nat → Int} {i j : Nat} (h : Least kf i j) (n : ¬ kf j < kf i) : Least kf i (j + 1) := by
  refine ⟨by have := h.lt; omega, fun k hk => ?_⟩
  by_cases e : k = j
  · subst e
    exact ⟨by omega, fun z => by have := h.lt; omega⟩
  · exact h.le k (by omega)
omit [Lab] in
theorem Least.yes {kf : Nat → Int} {i j : Nat} (h : Least kf i j) (n : kf j < kf i) : Least kf j (j + 1) := by
  refine ⟨by omega, fun k hk => ?_⟩
  by_cases e : k = j
  · subst e
    exact ⟨Int.le_refl _, fun z => by omega⟩
  · have := (h.le k (by omega)).1
    exact ⟨by omega, fun z => by omega⟩
omit [Lab] in
theorem min_go {id : String} {xs : List V} {kf : Nat → Int} {l I S : Addr} (hc : X.calm = true) (hl : SqL X.K H l xs) (turn : KeyTurn X pins σ H id xs kf) (fI : FpOk X pins H I) (fS : FpOk X pins H S) (ne : S ≠ I) {R : Result → Shared → Prop}
    (fin : ∀ i x u s', Inv X pins σ H s' → xs[i]? = some x → RelV x u → Least kf i xs.length → R (.ok (.ret u)) s') :
    ∀ (r j i : Nat) (s : Shared) (xb : V) (vb : Value) (tb : Tok) (c : Nat), xs.length - j = r → j ≤ xs.length → Inv X pins σ H s → s.heap.IsListIter I l j → s.heap.get? S = some (seqObj "list" #[vb, .int (kf i) tb] c) → xs[i]? = some xb → RelV xb vb → Least kf i j →
      codeAny (model X.prog X.w) X.A (.builtin "min.loop" ⟨[.ref I, .builtin id, .ref S], []⟩) R s
  | 0, j, i, s, xb, vb, tb, c, hr, hj, Iv, hit, hS, hx, rx, lv => by
    have hje : j = xs.length := by omega
    obtain ⟨its, rv, pl, hz⟩ := Iv.list hl
    have hlen := rv.length
    obtain ⟨f0, f1, f2, f3, f4, f5⟩ := fI
    obtain ⟨g0, g1, g2, g3, g4, g5⟩ := fS
    refine codeAny_builtin F.entry_min_loop ?_; rw [Around.under_plainId F.plain_min_loop _]
    refine wpAny_bind (m := seqItems? (.ref S)) (wpAny_seqItems hS rfl (wpAny_bind (wpAny_tryCatch (m := pyNext (.ref I)) (wpAny_pyNext_list_end (Iv.ok.hd hc) hit pl.isList (by simp; omega) fun h' eb => ?_))))
    have I1 : Inv X pins σ H { s with heap := h' } := Iv.turned (t' := s.toks) (fun b o hb e => eb b o hb e) f0 f1 f3 f4 f5
    have hS' : h'.get? S = some (seqObj "list" #[vb, .int (kf i) tb] c) := eb S _ ne hS
    have sb := Heap.SameBut.update h' S (Obj.mapSeq fun _ => (#[] : Array Value))
    have I2 : Inv X pins σ H { s with heap := h'.update S (Obj.mapSeq fun _ => (#[] : Array Value)) } := I1.turned (t' := s.toks) (fun b o hb e => (sb.2 b hb).trans e) g0 g1 g3 g4 g5
    refine wpAny_bind (m := updateSeq S fun _ => #[]) (wpAny_updateSeq hS' rfl (wpAny_bind (wpAny_letGo (wpAny_pure ?_))))
    rw [hje] at lv
    exact fin i xb vb _ I2 hx rx lv
  | r + 1, j, i, s, xb, vb, tb, c, hr, hj, Iv, hit, hS, hx, rx, lv => by
    have hlt : j < xs.length := by omega
    obtain ⟨its, rv, pl, hz⟩ := Iv.list hl
    obtain ⟨u, hu, ru⟩ := rv.get (List.getElem?_eq_getElem hlt)
    have fI' := fI
    have fS' := fS
    obtain ⟨f0, f1, f2, f3, f4, f5⟩ := fI'
    obtain ⟨g0, g1, g2, g3, g4, g5⟩ := fS'
    refine codeAny_builtin F.entry_min_loop ?_; rw [Around.under_plainId F.plain_min_loop _]
    refine wpAny_bind (m := seqItems? (.ref S)) (wpAny_seqItems hS rfl (wpAny_bind (wpAny_tryCatch (m := pyNext (.ref I)) (wpAny_pyNext_list_item hit pl.isList (x := u) (by simpa using hu) fun h' st' sb => ?_))))
    have I1 : Inv X pins σ H { s with heap := h' } := Iv.turned (t' := s.toks) (fun b o hb e => (sb.2 b hb).trans e) f0 f1 f3 f4 f5
    have hS1 : h'.get? S = some (seqObj "list" #[vb, .int (kf i) tb] c) := (sb.2 S ne).trans hS
    refine wpAny_bind (m := tryCatch (holding [u] (call (.builtin id) [u])) _) (wpAny_tryCatch (wpAny_holding (turn j xs[j] u _ _ _ I1 (List.getElem?_eq_getElem hlt) ru fun t h2 tk kp => ?_)))
    have I2 : Inv X pins σ H { s with heap := h2, toks := tk } := I1.kept (t' := tk) kp
    have hS2 := kp S _ hS1
    have st2 : h2.IsListIter I l (j + 1) := st'.at fun o e => kp I o e
    refine wpAny_bind (m := tryCatch (holding [u, .int (kf j) t] (richCompare .Lt (.int (kf j) t) (.int (kf i) tb) >>= _)) _) (wpAny_tryCatch (wpAny_holding (wpAny_bind (CmpOf.ints_lt (prog := X.prog) (w := X.w) (A := X.A.in1) (P := fun i v => ∃ t, v = .int (kf i) t) kf (fun i v h => h) j i _ _ _ _ _ ⟨t, rfl⟩ ⟨tb, rfl⟩ (wpAny_bind (wpAny_holding (wpAny_truthy_bool (wpAny_bind (wpAny_letGo (wpAny_pure ?_)))))))))) 
    by_cases hb : kf j < kf i
    · have s1 := Heap.SameBut.update h2 S (Obj.mapSeq fun _ => #[u, .int (kf j) t])
      have hS3 := get?_update_seq hS2 fun _ => #[u, Value.int (kf j) t]
      have I3 : Inv X pins σ H { s with heap := h2.update S (Obj.mapSeq fun _ => #[u, .int (kf j) t]), toks := tk } := I2.turned (t' := tk) (fun b o hb e => (s1.2 b hb).trans e) g0 g1 g3 g4 g5
      simp only [hb, decide_true, if_true]
      refine wpAny_bind (m := updateSeq S fun _ => #[u, .int (kf j) t]) (wpAny_updateSeq hS2 rfl (wpAny_bind (wpAny_letGo (wpAny_pure ⟨plainId_quiet F.plain_min_loop _, ?_⟩))))
      exact min_go hc hl turn fI fS ne fin r (j + 1) j _ xs[j] u t _ (by omega) hlt I3 (st2.at fun o e => (s1.2 I ne.symm).trans e) hS3 (List.getElem?_eq_getElem hlt) ru (lv.yes hb)
    · simp only [hb, decide_false, Bool.false_eq_true, if_false]
      refine wpAny_bind (wpAny_letGo (wpAny_pure ⟨plainId_quiet F.plain_min_loop _, ?_⟩))
      exact min_go hc hl turn fI fS ne fin r (j + 1) i _ xb vb tb c (by omega) hlt I2 st2 hS2 hx rx (lv.no hb)
omit [Lab] in
theorem min_call {id : String} {xs : List V} {kf : Nat → Int} {l : Addr} {s : Shared} {Q : Value → Shared → Prop} {E : Value → Shared → Prop} (hc : X.calm = true) (Iv : Inv X pins σ H s) (hl : SqL X.K H l xs) (hne : 0 < xs.length) (turn : KeyTurn X pins σ H id xs kf)
    (fin : ∀ i x u s', Inv X pins σ H s' → xs[i]? = some x → RelV x u → Least kf i xs.length → Q u s') : wpAny (model X.prog X.w) X.A (call (.builtin "min") [.ref l] [(Str.ofString "key", .builtin id)]) Q E s := by
  obtain ⟨its, rv, pl, hz⟩ := Iv.list hl
  obtain ⟨u, hu, ru⟩ := rv.get (List.getElem?_eq_getElem hne)
  refine kmb_tree F.kind_min F.plain_min F.entry_min (kmb_min_key _ _) ?_
  refine wpAny_bind (m := Builtin.Builtins.bindParams "min" ["key", "default"] 0 ⟨[], [(Str.ofString "key", .builtin id)]⟩) (wpAny_of_eq (a := [some (.builtin id), none]) rfl (wpAny_bind (wpAny_pure (wpAny_bind (wpAny_pyIter_list pl.isList (wpAny_bind (wpAny_newList ?_ (Nat.zero_le _))))))))
  have hname : (toString "min" ++ toString ".loop" : String) = "min.loop" := by decide
  rw [hname]
  refine wpAny_pure ⟨plainId_quiet F.plain_min_loop _, ?_⟩
  generalize hI : s.heap.objs.size = I
  have hpI : (s.heap.push { cls := .type "list_iterator", data := .fields #[.ref l, .int 0 0] }).objs.size = I + 1 := by rw [← hI]; exact size_push' ..
  generalize hS : (s.heap.push { cls := .type "list_iterator", data := .fields #[.ref l, .int 0 0] }).objs.size = S at hpI ⊢
  have fI : FpOk X pins H I := by rw [← hI]; exact Iv.fpOk (Nat.le_refl _) (Iv.hok.fresh (Nat.le_refl _))
  have fS : FpOk X pins H S := Iv.fpOk (by omega) (Iv.hok.fresh (by omega))
  have ne : S ≠ I := by omega
  have kp0 : ∀ b o, s.heap.get? b = some o → ((s.heap.push { cls := .type "list_iterator", data := .fields #[.ref l, .int 0 0] }).push (seqObj "list" #[] 0)).get? b = some o := fun b o e => Heap.get?_push_of_some _ (Heap.get?_push_of_some _ e)
  have I0 : Inv X pins σ H { s with heap := (s.heap.push { cls := .type "list_iterator", data := .fields #[.ref l, .int 0 0] }).push (seqObj "list" #[] 0) } := Iv.kept (t' := s.toks) kp0
  have gI : ((s.heap.push { cls := .type "list_iterator", data := .fields #[.ref l, .int 0 0] }).push (seqObj "list" #[] 0)).get? I = some { cls := .type "list_iterator", data := .fields #[.ref l, .int 0 0] } := by rw [← hI]; exact Heap.get?_push_of_some _ (Heap.get?_push_size _ rfl)
  have gS : ((s.heap.push { cls := .type "list_iterator", data := .fields #[.ref l, .int 0 0] }).push (seqObj "list" #[] 0)).get? S = some (seqObj "list" #[] 0) := by rw [← hS]; exact Heap.get?_push_size _ rfl
  have hit : ((s.heap.push { cls := .type "list_iterator", data := .fields #[.ref l, .int 0 0] }).push (seqObj "list" #[] 0)).IsListIter I l 0 := ⟨_, gI, rfl, rfl⟩
  have pl0 := (I0.list hl)
  obtain ⟨its0, rv0, pl1, _⟩ := pl0
  obtain ⟨u0, hu0, ru0⟩ := rv0.get (List.getElem?_eq_getElem hne)
  have fI' := fI
  have fS' := fS
  obtain ⟨f0, f1, f2, f3, f4, f5⟩ := fI'
  obtain ⟨g0, g1, g2, g3, g4, g5⟩ := fS'
  refine codeAny_builtin F.entry_min_loop ?_; rw [Around.under_plainId F.plain_min_loop _]
  refine wpAny_bind (m := seqItems? (.ref S)) (wpAny_seqItems gS rfl (wpAny_bind (wpAny_tryCatch (m := pyNext (.ref I)) (wpAny_pyNext_list_item hit pl1.isList (x := u0) (by simpa using hu0) fun h' st' sb => ?_))))
  have I1 : Inv X pins σ H { s with heap := h' } := I0.turned (t' := s.toks) (fun b o hb e => (sb.2 b hb).trans e) f0 f1 f3 f4 f5
  have hS1 : h'.get? S = some (seqObj "list" #[] 0) := (sb.2 S ne).trans gS
  refine wpAny_bind (m := tryCatch (holding [u0] (call (.builtin id) [u0])) _) (wpAny_tryCatch (wpAny_holding (turn 0 xs[0] u0 _ _ _ I1 (List.getElem?_eq_getElem hne) ru0 fun t h2 tk kp => ?_)))
  have I2 : Inv X pins σ H { s with heap := h2, toks := tk } := I1.kept (t' := tk) kp
  have hS2 := kp S _ hS1
  have st2 : h2.IsListIter I l 1 := st'.at fun o e => kp I o e
  have s1 := Heap.SameBut.update h2 S (Obj.mapSeq fun _ => #[u0, .int (kf 0) t])
  have hS3 := get?_update_seq hS2 fun _ => #[u0, Value.int (kf 0) t]
  have I3 : Inv X pins σ H { s with heap := h2.update S (Obj.mapSeq fun _ => #[u0, .int (kf 0) t]), toks := tk } := I2.turned (t' := tk) (fun b o hb e => (s1.2 b hb).trans e) g0 g1 g3 g4 g5
  refine wpAny_bind (m := updateSeq S fun _ => #[u0, .int (kf 0) t]) (wpAny_updateSeq hS2 rfl ?_)
  rw [hname]
  refine wpAny_pure ⟨plainId_quiet F.plain_min_loop _, ?_⟩
  exact min_go hc hl turn fI fS ne (R := fun r s' => match r with | .ok (.ret v) => Q v s' | .ok _ => False | .error e => E e s') fin (xs.length - 1) 1 0 _ xs[0] u0 t _ rfl hne I3 (st2.at fun o e => (s1.2 I ne.symm).trans e) hS3 (List.getElem?_eq_getElem hne) ru0 ⟨Nat.one_pos, fun k hk => by
    have : k = 0 := by omega
    subst this
    exact ⟨Int.le_refl _, fun z => by omega⟩⟩
/-- min(l, key=len), the items tuples -/
def lensD : List PyData → Option (List Nat)
  | [] => some []
  | .tuple xs :: r => (lensD r).map (xs.length :: ·)
  | _ => none
def notLonger : PyData → PyData → Bool
  | .tuple a, .tuple b => decide (a.length ≤ b.length)
  | _, _ => true
/-- the first of the shortest -/
def shortD : List PyData → Option PyData
  | [] => none
  | d :: ds => match shortD ds with
    | none => some d
    | some e => if notLonger d e then some d else some e
def fMinLen (f : FD) (env : DEnv) : Option (PyData × DEnv) := (f env).bind fun x => match x.1 with
  | .list ds => (lensD ds).bind fun _ => (shortD ds).map fun d => (d, x.2)
  | _ => none
def tlen : PyData → Nat
  | .tuple xs => xs.length
  | _ => 0
omit [Lab] in
theorem lens_tup : ∀ {ds : List PyData} {ls : List Nat}, lensD ds = some ls → ∀ (k : Nat) (x : PyData), ds[k]? = some x → ∃ b, x = PyData.tuple b
  | [], _, _, k, x, e => by simp at e
  | .tuple a :: ds, ls, h, k, x, e => by
    rw [lensD] at h
    cases hh : lensD ds with
    | none => rw [hh] at h; cases h
    | some z =>
      cases k with
      | zero => simp at e; exact ⟨a, e.symm⟩
      | succ k => exact lens_tup hh k x (by simpa using e)
omit [Lab] in
theorem short_none : ∀ {ds : List PyData}, shortD ds = none → ds = []
  | [], _ => rfl
  | d :: ds, h => by
    rw [shortD] at h
    cases hh : shortD ds with
    | none => rw [hh] at h; cases h
    | some e =>
      rw [hh] at h
      dsimp only at h
      by_cases c : notLonger d e = true
      · rw [if_pos c] at h; cases h
      · rw [if_neg c] at h; cases h
omit [Lab] in
theorem shortD_at : ∀ {ds : List PyData} {d : PyData}, (∃ ls, lensD ds = some ls) → shortD ds = some d → ∀ i, Least (fun k => ((ds[k]?.map tlen).getD 0 : Nat)) i ds.length → ds[i]? = some d
  | [], _, _, h, _, _ => by cases h
  | d0 :: ds, d, ⟨ls, hls⟩, h, i, lv => by
    match d0, hls with
    | .tuple a, hls =>
      rw [lensD] at hls
      obtain ⟨ls', e1, _⟩ : ∃ ls', lensD ds = some ls' ∧ a.length :: ls' = ls := by
        cases hh : lensD ds with
        | none => rw [hh] at hls; cases hls
        | some x => rw [hh] at hls; exact ⟨x, rfl, Option.some.inj hls⟩
      have tup := lens_tup e1
      rw [shortD] at h
      cases hs : shortD ds with
      | none =>
        have := short_none hs
        subst this
        rw [hs] at h
        cases h
        have := lv.lt
        simp at this
        subst this
        rfl
      | some e =>
        rw [hs] at h
        dsimp only at h
        -- the best of the rest
        have hpos : 0 < ds.length := by
          cases ds with
          | nil => cases hs
          | cons _ _ => simp
        cases i with
        | zero =>
          obtain ⟨k, hk⟩ : ∃ k, Least (fun k => ((ds[k]?.map tlen).getD 0 : Nat)) k ds.length := by
            have key : ∀ n, 0 < n → ∃ k, Least (fun k => ((ds[k]?.map tlen).getD 0 : Nat)) k n := by
              intro n
              induction n with
              | zero => intro z; omega
              | succ n ih =>
                intro _
                by_cases z : n = 0
                · subst z
                  exact ⟨0, Nat.one_pos, fun k hk => by
                    have : k = 0 := by omega
                    subst this
                    exact ⟨Int.le_refl _, fun z => by omega⟩⟩
                · obtain ⟨k, lk⟩ := ih (by omega)
                  by_cases c : (((ds[n]?.map tlen).getD 0 : Nat) : Int) < (((ds[k]?.map tlen).getD 0 : Nat) : Int)
                  · exact ⟨n, lk.yes c⟩
                  · exact ⟨k, lk.no c⟩
            exact key _ hpos
          have he := shortD_at ⟨_, e1⟩ hs k hk
          obtain ⟨b, rfl⟩ := tup k _ he
          have h1 := (lv.le (k + 1) (by simp; exact hk.lt)).1
          simp [he, tlen] at h1
          rw [if_pos (by simpa [notLonger] using h1)] at h
          simpa using h
        | succ i =>
          have hi : Least (fun k => ((ds[k]?.map tlen).getD 0 : Nat)) i ds.length := ⟨by have := lv.lt; simpa using this, fun k hk => by
            have := lv.le (k + 1) (by simpa using hk)
            simpa using this⟩
          have he := shortD_at ⟨_, e1⟩ hs i hi
          obtain ⟨b, rfl⟩ := tup i _ he
          have h1 := (lv.le 0 (by simp)).2 (by omega)
          simp [he, tlen] at h1
          rw [if_neg (by simpa [notLonger] using h1)] at h
          cases h
          simpa using he
/-- len of each tuple of a list -/
theorem turn_len {Z : Hp} (sz : Same Z H) {vs : List V} {ds : List PyData} {ls : List Nat} (hd : DDs X.K Z vs ds) (hl : lensD ds = some ls) : KeyTurn X pins σ H "len" vs (fun k => ((ds[k]?.map tlen).getD 0 : Nat)) := by
  intro i x u s Q E Iv hx rx q
  obtain ⟨d, e1, e2⟩ := dds_get' hd hx
  obtain ⟨b, rfl⟩ := lens_tup hl i d e1
  cases e2 with
  | @tup a ys _ hs hb =>
    cases (show u = Value.ref a from rx)
    obtain ⟨its, r', pl, hz⟩ := Iv.tuple (same_sqT sz hs)
    have hlen := r'.length
    have hb' := dds_len hb
    have hn := line63
    have hsl : sizeLine = 16777216 := sizeLine_eq
    refine len_tuple pl (by simp only [List.size_toArray]; omega) ?_
    have := q (s.toks + 1) s.heap (s.toks + 1 + 1) fun b o e => e
    have hv : (fun k => (((ds[k]?.map tlen).getD 0 : Nat) : Int)) i = (its.toArray.size : Int) := by
      show (((ds[i]?.map tlen).getD 0 : Nat) : Int) = _
      rw [e1]
      show ((b.length : Nat) : Int) = _
      rw [← hb', hlen, List.size_toArray]
    rw [hv] at this
    exact this
def tMinLen (K : PySem.W.Frag) (DDf : Hp → V → PyData → Prop) (tl : TE) : TE := fun σ H Q => tl σ H fun x H1 => ∃ (a : Addr) (vs : List V) (ds : List PyData) (ls : List Nat) (d : PyData) (Z : Hp), x = .ref a ∧ SqL K H1 a vs ∧ Same Z H1 ∧ Paired (DDf Z) vs ds ∧ lensD ds = some ls ∧ shortD ds = some d ∧ ∀ v, DDf Z v d → Q v H1
theorem dds_paired {K : PySem.W.Frag} {Z : Hp} : ∀ {vs : List V} {ds : List PyData}, DDs K Z vs ds → Paired (DD K Z) vs ds
  | _, _, .nil => .nil
  | _, _, .cons h t => .cons h (dds_paired t)
theorem paired_dds {K : PySem.W.Frag} {Z : Hp} : ∀ {vs : List V} {ds : List PyData}, Paired (DD K Z) vs ds → DDs K Z vs ds
  | _, _, .nil => .nil
  | _, _, .cons h t => .cons h (paired_dds t)
theorem pe_minLen {e : Expr} {tl : TE} {p lp kp pos : Pos} (hc : X.calm = true) (he : PE X e tl) (hm : X.mg "min" = none) (hml : X.mg "len" = none) (hg : Gl X "min" := by rfl) (hgl : Gl X "len" := by rfl)
    (h1 : backTo pos (starEach [e] X.env) = (false, eval e X.env) :: backTo pos (starEach [] X.env) := by rfl) (hs : starEach [e] X.env = (false, eval e X.env) :: starEach [] X.env := by rfl) (hpl : (backTo pos (starEach [e] X.env)).any (·.1) = false := by rfl) :
    PE X (.Call (.Name "min" p) [e] [⟨some "key", .Name "len" lp, kp⟩] pos) (tMinLen X.K (DD X.K) tl) := by
  refine ⟨fun pins s σ H Q I h => ?_⟩
  refine wpAny_Call_Name_kw (ld_blt (u := .builtin "min") I hg hm (by decide +kernel) ?_ (by decide) (by decide))
  have ha : PA X [e] (tCons tl tNil) := pa_cons he pa_nil hs
  refine PyProof.Rows.callWith_kw (thn (ha.run pos pins s σ H (fun xs H1 => match xs with
    | [x] => ∃ (a : Addr) (vs : List V) (ds : List PyData) (ls : List Nat) (d : PyData) (Z : Hp), x = .ref a ∧ SqL X.K H1 a vs ∧ Same Z H1 ∧ Paired (DD X.K Z) vs ds ∧ lensD ds = some ls ∧ shortD ds = some d ∧ ∀ v, DD X.K Z v d → Q v H1
    | _ => False) I h) fun us s1 ⟨vs0, H1, I1, r1, q1⟩ => ?_) h1 hpl rfl rfl
  match vs0, r1, q1 with
  | [x], r1, ⟨a, vs, ds, ls, d, Z, ex, hl, sz, hd, h3, h4, q⟩ =>
    subst ex
    obtain ⟨u, rfl, ru⟩ := vals1 r1
    cases (show u = Value.ref a from ru)
    show wpAny _ _ (evalAll ((do let v ← eval (.Name "len" lp) X.env; standAt pos; pure v) :: [])) _ _ s1
    refine wpAny_evalAll_cons (wpAny_bind (ld_blt (u := .builtin "len") I1 hgl hml (by decide +kernel) (wpAny_bind (wpAny_standAt (wpAny_pure (wpAny_evalAll_nil ?_)))) (by decide) (by decide)))
    have dd := paired_dds hd
    have hne : 0 < vs.length := by
      rw [dds_len dd]
      cases ds with
      | nil => cases h4
      | cons _ _ => simp
    refine min_call hc I1 hl hne (turn_len sz dd h3) fun i x u s' I2 hx rx lv => ?_
    obtain ⟨d', e1, e2⟩ := dds_get' dd hx
    rw [dds_len dd] at lv
    have := shortD_at ⟨ls, h3⟩ h4 i lv
    rw [e1] at this
    cases this
    exact ⟨x, H1, I2, rx, q x e2⟩
theorem pd_minLen {F : Fm} {e : Expr} {f : FD} {p lp kp pos : Pos} (hc : X.calm = true) (he : PD X F e f) (hm : X.mg "min" = none) (hml : X.mg "len" = none) (hg : Gl X "min" := by rfl) (hgl : Gl X "len" := by rfl)
    (h1 : backTo pos (starEach [e] X.env) = (false, eval e X.env) :: backTo pos (starEach [] X.env) := by rfl) (hs : starEach [e] X.env = (false, eval e X.env) :: starEach [] X.env := by rfl) (hpl : (backTo pos (starEach [e] X.env)).any (·.1) = false := by rfl) :
    PD X F (.Call (.Name "min" p) [e] [⟨some "key", .Name "len" lp, kp⟩] pos) (fMinLen f) := pe_imp (pe_minLen hc he hm hml hg hgl h1 hs hpl) fun σ H Q h => by
  obtain ⟨Z, env, d0, env', r, e, q⟩ := h
  obtain ⟨⟨x, e1⟩, h2, e⟩ := bnd e
  match x, h2, e with
  | .list ds, h2, e =>
    dsimp only at e
    obtain ⟨ls, h3, e⟩ := bnd e
    obtain ⟨d, h4, e⟩ := mpd e
    cases e
    refine ⟨Z, env, .list ds, _, r, h2, fun v Z1 H1 r1 s1 d1 => ?_⟩
    cases d1 with
    | @lst a vs _ hr hd => exact ⟨a, vs, ds, ls, d0, Z1, rfl, (same_ls r1.zh hr).sq, r1.zh, dds_paired hd, h3, h4, fun v hv => q v Z1 H1 r1 s1 hv⟩
end
/-- the world that the dicts' hashes are of -/
class LabV (w : World) : Prop where
  eq : LabW.w = some w
end DL
end L2

set_option Elab.async false
set_option maxRecDepth 100000
set_option maxHeartbeats 4000000
set_option autoImplicit false
namespace L2
namespace DL
open PySem PySem.Spec PyProof.Rows
variable [Lab]
section
variable {X : Cx}
/-! ### min of a list of ints -/
def minI : List Int → Option Int
  | [] => none
  | [x] => some x
  | x :: xs => (minI xs).map fun m => if x < m then x else m
theorem minI_is : ∀ {xs : List Int} {m : Int}, minI xs = some m → m ∈ xs ∧ ∀ y ∈ xs, m ≤ y
  | [], _, h => by cases h
  | [x], m, h => by
    cases h
    exact ⟨List.mem_cons_self, fun y hy => by cases List.mem_singleton.mp hy; exact Int.le_refl _⟩
  | x :: z :: xs, m, h => by
    obtain ⟨k, h1, h2⟩ := mpd h
    obtain ⟨a, b⟩ := minI_is h1
    subst h2
    by_cases c : x < k
    · rw [if_pos c]
      refine ⟨List.mem_cons_self, fun y hy => ?_⟩
      rcases List.mem_cons.mp hy with rfl | hy
      · exact Int.le_refl _
      · have := b y hy; omega
    · rw [if_neg c]
      refine ⟨List.mem_cons_of_mem _ a, fun y hy => ?_⟩
      rcases List.mem_cons.mp hy with rfl | hy
      · omega
      · exact b y hy
def minLD : List PyData → Option PyData
  | [.list ds] => (intsL ds).bind fun ns => (minI ns).map .int
  | _ => none
theorem cd_minL (hc : X.calm = true) : CallD X (.builtin "min") minLD := by
  intro pins s σ H xs us Q I r h
  obtain ⟨Z, ds, d, sz, hd, e, q⟩ := h
  match ds, hd, e with
  | [.list ds], hd, e =>
    obtain ⟨ns, e1, e⟩ := bnd e
    obtain ⟨m, e2, rfl⟩ := mpd e
    obtain ⟨v, rfl, h1⟩ := dds1 hd
    cases intsL_of e1
    cases h1 with
    | @lst a ys _ hr ha =>
      cases dds_intsV ha
      obtain ⟨hm1, hm2⟩ := minI_is e2
      refine cr_min hc pins s σ H _ us Q I r ⟨a, ns, rfl, (same_ls sz hr).sq, List.length_pos_of_mem hm1, fun m' k1 k2 => ?_⟩
      have : m' = m := Int.le_antisymm (k2 m hm1) (hm2 m' k1)
      subst this
      exact q _ Z H (Grow.refl sz) (.int _)
end
/-! ### a, b = a new list and data -/
section
variable {X : Cx} {F : Fm} {s : Stmt} {fn : DEnv → Option (List PyData × DEnv)} {f : DEnv → Option (PyData × DEnv)}
def sParND (i j : Nat) (fn : DEnv → Option (List PyData × DEnv)) (f : DEnv → Option (PyData × DEnv)) (env : DEnv) : Option DFlow := (fn env).bind fun x => (f x.2).map fun z => .nx ((z.2.set i (some (.ow x.1))).set j (some (.fr z.1)))
theorem ds_parND (i j : Nat) (hij : i ≠ j) (ha : PS X s (tPar i j (tCons (tDN X.K F fn) (tCons (tD X.K F f) tNil)))) : PDS X F s (sParND i j fn f) := ps_imp ha fun D σ H h => by
  obtain ⟨Z, env, fl, r, e, q⟩ := h
  obtain ⟨⟨d, e1⟩, h1, h⟩ := bnd e
  obtain ⟨⟨d3, e2⟩, h3, h⟩ := mpd h
  subst h
  refine ⟨Z, env, d, e1, r, h1, fun p xs Z1 H1 r1 s1 h0 hz hp dd => ⟨Z1, e1, d3, e2, r1, h3, fun v3 Z3 H3 r3 s3 dd3 => ⟨_, _, rfl, ?_⟩⟩⟩
  have fr1 : Fre σ e1 p := s1.fre (fre_new r h0)
  obtain ⟨hp3, zp3⟩ := stay_lst s3 fr1 hp hz
  have np : ¬ F.P p := fun z => (r.pp p z).1 h0
  have ng : F.G p = none := r.gh.free h0
  have ra := r3.storeN i (s3.fre fr1) np ng zp3 hp3 (DDsm dd s3.z)
  exact q _ Z3 H3 (ra.store j dd3) (s1.z.trans s3.z)
theorem ev_parND {i j : Nat} {env e1 e3 e4 : DEnv} {a : List PyData} {c : PyData} (h1 : fn env = some (a, e1)) (h3 : f e1 = some (c, e3)) (he : (e3.set i (some (.ow a))).set j (some (.fr c)) = e4) : sParND i j fn f env = some (.nx e4) := by
  unfold sParND; rw [h1]; show (f e1).map _ = _; rw [h3, ← he]; rfl
end
end DL
end L2

set_option Elab.async false
set_option maxRecDepth 100000
set_option maxHeartbeats 4000000
set_option autoImplicit false
namespace L2
namespace DL
open PySem PySem.Spec PyProof.Rows
variable [Lab]
/-! ### a call that reads an owned list and hands back data without lists: the list stays owned -/
mutual
def noL : PyData → Bool
  | .list _ => false
  | .dict _ => false
  | .tuple ds => noLs ds
  | _ => true
def noLs : List PyData → Bool
  | [] => true
  | d :: ds => noL d && noLs ds
end
/-- Z without the list at p -/
def offZ (Z : Hp) (p : Addr) : Hp := fun q => if q = p then none else Z q
theorem offZ_ne {Z : Hp} {p q : Addr} (h : q ≠ p) : offZ Z p q = Z q := if_neg h
theorem offZ_same (Z : Hp) (p : Addr) : offZ Z p p = none := if_pos rfl
mutual
theorem dd_off {K : PySem.W.Frag} {Z : Hp} {p : Addr} {xs : List V} (hp : Z p = some (.lst xs)) : ∀ (d : PyData) (v : V), noL d = true → DD K Z v d → DD K (offZ Z p) v d
  | .none, _, _, h => by cases h; exact .non
  | .bool _, _, _, h => by cases h; exact .bl _
  | .int _, _, _, h => by cases h; exact .int _
  | .str _, _, _, h => by cases h; exact .str _
  | .list _, _, n, _ => by cases n
  | .dict _, _, n, _ => by cases n
  | .tuple ds, _, n, h => by
    cases h with
    | tup hs hd =>
      refine .tup ?_ (dds_off hp ds _ n hd)
      rcases hs with h | h
      · refine .inl ?_
        rcases h with h | ⟨o, h⟩
        · exact .inl (by rw [offZ_ne (fun z => by rw [z, hp] at h; cases h)]; exact h)
        · exact .inr ⟨o, by rw [offZ_ne (fun z => by rw [z, hp] at h; cases h)]; exact h⟩
      · exact .inr h
theorem dds_off {K : PySem.W.Frag} {Z : Hp} {p : Addr} {xs : List V} (hp : Z p = some (.lst xs)) : ∀ (ds : List PyData) (vs : List V), noLs ds = true → DDs K Z vs ds → DDs K (offZ Z p) vs ds
  | [], _, _, h => by cases h; exact .nil
  | d :: ds, _, n, h => by
    obtain ⟨n1, n2⟩ := Bool.and_eq_true_iff.mp n
    cases h with
    | cons h1 h2 => exact .cons (dd_off hp d _ n1 h1) (dds_off hp ds _ n2 h2)
end
def rdR (i : Nat) (env : DEnv) : Option PyData := match env[i]? with
  | some (some (.fr d)) => some d
  | _ => none
/-- m(a, y, b), y an owned list -/
def fCH (i j l : Nat) (m : List PyData → Option PyData) (env : DEnv) : Option (PyData × DEnv) := (rdR i env).bind fun a => (rdW j env).bind fun es => (rdR l env).bind fun b => (m [a, .list es, b]).bind fun d => if noL d = true then some (d, env) else none
section
variable {X : Cx} {F : Fm} {k n : Nat} {f : Addr} {fd : FuncData} {ps : List Str} {x a y b : Str} {p pa py pb pos : Pos}
theorem pd_callH (i j l : Nat) {m : List PyData → Option PyData} (G : FnG X.prog X.w X.K X.mg X.base k f fd ps (spF X.K n m)) (hn : ∀ ds r, m ds = some r → ds.length = n) (hgd : GdOk X.A) (hr : Room k X.A) (hm : X.mg x = some (.ref f)) (hk : PySem.W.keepIn X.K (.ref f) = true) (hb : Binds X.K fd ps [])
    (hNa : X.N[i]? = some a := by rfl) (hva : Vis X.env.scope a := by first | exact Or.inl rfl | exact Or.inr (Or.inl rfl) | exact Or.inr (Or.inr rfl)) (hda : (a == ("__debug__" : Str)) = false := by decide) (hca : (a == ("__classdict__" : Str)) = false := by decide)
    (hNy : X.N[j]? = some y := by rfl) (hvy : Vis X.env.scope y := by first | exact Or.inl rfl | exact Or.inr (Or.inl rfl) | exact Or.inr (Or.inr rfl)) (hdy : (y == ("__debug__" : Str)) = false := by decide) (hcy : (y == ("__classdict__" : Str)) = false := by decide)
    (hNb : X.N[l]? = some b := by rfl) (hvb : Vis X.env.scope b := by first | exact Or.inl rfl | exact Or.inr (Or.inl rfl) | exact Or.inr (Or.inr rfl)) (hdb' : (b == ("__debug__" : Str)) = false := by decide) (hcb : (b == ("__classdict__" : Str)) = false := by decide)
    (hg : Gl X x := by rfl) (hdb : (x == ("__debug__" : Str)) = false := by decide)
    (he2 : starEach [.Name b pb] X.env = (false, eval (.Name b pb) X.env) :: starEach [] X.env := by rfl)
    (he1 : starEach [.Name y py, .Name b pb] X.env = (false, eval (.Name y py) X.env) :: starEach [.Name b pb] X.env := by rfl)
    (he : starEach [.Name a pa, .Name y py, .Name b pb] X.env = (false, eval (.Name a pa) X.env) :: starEach [.Name y py, .Name b pb] X.env := by rfl) (hpl : (backTo pos (starEach [.Name y py, .Name b pb] X.env)).any (·.1) = false := by rfl) :
    PD X F (.Call (.Name x p) [.Name a pa, .Name y py, .Name b pb] [] pos) (fCH i j l m) :=
  pe_imp (pe_gcall G hgd hr hm hk hb (pa_cons (pe_var hNa hva hda hca) (pa_cons (pe_var hNy hvy hdy hcy) (pa_cons (pe_var hNb hvb hdb' hcb) pa_nil he2) he1) he) hg hdb he hpl) fun σ H Q h => by
    obtain ⟨Z, env, d, env', r, e, q⟩ := h
    obtain ⟨d0, h0, e⟩ := bnd e
    obtain ⟨es, h1, e⟩ := bnd e
    obtain ⟨d2, h2, e⟩ := bnd e
    obtain ⟨r0, h3, e⟩ := bnd e
    split at e
    · rename_i hnl
      cases e
      unfold rdR at h0 h2
      unfold rdW at h1
      split at h0
      · rename_i a0 e0
        cases h0
        split at h1
        · rename_i a1 e1
          cases h1
          split at h2
          · rename_i a2 e2
            cases h2
            obtain ⟨v0, s0, dd0⟩ := r.sl i _ e0
            obtain ⟨q0, xs, s1, np, ng, zp, hp, dx⟩ := r.sl j _ e1
            obtain ⟨v2, s2, dd2⟩ := r.sl l _ e2
            have sm : Same Z (upd Z q0 (.lst xs)) := ⟨fun c o ec _ => by rw [upd_ne (fun z => by rw [z, zp] at ec; cases ec)]; exact ec, fun c hc => by
              by_cases z : c = q0
              · rw [z, upd_same]; simp
              · rw [upd_ne z]; exact hc⟩
            have sh : Same (upd Z q0 (.lst xs)) H := ⟨fun c o ec nt => by
              by_cases z : c = q0
              · rw [z, upd_same] at ec; cases ec; rw [z]; exact hp
              · rw [upd_ne z] at ec; exact r.zh.h c o ec nt, fun c hc => by
              by_cases z : c = q0
              · rw [z, hp]; simp
              · rw [upd_ne z] at hc; exact r.zh.k c hc⟩
            refine ⟨v0, s0, .ref q0, s1, v2, s2, ?_⟩
            refine ⟨by have := hn _ _ h3; exact this, upd Z q0 (.lst xs), [d0, .list es, d2], d, sh, r.tb, .cons (DDm dd0 sm) (.cons (.lst (.inl (.inl upd_same)) (DDsm dx sm)) (.cons (DDm dd2 sm) .nil)), h3, fun v Z' H' g dd => ?_⟩
            have zq : Z' q0 = some (.lst xs) := g.z.h q0 _ upd_same nt_lst
            have g' : Grow Z H (offZ Z' q0) H' := ⟨⟨fun c o ec nt => by
                have hc : c ≠ q0 := fun z => by rw [z, zp] at ec; cases ec
                rw [offZ_ne hc]
                exact g.z.h c o (by rw [upd_ne hc]; exact ec) nt, fun c hc => by
                have hcq : c ≠ q0 := fun z => hc (by rw [z]; exact zp)
                rw [offZ_ne hcq]
                exact g.z.k c (by rw [upd_ne hcq]; exact hc)⟩, ⟨fun c o ec nt => by
                have hc : c ≠ q0 := fun z => by rw [z, offZ_same] at ec; cases ec
                rw [offZ_ne hc] at ec
                exact g.zh.h c o ec nt, fun c hc => by
                have hcq : c ≠ q0 := fun z => hc (by rw [z]; exact offZ_same Z' q0)
                rw [offZ_ne hcq] at hc
                exact g.zh.k c hc⟩, g.h, g.t, fun c hc => by
                have hcq : c ≠ q0 := fun z => hc (by rw [z]; exact offZ_same Z' q0)
                rw [offZ_ne hcq] at hc
                rcases g.n c hc with z | z
                · rw [upd_ne hcq] at z; exact .inl z
                · exact .inr z⟩
            exact q v (offZ Z' q0) H' (r.grow g') g'.stp (dd_off zq _ v hnl dd)
          · cases h2
        · cases h1
      · cases h0
    · cases e
theorem ev_ch {i j l : Nat} {m : List PyData → Option PyData} {env : DEnv} {u w d : PyData} {es : List PyData} (h0 : rdR i env = some u) (h1 : rdW j env = some es) (h2 : rdR l env = some w) (h3 : m [u, .list es, w] = some d) (hn : noL d = true) : fCH i j l m env = some (d, env) := by
  unfold fCH; rw [h0]; show (rdW j env).bind _ = _; rw [h1]; show (rdR l env).bind _ = _; rw [h2]; show (m _).bind _ = _; rw [h3]; show (if noL d = true then _ else _) = _; rw [if_pos hn]
end
end DL
end L2

set_option Elab.async false
set_option maxRecDepth 100000
set_option maxHeartbeats 4000000
set_option autoImplicit false
namespace L2
namespace DL
open PySem PySem.Spec PyProof.Rows PySem.Calls
variable [Lab]
/-! ### a dict that a def owns: made by a display, asked, read, given new keys -/
theorem Rel.pokeG {K : PySem.W.Frag} {F : Fm} {Z H Z' H' : Hp} {σ : St} {env : DEnv} {j : Nat} {dv0 dv' : DV} {p : Addr} (r : Rel K F Z H σ env) (ej : env[j]? = some (some dv0)) (h0 : ownish dv0 = true) (sj : σ[j]? = some (some (V.ref p))) (gp : F.G p = none) (g : Pok Z H p Z' H') (hpn : H' p ≠ none) (h1 : ownish dv' = true) (slot : SlotOk K F Z' H' σ j dv') :
    Rel K F Z' H' σ (env.set j (some dv')) ∧ Stp σ env Z H (env.set j (some dv')) Z' H' := by
  have old : ∀ (i : Nat) (dv : DV), (env.set j (some dv'))[i]? = some (some dv) → ownish dv = true → ∃ d0, env[i]? = some (some d0) ∧ ownish d0 = true := fun i dv ei oi => by
    rcases get_set_some ei with ⟨rfl, ex⟩ | ⟨hne, ex⟩
    · exact ⟨_, ej, h0⟩
    · exact ⟨dv, ex, oi⟩
  refine ⟨⟨r.z0.trans g.z, g.zh, ⟨fun q o e n => g.h q o (fun z => by subst z; rw [gp] at e; cases e) (r.gh.h q o e n) n, fun q e => g.keep hpn (r.gh.k q e)⟩, fun q h => ?_, fun q hq => ?_, by rw [List.length_set]; exact r.len, fun i dv ei => ?_, fun i k di dk q ei ek oi ok si sk => ?_, g.t r.tb⟩, ⟨g.z, fun q o hq n f => ?_, fun q h1 h2 h3 f => ?_, fun i dv ei oi => old i dv ei oi, fun q hq => g.keep hpn hq⟩⟩
  · rcases g.n q h with h | h
    · exact r.nw q h
    · exact .inr ⟨r.gh.free h, fun z => (r.pp q z).1 h⟩
  · obtain ⟨a, b, d⟩ := r.pp q hq
    exact ⟨g.keep hpn a, g.keepn b a, d⟩
  · rcases get_set_some ei with ⟨rfl, ex⟩ | ⟨hne, ex⟩
    · cases ex
      exact slot
    · have s := r.sl i dv ex
      cases dv with
      | fr d => obtain ⟨v, a, b⟩ := s; exact ⟨v, a, DDm b g.z⟩
      | ow ds =>
        obtain ⟨p', ys, e1, e2, e3, e4, e5, e6⟩ := s
        have hn2 : p' ≠ p := fun z => hne (r.inj i j _ _ p ex ej rfl h0 (z ▸ e1) sj)
        exact ⟨p', ys, e1, e2, e3, g.keepn e4 (by rw [e5]; simp), g.h _ _ hn2 e5 nt_lst, DDsm e6 g.z⟩
      | rf ds =>
        obtain ⟨p', ys, e1, e2, e5, e6⟩ := s
        have hn2 : p' ≠ p := fun z => hne (r.inj i j _ _ p ex ej rfl h0 (z ▸ e1) sj)
        exact ⟨p', ys, e1, e2, g.h _ _ hn2 e5 nt_lst, DDsm e6 g.z⟩
      | dk ds =>
        obtain ⟨p', o', ys, e1, e2, e3, e4, e5, e6, e7⟩ := s
        have hn2 : p' ≠ p := fun z => hne (r.inj i j _ _ p ex ej rfl h0 (z ▸ e1) sj)
        exact ⟨p', o', ys, e1, e2, e3, g.keepn e4 (by rw [e5]; simp), g.h _ _ hn2 e5 nt_exo, e6, ddk_mono g.z _ _ e7⟩
  · obtain ⟨d1, a1, b1⟩ := old i di ei oi
    obtain ⟨d2, a2, b2⟩ := old k dk ek ok
    exact r.inj i k d1 d2 q a1 a2 b1 b2 si sk
  · exact g.h q o (fun z => f j _ ej h0 (by rw [z]; exact sj)) hq n
  · rcases g.n q h1 with h | h
    · exact h h2
    · exact h3 h
theorem Rel.storeK {K : PySem.W.Frag} {F : Fm} {Z H : Hp} {σ : St} {env : DEnv} {p : Addr} {o : Obj} {xs : List NEnt} {kvs : List (PyData × PyData)} (r : Rel K F Z H σ env) (i : Nat) (f : Fre σ env p) (np : ¬ F.P p) (ng : F.G p = none) (hz : Z p = none) (hp : H p = some (DnO p o)) (hf : DnF LabW.w p o xs) (hd : DDk K Z xs kvs) :
    Rel K F Z H (σ.set i (some (.ref p))) (env.set i (some (.dk kvs))) :=
  r.put i _ _ (fun dv e hl => by cases e; exact ⟨p, o, xs, List.getElem?_set_self hl, np, ng, hz, hp, hf, hd⟩) (fun dv q e o ex => by cases ex; exact f)
theorem stay_dk {σ : St} {env env' : DEnv} {Z H Z' H' : Hp} {p : Addr} {o : Obj} (b : Stp σ env Z H env' Z' H') (f : Fre σ env p) (hp : H p = some (DnO p o)) (hz : Z p = none) : H' p = some (DnO p o) ∧ Z' p = none := by
  refine ⟨b.h p _ hp nt_exo f, ?_⟩
  cases hh : Z' p with
  | none => rfl
  | some o => exact absurd f (b.n p (by rw [hh]; simp) hz (by rw [hp]; simp))
/-- a display whose dict is handed on unfrozen -/
def tDK (K : PySem.W.Frag) (F : Fm) (f : DEnv → Option (List (PyData × PyData) × DEnv)) : TE := fun σ H Q => ∃ Z env kvs env', Rel K F Z H σ env ∧ f env = some (kvs, env') ∧
  ∀ p o xs Z' H', Rel K F Z' H' σ env' → Stp σ env Z H env' Z' H' → H p = none → Z' p = none → H' p = some (DnO p o) → DnF LabW.w p o xs → DDk K Z' xs kvs → Q (.ref p) H'
def fDictK (fs : List (FD × FD)) (env : DEnv) : Option (List (PyData × PyData) × DEnv) := (fPrs fs env).bind fun x => (kysOf x.1).bind fun ks => if ks.Nodup then some x else none
theorem pk_dispN {X : Cx} {F : Fm} {pos : Pos} {keys : List (Option Expr)} {values : List Expr} {fs : List (FD × FD)} (hw : LabW.w = some X.w) {j : Nat} (hr : Room j X.A) (h : PPs X pos keys values (trsD X.K F fs)) (hall : keys.all (·.isSome) = true) (hl : keys.length = values.length) (h0 : keys ≠ [])
    (h15 : keys.length ≤ 15) : PE X (.Dict keys values pos) (tDK X.K F (fDictK fs)) := pe_imp (pe_dispN hw hr h hall hl h0 h15) fun σ H Q h => by
  obtain ⟨Z, env, d, env', r, e, q⟩ := h
  unfold fDictK at e
  obtain ⟨⟨kvs, e1⟩, h1, e⟩ := bnd e
  obtain ⟨ks, h2, e⟩ := bnd e
  by_cases nd : ks.Nodup
  · rw [if_pos nd] at e
    cases e
    intro p hp
    have gr := grow_own r.zh hp (.dK [])
    have ng : F.G p = none := r.gh.free hp
    have np : ¬ F.P p := fun z => (r.pp p z).1 hp
    have fr := fre_new r hp
    refine prs_read fs (r.grow gr) h1 fun ps Z1 H1 r1 s1 dp => ?_
    have e1 : H1 p = some (.dK []) := s1.h p _ upd_same nt_dK fr
    have hz : Z p = none := r.zh.free hp
    have hz1 : Z1 p = none := by
      cases hh : Z1 p with
      | none => rfl
      | some o => exact absurd fr (s1.n p (by rw [hh]; simp) hz (by rw [upd_same]; simp))
    obtain ⟨xs, ep, dk, hk, hdp⟩ := ents_mk dp h2
    refine ⟨e1, xs, Z1, ep, r1.zh, fun x hx => ⟨(ddk_get dk x hx).1, hdp x hx⟩, by rw [hk]; exact nd, fun o hf => ?_⟩
    have st := gr.stp (σ := σ) (env := env) |>.trans s1
    refine q p o xs Z1 (upd H1 p (DnO p o)) ⟨r1.z0, ⟨fun b x a n => ?_, fun b a => ?_⟩, ⟨fun b x a n => ?_, fun b a => ?_⟩, r1.nw, fun b hb => ?_, r1.len, fun i dv ei => ?_, r1.inj, TB.nk r1.tb e1 _⟩ ⟨st.z, fun b x a n f => ?_, fun b a c d f => ?_, st.o, fun b a => ?_⟩ hp hz1 upd_same hf dk
    · have : b ≠ p := fun z => by rw [z, hz1] at a; cases a
      rw [upd_ne this]; exact r1.zh.h b x a n
    · by_cases z : b = p
      · rw [z, upd_same]; simp
      · rw [upd_ne z]; exact r1.zh.k b a
    · have : b ≠ p := fun z => by rw [z, ng] at a; cases a
      rw [upd_ne this]; exact r1.gh.h b x a n
    · by_cases z : b = p
      · rw [z, upd_same]; simp
      · rw [upd_ne z]; exact r1.gh.k b a
    · have : b ≠ p := fun z => np (z ▸ hb)
      rw [upd_ne this]
      exact r1.pp b hb
    · have sl := r1.sl i dv ei
      cases dv with
      | fr d =>
        obtain ⟨v, a1, a2⟩ := sl
        exact ⟨v, a1, a2⟩
      | ow ds =>
        obtain ⟨p', xs', a1, a2, a3, a4, a5, a6⟩ := sl
        have : p' ≠ p := fun z => by rw [z, e1] at a5; cases a5
        exact ⟨p', xs', a1, a2, a3, a4, by rw [upd_ne this]; exact a5, a6⟩
      | rf ds =>
        obtain ⟨p', xs', a1, a2, a5, a6⟩ := sl
        have : p' ≠ p := fun z => by rw [z, e1] at a5; cases a5
        exact ⟨p', xs', a1, a2, by rw [upd_ne this]; exact a5, a6⟩
      | dk ds =>
        obtain ⟨p', o', xs', a1, a2, a3, a4, a5, a6, a7⟩ := sl
        have : p' ≠ p := fun z => by rw [z, e1] at a5; cases (Option.some.inj a5)
        exact ⟨p', o', xs', a1, a2, a3, a4, by rw [upd_ne this]; exact a5, a6, a7⟩
    · have : b ≠ p := fun z => by rw [z, hp] at a; cases a
      rw [upd_ne this]; exact st.h b x a n f
    · exact st.n b a c d f
    · by_cases z : b = p
      · rw [z, upd_same]; simp
      · rw [upd_ne z]; exact st.k b a
  · rw [if_neg nd] at e; cases e
/-! ### a, b, c = a new dict, a new list, data -/
section
variable {X : Cx} {F : Fm} {s : Stmt} {fk : DEnv → Option (List (PyData × PyData) × DEnv)} {gn : DEnv → Option (List PyData × DEnv)} {f : DEnv → Option (PyData × DEnv)}
def sPar3K (i j l : Nat) (fk : DEnv → Option (List (PyData × PyData) × DEnv)) (gn : DEnv → Option (List PyData × DEnv)) (f : DEnv → Option (PyData × DEnv)) (env : DEnv) : Option DFlow := (fk env).bind fun x => (gn x.2).bind fun y => (f y.2).map fun z => .nx (((z.2.set i (some (.dk x.1))).set j (some (.ow y.1))).set l (some (.fr z.1)))
theorem ds_par3K (i j l : Nat) (hij : i ≠ j) (hil : i ≠ l) (hjl : j ≠ l) (ha : PS X s (tPar3 i j l (tCons (tDK X.K F fk) (tCons (tDN X.K F gn) (tCons (tD X.K F f) tNil))))) : PDS X F s (sPar3K i j l fk gn f) := ps_imp ha fun D σ H h => by
  obtain ⟨Z, env, fl, r, e, q⟩ := h
  obtain ⟨⟨d, e1⟩, h1, h⟩ := bnd e
  obtain ⟨⟨d2, e2⟩, h2, h⟩ := bnd h
  obtain ⟨⟨d3, e3⟩, h3, h⟩ := mpd h
  subst h
  refine ⟨Z, env, d, e1, r, h1, fun p o xs Z1 H1 r1 s1 h0 hz hp hf dd => ⟨Z1, e1, d2, e2, r1, h2, fun p2 xs2 Z2 H2 r2 s2 h02 hz2 hp2 dd2 => ⟨Z2, e2, d3, e3, r2, h3, fun v3 Z3 H3 r3 s3 dd3 => ⟨_, _, _, rfl, ?_⟩⟩⟩⟩
  have fr1 : Fre σ e1 p := s1.fre (fre_new r h0)
  have fr2 : Fre σ e2 p2 := s2.fre (fre_new r1 h02)
  obtain ⟨hp', zp'⟩ := stay_dk s2 fr1 hp hz
  obtain ⟨hp3, zp3⟩ := stay_dk s3 (s2.fre fr1) hp' zp'
  obtain ⟨hq3, zq3⟩ := stay_lst s3 fr2 hp2 hz2
  have np : ¬ F.P p := fun z => (r.pp p z).1 h0
  have ng : F.G p = none := r.gh.free h0
  have np2 : ¬ F.P p2 := fun z => (r1.pp p2 z).1 h02
  have ng2 : F.G p2 = none := r1.gh.free h02
  have hpp : p2 ≠ p := fun z => by rw [z, hp] at h02; cases h02
  have ra := r3.storeK i (s3.fre (s2.fre fr1)) np ng zp3 hp3 hf (ddk_mono (s2.z.trans s3.z) _ _ dd)
  have rb := ra.storeN j (p := p2) (xs := xs2) (ds := d2) (fun k dv ek ok sk => by
    rcases get_set_some ek with ⟨rfl, ex⟩ | ⟨hne, ex⟩
    · rcases set_get_some sk with ⟨_, sx⟩ | ⟨hh, _⟩
      · cases sx; exact hpp rfl
      · exact hh rfl
    · rw [List.getElem?_set_ne (fun z => hne z.symm)] at sk
      exact (s3.fre fr2) k dv ex ok sk) np2 ng2 zq3 hq3 (DDsm dd2 s3.z)
  exact q _ Z3 H3 (rb.store l dd3) ((s1.z.trans s2.z).trans s3.z)
theorem ev_par3K {i j l : Nat} {env e1 e2 e3 e4 : DEnv} {a : List (PyData × PyData)} {b : List PyData} {c : PyData} (h1 : fk env = some (a, e1)) (h2 : gn e1 = some (b, e2)) (h3 : f e2 = some (c, e3)) (he : ((e3.set i (some (.dk a))).set j (some (.ow b))).set l (some (.fr c)) = e4) : sPar3K i j l fk gn f env = some (.nx e4) := by
  unfold sPar3K; rw [h1]; show (gn e1).bind _ = _; rw [h2]; show (f e2).map _ = _; rw [h3, ← he]; rfl
end
/-! ### asked: k in d, len(d) -/
theorem look_at {K : PySem.W.Frag} {Z : Hp} {k : NestedKey} : ∀ {xs : List NEnt} {kvs : List (PyData × PyData)} {ys : List (NestedKey × Addr × Value)}, DDk K Z xs kvs → Paired (fun (x : NEnt) (y : NestedKey × Addr × Value) => x.1 = y.1 ∧ x.2.1 = y.2.1 ∧ RelV x.2.2 y.2.2) xs ys → (atKey ys k).isSome = (lookN k kvs).isSome
  | _, _, _, .nil, .nil => rfl
  | _, _, _, .cons (k := k0) (kd := kd) (vd := vd) h0 h1 h2 t, .cons (b := y) r tr => by
    have ih := look_at (k := k) t tr
    rw [lookN]
    by_cases z : nkOf kd = some k
    · rw [if_pos z]
      rw [← h0, nk_of] at z
      have : y.1 = k := r.1.symm.trans (Option.some.inj z)
      simp [atKey, this]
    · rw [if_neg z, ← ih]
      have : ¬ y.1 = k := fun e => z (by rw [← h0, nk_of, ← e]; exact congrArg some r.1)
      simp [atKey, this]
def inKB (d c : PyData) : Option Bool := match c with
  | .dict (kv :: kvs) => (nkOf d).bind fun k => match k with
    | .tup ks => if (NestedKey.tup ks).depth ≤ 8 then some (lookN (.tup ks) (kv :: kvs)).isSome else none
    | _ => none
  | _ => none
def inKD (d c : PyData) : Option PyData := (inKB d c).map .bool
def notInKD (d c : PyData) : Option PyData := (inKB d c).map fun k => .bool (!k)
theorem inKD_scal (a b d : PyData) (h : inKD a b = some d) : scalD d = true := by obtain ⟨k, _, rfl⟩ := mpd h; rfl
theorem notInKD_scal (a b d : PyData) (h : notInKD a b = some d) : scalD d = true := by obtain ⟨k, _, rfl⟩ := mpd h; rfl
theorem inKD_b : IsB inKD := fun a b d h => by obtain ⟨k, _, rfl⟩ := mpd h; exact ⟨_, rfl⟩
theorem notInKD_b : IsB notInKD := fun a b d h => by obtain ⟨k, _, rfl⟩ := mpd h; exact ⟨_, rfl⟩
theorem in_keys {X : Cx} (hw : LabW.w = some X.w) {pins : List (Addr × Obj)} {s : Shared} {σ : St} {H Z : Hp} {x y : V} {v u : Value} {a b : PyData} {k : Bool} (I : Inv X pins σ H s) (rx : RelV x v) (ry : RelV y u) (sz : Same Z H) (ha : DD X.K Z x a) (hb : DD X.K Z y b) (e : inKB a b = some k) :
    ∃ (a0 d0 : Addr) (kk : NestedKey) (ys : List (NestedKey × Addr × Value)), v = .ref a0 ∧ u = .ref d0 ∧ (nestedKind X.prog X.w).is s.heap kk a0 ∧ (d0 == sysModules) = false ∧ s.heap.DictOfH (nestedKind X.prog X.w) d0 ys ∧ (atKey ys kk).isSome = k := by
  match b, hb, e with
  | .dict (kv :: kvs), hb, e =>
    obtain ⟨k1, e1, e2⟩ := bnd e
    match k1, e1, e2 with
    | .tup ks, e1, e2 =>
      dsimp only at e2
      by_cases hdp : (NestedKey.tup ks).depth ≤ 8
      · rw [if_pos hdp] at e2
        cases e2
        have hk := nk_data _ _ e1
        subst hk
        cases hb with
        | @dcn p o xs _ hp hf hd =>
          cases (show u = Value.ref p from ry)
          obtain ⟨ys, D, r⟩ := dn_of hw I sz (sz.h _ _ hp nt_exo) hf hd
          have hb' : ∃ b0, x = .ref b0 := by
            rw [NestedKey.data] at ha
            cases ha; exact ⟨_, rfl⟩
          obtain ⟨b0, rfl⟩ := hb'
          cases (show v = Value.ref b0 from rx)
          have hkey := dd_nk I sz _ _ _ ha (show RelV (.ref b0) (Value.ref b0) from rfl)
          exact ⟨b0, p, .tup ks, ys, rfl, rfl, ⟨hkey, hdp⟩, hf.hd, D, look_at hd r⟩
      · rw [if_neg hdp] at e2; cases e2
theorem od_inK {X : Cx} (hw : LabW.w = some X.w) {j : Nat} (hr : Room j X.A) : OpD X (compareOp .In) inKD := by
  intro pins s σ H x y v u Q I rx ry h
  obtain ⟨Z, a, b, d, sz, ha, hb, e, q⟩ := h
  obtain ⟨k, ek, rfl⟩ := mpd e
  obtain ⟨a0, d0, kk, ys, rfl, rfl, hk, hd, D, rfl⟩ := in_keys hw I rx ry sz ha hb ek
  exact wpAny_in_heap (knd := nestedKind X.prog X.w) (by show X.A.units + 1 + 8 < cLine; have := hr.un; omega) hk hd D ⟨.bl _, H, I.tok _, rfl, q _ Z H (Grow.refl sz) (.bl _)⟩
theorem od_notInK {X : Cx} (hw : LabW.w = some X.w) {j : Nat} (hr : Room j X.A) : OpD X (compareOp .NotIn) notInKD := by
  intro pins s σ H x y v u Q I rx ry h
  obtain ⟨Z, a, b, d, sz, ha, hb, e, q⟩ := h
  obtain ⟨k, ek, rfl⟩ := mpd e
  obtain ⟨a0, d0, kk, ys, rfl, rfl, hk, hd, D, rfl⟩ := in_keys hw I rx ry sz ha hb ek
  show wpAny _ _ (do return Value.bool (!(← PySem.contains (.ref d0) (.ref a0)))) _ _ s
  exact wpAny_bind (wpAny_contains_heap (knd := nestedKind X.prog X.w) (by show X.A.units + 1 + 8 < cLine; have := hr.un; omega) hk hd D (wpAny_pure ⟨.bl _, H, I.tok _, rfl, q _ Z H (Grow.refl sz) (.bl _)⟩))
def lenKD : List PyData → Option PyData
  | [.dict (kv :: kvs)] => if kvs.length ≤ lim then some (.int ((kv :: kvs).length : Nat)) else none
  | _ => none
theorem cd_lenK {X : Cx} (hw : LabW.w = some X.w) : CallD X (.builtin "len") lenKD := by
  intro pins s σ H xs us Q I r h
  obtain ⟨Z, ds, d, sz, hd, e, q⟩ := h
  match ds, hd, e with
  | [.dict (kv :: kvs)], hd, e =>
    change (if kvs.length ≤ lim then some (PyData.int ((kv :: kvs).length : Nat)) else none) = some d at e
    split at e
    case isFalse => cases e
    rename_i hl
    cases e
    obtain ⟨v, rfl, h1⟩ := dds1 hd
    cases h1 with
    | @dcn p o ys _ hp hf hk =>
      obtain ⟨u, rfl, rx⟩ := vals1 r
      obtain rfl : u = Value.ref p := rx
      obtain ⟨zs, D, rr⟩ := dn_of hw I sz (sz.h _ _ hp nt_exo) hf hk
      have l1 : zs.length = (kv :: kvs).length := by rw [← rr.length, ddk_len hk]
      have l2 : (kv :: kvs).length = kvs.length + 1 := rfl
      have l3 : lim = 100000 := rfl
      refine call_len_dictH (knd := nestedKind X.prog X.w) hf.hd D (by rw [l1, l2]; have : ((kvs.length + 1 : Nat) : Int) ≤ 100001 := by omega
                                                                       omega) ?_
      rw [l1]
      exact ⟨.int _, H, I.tok _, ⟨_, rfl⟩, q _ Z H (Grow.refl sz) (.int _)⟩
/-! ### read: d[k] -/
def rdK (j : Nat) (env : DEnv) : Option (List (PyData × PyData)) := match env[j]? with
  | some (some (.dk kvs)) => some kvs
  | _ => none
theorem rdK_eq {j : Nat} {env : DEnv} {kvs : List (PyData × PyData)} (h : rdK j env = some kvs) : env[j]? = some (some (.dk kvs)) := by
  unfold rdK at h
  split at h
  · rename_i e; cases h; exact e
  · cases h
def rIxO (K : PySem.W.Frag) (wl : Option World) (DDf : Hp → V → PyData → Prop) (DKf : Hp → List NEnt → List (PyData × PyData) → Prop) : R2 := fun x y H Q => ∃ (Z : Hp) (p : Addr) (o : Obj) (xs : List NEnt) (kvs : List (PyData × PyData)) (b d : PyData), Same Z H ∧ x = .ref p ∧ H p = some (DnO p o) ∧ DnF wl p o xs ∧ DKf Z xs kvs ∧ DDf Z y b ∧ ixK (.dict kvs) b = some d ∧ ∀ v, DDf Z v d → Q v H
theorem id_ixO {X : Cx} (hw : LabW.w = some X.w) {j : Nat} (hr : Room j X.A) : IxR X (rIxO X.K LabW.w (DD X.K) (DDk X.K)) := by
  intro value slice pins s σ H x y v u Q I rx ry h hs
  obtain ⟨Z, p, o, xs, kvs, b, d, sz, rfl, hp, hf, hd, hb, e, q⟩ := h
  obtain ⟨k, e1, e2⟩ := bnd e
  match k, e1, e2 with
  | .tup ks, e1, e2 =>
    dsimp only at e2
    by_cases hdp : (NestedKey.tup ks).depth ≤ 8
    · rw [if_pos hdp] at e2
      have hk := nk_data _ _ e1
      subst hk
      cases (show v = Value.ref p from rx)
      obtain ⟨ys, D, r⟩ := dn_of hw I sz hp hf hd
      obtain ⟨pr, v', f1, f2, f3⟩ := look_get hd r e2
      have hb' : ∃ b0, y = .ref b0 := by
        rw [NestedKey.data] at hb
        cases hb; exact ⟨_, rfl⟩
      obtain ⟨b0, rfl⟩ := hb'
      cases (show u = Value.ref b0 from ry)
      have hkey := dd_nk I sz _ _ _ hb (show RelV (.ref b0) (Value.ref b0) from rfl)
      refine tail_any D.typeIs slot_dict_getitem.lookup (wpAny_getItem_heap (knd := nestedKind X.prog X.w) (by show X.A.units + 1 + 8 < cLine; have := hr.un; omega) ⟨hkey, hdp⟩ D f1 ⟨v', H, I.tok _, f2, q v' f3⟩) hs
    · rw [if_neg hdp] at e2; cases e2
def fIxO (j : Nat) (f : DEnv → Option (PyData × DEnv)) (env : DEnv) : Option (PyData × DEnv) := (rdK j env).bind fun _ => (f env).bind fun x => (rdK j x.2).bind fun kvs => (ixK (.dict kvs) x.1).map fun z => (z, x.2)
theorem pd_ixO {X : Cx} {F : Fm} {b : Expr} {f : DEnv → Option (PyData × DEnv)} {y : Str} {pn pos : Pos} (hw : LabW.w = some X.w) {k : Nat} (hr : Room k X.A) (j : Nat) (hb : PD X F b f) (hN : X.N[j]? = some y := by rfl) (hv : Vis X.env.scope y := by first | exact Or.inl rfl | exact Or.inr (Or.inl rfl) | exact Or.inr (Or.inr rfl)) (hd : (y == ("__debug__" : Str)) = false := by decide)
    (hcd : (y == ("__classdict__" : Str)) = false := by decide) (hs : PlainIx b := by exact fun _ _ => rfl) : PD X F (.Subscript (.Name y pn) b pos) (fIxO j f) :=
  pe_imp (pe_ix (id_ixO hw hr) (pe_var hN hv hd hcd) hb hs) fun σ H Q h => by
    obtain ⟨Z, env, d, env', r, e, q⟩ := h
    obtain ⟨kv0, h0, e⟩ := bnd e
    obtain ⟨⟨i, e1⟩, h1, e⟩ := bnd e
    obtain ⟨kvs, h2, e⟩ := bnd e
    obtain ⟨z, h3, e⟩ := mpd e
    cases e
    obtain ⟨p, o, xs, sj, _⟩ := r.sl j _ (rdK_eq h0)
    refine ⟨.ref p, sj, Z, env, i, e1, r, h1, fun w Z1 H1 r1 s1 dw => ?_⟩
    obtain ⟨p', o', xs', sj', _, _, _, hp, hf, hk⟩ := r1.sl j _ (rdK_eq h2)
    rw [sj] at sj'
    cases sj'
    exact ⟨Z1, p, o', xs', kvs, i, d, r1.zh, rfl, hp, hf, hk, dw, h3, fun v dv => q v Z1 H1 r1 s1 dv⟩
/-! ### d[k] = e, k a new key -/
omit [Lab] in
theorem paired_snoc {α β : Type} {R : α → β → Prop} {x : α} {y : β} (h : R x y) : ∀ {xs : List α} {ys : List β}, Paired R xs ys → Paired R (xs ++ [x]) (ys ++ [y])
  | _, _, .nil => .cons h .nil
  | _, _, .cons a t => .cons a (paired_snoc h t)
theorem ddk_snoc {K : PySem.W.Frag} {Z : Hp} {k : NestedKey} {a : Addr} {v : V} {kd vd : PyData} (h0 : k.data = kd) (h1 : DD K Z (.ref a) kd) (h2 : DD K Z v vd) : ∀ {xs : List NEnt} {kvs : List (PyData × PyData)}, DDk K Z xs kvs → DDk K Z (xs ++ [(k, a, v)]) (kvs ++ [(kd, vd)])
  | _, _, .nil => .cons h0 h1 h2 .nil
  | _, _, .cons a b c t => .cons a b c (ddk_snoc h0 h1 h2 t)
def putN (kd vd : PyData) (kvs : List (PyData × PyData)) : Option (List (PyData × PyData)) := (nkOf kd).bind fun k => match k with
  | .tup ks => if (NestedKey.tup ks).depth ≤ 8 ∧ (lookN (.tup ks) kvs).isNone = true ∧ kvs.length ≤ lim then some (kvs ++ [(kd, vd)]) else none
  | _ => none
def tPutN (wl : Option World) (TBf : Hp → Prop) (DDf : Hp → V → PyData → Prop) (DKf : Hp → List NEnt → List (PyData × PyData) → Prop) : TSet := fun o i v H Q => ∃ (Z : Hp) (p : Addr) (ob : Obj) (xs : List NEnt) (kvs : List (PyData × PyData)) (ks : List NestedKey) (vd : PyData), o = .ref p ∧ Same Z H ∧ H p = some (DnO p ob) ∧ DnF wl p ob xs ∧ DKf Z xs kvs ∧
  DDf Z i (NestedKey.tup ks).data ∧ (NestedKey.tup ks).depth ≤ 8 ∧ (lookN (.tup ks) kvs).isNone = true ∧ kvs.length ≤ lim ∧ DDf Z v vd ∧ ∀ (a : Addr) (ob' : Obj), i = .ref a → (TBf H → TBf (upd H p (DnO p ob'))) → DnF wl p ob' (xs ++ [(.tup ks, a, v)]) → Q (upd H p (DnO p ob'))
theorem pset_N {X : Cx} (hw : LabW.w = some X.w) {j : Nat} (hr : Room j X.A) : PSet X (tPutN LabW.w TB (DD X.K) (DDk X.K)) := by
  intro pins s σ H o i v ov iv u Q I ro ri rv h
  obtain ⟨Z, p, ob, xs, kvs, ks, vd, rfl, sz, hp, hf, hk, hi, hdp, hnn, hlen, hv, q⟩ := h
  cases (show ov = Value.ref p from ro)
  obtain ⟨ys, D, r⟩ := dn_of hw I sz hp hf hk
  have hb' : ∃ b0, i = .ref b0 := by
    have hi2 := hi
    rw [NestedKey.data] at hi2
    cases hi2; exact ⟨_, rfl⟩
  obtain ⟨b0, rfl⟩ := hb'
  cases (show iv = Value.ref b0 from ri)
  have hkey := dd_nk I sz _ _ _ hi (show RelV (.ref b0) (Value.ref b0) from rfl)
  have hno : atKey ys (NestedKey.tup ks) = none := by
    have := look_at (k := .tup ks) hk r
    rw [Option.isNone_iff_eq_none] at hnn
    rw [hnn] at this
    exact Option.not_isSome_iff_eq_none.mp (by rw [this]; decide)
  have l1 : ys.length = kvs.length := by rw [← r.length, ddk_len hk]
  refine wpAny_setItem_heap (knd := nestedKind X.prog X.w) (hsz := by rw [l1]; exact Nat.le_trans hlen lim_le) (by show X.A.units + 1 + 8 < cLine; have := hr.un; omega) ⟨hkey, hdp⟩ D fun h' D' hs => ?_
  rw [PySem.storedH_new hno] at D'
  obtain ⟨o', es, ep, ho, hc, hdat, he, his, hnd⟩ := D'
  have r' := paired_snoc (x := ((NestedKey.tup ks, b0, v) : NEnt)) (y := (NestedKey.tup ks, b0, u)) ⟨rfl, rfl, rv⟩ r
  have hf' : DnF LabW.w p o' (xs ++ [(.tup ks, b0, v)]) := ⟨hf.hd, by rw [prs_keys r']; exact hnd, hc, ⟨X.w, es, ep, hw, hdat, by rw [he]; exact ents_back r'⟩, fun x hx => by
    rcases List.mem_append.mp hx with z | z
    · exact hf.dp x z
    · cases List.mem_singleton.mp z; exact hdp⟩
  obtain ⟨g0, _⟩ := (show ObjOk X.prog X.w H s.heap p (DnO p ob) from I.hok p _ hp)
  have tb : TB H → TB (upd H p (DnO p o')) := fun t qq hq => by
    obtain ⟨ps, a, b, c⟩ := t qq hq
    refine ⟨ps, ?_, b, fun pos cv e => ?_⟩
    · rw [upd_ne (fun z => by rw [z, hp] at a; cases (Option.some.inj a))]; exact a
    · obtain ⟨c0, e1, e2⟩ := c pos cv e
      refine ⟨c0, e1, ?_⟩
      rw [upd_ne (fun z => ?_)]
      · exact e2
      · obtain ⟨⟨oc, vs, t', k1, k2, _⟩, _⟩ := (show ObjOk X.prog X.w H s.heap c0 (LamX.CodeO c0 qq.2) from I.hok c0 _ e2)
        rw [z, g0] at k1
        cases k1
        obtain ⟨_, es0, ep0, _, hd0, _⟩ := hf.es
        rw [hd0] at k2
        cases k2
  refine ⟨upd H p (DnO p o'), d_write I (by rw [hp]; exact True.intro) hs ⟨o', ho⟩ ⟨ho, ⟨o', ho⟩, fun h1 h2 e1 e2 => e2 _ e1⟩, q b0 o' rfl tb hf'⟩
def sPutN (j : Nat) (g f : DEnv → Option (PyData × DEnv)) (env : DEnv) : Option DFlow := (f env).bind fun x => (rdK j x.2).bind fun _ => (g x.2).bind fun y => (rdK j y.2).bind fun kvs => (putN y.1 x.1 kvs).map fun kvs' => .nx (y.2.set j (some (.dk kvs')))
theorem pok_updK {Z H : Hp} (s : Same Z H) {p : Addr} (hz : Z p = none) {o : HO} (t : TB H → TB (upd H p o)) : Pok Z H p Z (upd H p o) :=
  ⟨Same.refl Z, ⟨fun b x e n => by rw [upd_ne (ne_of_none e hz)]; exact s.h b x e n, fun b e => by
    by_cases hb : b = p
    · subst hb; rw [upd_same]; simp
    · rw [upd_ne hb]; exact s.k b e⟩, fun q o' hq e _ => by rw [upd_ne hq]; exact e, fun q hq e => by rw [upd_ne hq]; exact e, t, fun _ h => .inl h⟩
theorem ds_putN {X : Cx} {F : Fm} {b e : Expr} {g f : DEnv → Option (PyData × DEnv)} {y : Str} {pn pt pos : Pos} (hw : LabW.w = some X.w) {k : Nat} (hr : Room k X.A) (j : Nat) (hb : PD X F b g) (he : PD X F e f) (hN : X.N[j]? = some y := by rfl) (hv : Vis X.env.scope y := by first | exact Or.inl rfl | exact Or.inr (Or.inl rfl) | exact Or.inr (Or.inr rfl)) (hd : (y == ("__debug__" : Str)) = false := by decide)
    (hcd : (y == ("__classdict__" : Str)) = false := by decide) (ha : ∀ v, assign (.Subscript (.Name y pn) b pt) X.env v = (do
      let ov ← holding [v] (eval (.Name y pn) X.env)
      let iv ← holding [v, ov] (eval b X.env)
      standAt pt
      holding [v, ov, iv] (setItem ov iv v)
      release [v, ov, iv] []) := by intro _; rfl) (hs : swapsWithSole [.Subscript (.Name y pn) b pt] e pos.line X.env = pure false := by rfl) (hsw : swappedStores [.Subscript (.Name y pn) b pt] e X.env = pure none := by rfl)
    (h1 : (assignEach [.Subscript (.Name y pn) b pt] X.env).map (·.2) = [assign (.Subscript (.Name y pn) b pt) X.env] := by rfl) : PDS X F (.Assign [.Subscript (.Name y pn) b pt] e pos) (sPutN j g f) :=
  ps_imp (ps_asg he (pg_sub (pe_var hN hv hd hcd) hb (pset_N hw hr) ha) hs hsw h1) fun D σ H h => by
    obtain ⟨Z, env, fl, r, e, q⟩ := h
    obtain ⟨⟨x, e1⟩, h1, e⟩ := bnd e
    obtain ⟨kv0, h2, e⟩ := bnd e
    obtain ⟨⟨i, e2⟩, h3, e⟩ := bnd e
    obtain ⟨kvs, h4, e⟩ := bnd e
    obtain ⟨kvs', h5, e⟩ := mpd e
    subst e
    refine ⟨Z, env, x, e1, r, h1, fun vx Z1 H1 r1 s1 d1 => ?_⟩
    obtain ⟨p, o, xs, sj, _⟩ := r1.sl j _ (rdK_eq h2)
    refine ⟨.ref p, sj, Z1, e1, i, e2, r1, h3, fun vi Z2 H2 r2 s2 d2 => ?_⟩
    obtain ⟨p', o', xs', sj', a2, a3, a4, hp, hf, hk⟩ := r2.sl j _ (rdK_eq h4)
    rw [sj] at sj'
    cases sj'
    obtain ⟨k1, e5, h5⟩ := bnd h5
    match k1, e5, h5 with
    | .tup ks, e5, h5 =>
      dsimp only at h5
      split at h5
      case isFalse => cases h5
      rename_i hc
      cases h5
      have hkd := nk_data _ _ e5
      refine ⟨Z2, p, o', xs', kvs, ks, x, rfl, r2.zh, hp, hf, hk, by rw [hkd]; exact d2, hc.1, hc.2.1, hc.2.2, DDm d1 s2.z, fun a ob' ea tb hf' => ?_⟩
      subst ea
      have pk := pok_updK r2.zh a4 (o := DnO p ob') tb
      obtain ⟨b1, b2⟩ := r2.pokeG (dv' := .dk (kvs ++ [(i, x)])) (rdK_eq h4) rfl sj a3 pk (by rw [upd_same]; simp) rfl ⟨p, ob', _, sj, a2, a3, a4, upd_same, hf', ddk_snoc hkd d2 (DDm d1 s2.z) hk⟩
      exact q σ Z2 _ b1 ((s1.trans s2).trans b2).z
theorem ev_ixO {j : Nat} {f : DEnv → Option (PyData × DEnv)} {env e1 : DEnv} {kv0 kvs : List (PyData × PyData)} {i z : PyData} (h0 : rdK j env = some kv0) (h : f env = some (i, e1)) (h1 : rdK j e1 = some kvs) (h2 : ixK (.dict kvs) i = some z) : fIxO j f env = some (z, e1) := by
  unfold fIxO; rw [h0]; show (f env).bind _ = _; rw [h]; show (rdK j e1).bind _ = _; rw [h1]; show (ixK (.dict kvs) i).map _ = _; rw [h2]; rfl
theorem ev_putN {j : Nat} {g f : DEnv → Option (PyData × DEnv)} {env e1 e2 e3 : DEnv} {kv0 kvs kvs' : List (PyData × PyData)} {k v : PyData} (hf : f env = some (v, e1)) (h1 : rdK j e1 = some kv0) (hg : g e1 = some (k, e2)) (h2 : rdK j e2 = some kvs) (h3 : putN k v kvs = some kvs') (he : e2.set j (some (.dk kvs')) = e3) : sPutN j g f env = some (.nx e3) := by
  unfold sPutN; rw [hf]; show (rdK j e1).bind _ = _; rw [h1]; show (g e1).bind _ = _; rw [hg]; show (rdK j e2).bind _ = _; rw [h2]; show (putN k v kvs).map _ = _; rw [h3, ← he]; rfl
end DL
end L2

set_option Elab.async false
set_option maxRecDepth 100000
set_option maxHeartbeats 4000000
set_option autoImplicit false
namespace L2
namespace DL
open PySem PySem.Spec PyProof.Rows PySem.Calls
variable [Lab]
/-! ### list(d): its keys -/
omit [Lab] in
theorem vals_get : ∀ {xs : List V} {us : List Value}, xs.length = us.length → (∀ (j : Nat) (u : Value), us[j]? = some u → ∃ x, xs[j]? = some x ∧ RelV x u) → Vals xs us
  | [], [], _, _ => .nil
  | [], _ :: _, h, _ => by cases h
  | _ :: _, [], h, _ => by cases h
  | x :: xs, u :: us, h, q => by
    obtain ⟨y, e, r⟩ := q 0 u rfl
    cases (show some x = some y from e)
    exact .cons r (vals_get (Nat.succ.inj h) fun j v e => q (j + 1) v e)
def rListK (wl : Option World) : List V → Hp → VK → Prop := fun xs H Q => ∃ (a : Addr) (o : Obj) (ys : List NEnt), xs = [.ref a] ∧ H a = some (DnO a o) ∧ DnF wl a o ys ∧ ys.length ≤ sizeLine ∧ ∀ p, H p = none → Q (.ref p) (upd H p (.lst (ys.map fun y => V.ref y.2.1)))
theorem call_listK {X : Cx} (hcalm : X.calm = true) : CallR X (.type "list") (rListK LabW.w) := by
  intro pins s σ H xs us Q I r h
  obtain ⟨a, o, ys, rfl, hd, hf, hl, q⟩ := h
  obtain ⟨u, rfl, rx⟩ := vals1 r
  cases (show u = Value.ref a from rx)
  obtain ⟨ho, _⟩ := (show ObjOk X.prog X.w H s.heap a (DnO a o) from I.hok a _ hd)
  obtain ⟨w', es, ep, _, hdat, rel⟩ := hf.es
  have hsz : es.size = ys.length := by rw [rel.length]; simp
  refine PySem.W.kdl_call (PySem.KdlSrc.rawDict (es := es) (ep := ep) hf.hd) (I.ok.hd hcalm) ⟨o, ho, hf.ex, hdat⟩ (by rw [hsz]; exact hl) fun h' tk acc c' hk hD hacc => ?_
  have hv : Vals (ys.map fun y => V.ref y.2.1) acc.toList := vals_get (by rw [List.length_map, Array.length_toList (xs := acc), hacc.1, hsz]) fun j u e => by
    obtain ⟨hi, ev⟩ := hacc.2 j u (by rw [← Array.getElem?_toList]; exact e)
    obtain ⟨en, e1, _, e3, _⟩ := paired_get rel j ys[j] (List.getElem?_eq_getElem (by omega))
    rw [Array.getElem?_toList, Array.getElem?_eq_getElem hi] at e1
    refine ⟨V.ref ys[j].2.1, by rw [List.getElem?_map, List.getElem?_eq_getElem (by omega)]; rfl, ?_⟩
    rw [ev, Option.some.inj e1, e3]
    exact rfl
  refine ⟨.ref s.heap.objs.size, upd H s.heap.objs.size (.lst (ys.map fun y => V.ref y.2.1)), I.laid (t' := tk) hk (Nat.le_refl _)
    (show ObjOk X.prog X.w _ _ _ (.lst (ys.map fun y => V.ref y.2.1)) from ⟨by rw [List.length_map]; exact hl, acc.toList, c', hv, by rw [Array.toArray_toList]; exact hD⟩), rfl, q _ (I.hok.fresh (Nat.le_refl _))⟩
theorem dds_keys {K : PySem.W.Frag} {Z : Hp} : ∀ {xs : List NEnt} {kvs : List (PyData × PyData)}, DDk K Z xs kvs → DDs K Z (xs.map fun y => V.ref y.2.1) (kvs.map (·.1))
  | _, _, .nil => .nil
  | _, _, .cons _ b _ t => .cons b (dds_keys t)
def nListK (f : DEnv → Option (PyData × DEnv)) (env : DEnv) : Option (List PyData × DEnv) := (f env).bind fun x => match x.1 with
  | .dict (kv :: kvs) => if kvs.length ≤ lim then some ((kv :: kvs).map (·.1), x.2) else none
  | _ => none
theorem pn_listK {X : Cx} {F : Fm} {e : Expr} {f : DEnv → Option (PyData × DEnv)} {p pos : Pos} (hcalm : X.calm = true) (hm : X.mg "list" = none) (ha : PD X F e f) (hg : Gl X "list" := by rfl) (he : starEach [e] X.env = (false, eval e X.env) :: starEach [] X.env := by rfl) (hpl : (backTo pos (starEach [] X.env)).any (·.1) = false := by rfl) :
    PN X F (.Call (.Name "list" p) [e] [] pos) (nListK f) := pe_imp (pe_callTy (call_listK hcalm) hg hm (by decide +kernel) (pa_cons ha pa_nil he) (by decide) (by decide) he hpl) fun σ H Q h => by
  obtain ⟨Z, env, ds, env', r, e, q⟩ := h
  obtain ⟨⟨d, e1⟩, h1, e⟩ := bnd e
  refine ⟨Z, env, d, e1, r, h1, fun v Z1 H1 r1 s1 d1 => ?_⟩
  match d, d1, e with
  | .dict (kv :: kvs), d1, e =>
    change (if kvs.length ≤ lim then some ((kv :: kvs).map (·.1), e1) else none) = some (ds, env') at e
    split at e
    case isFalse => cases e
    rename_i hl
    cases e
    cases d1 with
    | @dcn a o ys _ hp hf hk =>
      have l1 : ys.length = kvs.length + 1 := ddk_len hk
      have l2 : lim = 100000 := rfl
      refine ⟨a, o, ys, rfl, r1.zh.h _ _ hp nt_exo, hf, by rw [sizeLine_eq]; omega, fun p hp2 => ?_⟩
      have gr := grow_own r1.zh hp2 (.lst (ys.map fun y => V.ref y.2.1))
      exact q p _ _ _ (r1.grow gr) (s1.trans gr.stp) (s1.new hp2) (r1.zh.free hp2) upd_same (dds_keys hk)
end DL
end L2

set_option Elab.async false
set_option maxRecDepth 100000
set_option maxHeartbeats 4000000
set_option autoImplicit false
namespace L2
namespace DL
open PySem PySem.Spec PyProof.Rows PySem.Calls
variable [Lab]
/-! ### xs[::-1], xs a list -/
section
variable {X : Cx} {F : Fm} {e : Expr} {f : DEnv → Option (PyData × DEnv)}
def nRevL (f : DEnv → Option (PyData × DEnv)) (env : DEnv) : Option (List PyData × DEnv) := (f env).bind fun x => match x.1 with
  | .list ds => some (ds.reverse, x.2)
  | _ => none
theorem pn_revL {j : Nat} {p1 p2 p3 pos : Pos} (he : PD X F e f) : PN X F (.Subscript e (.Slice none none (some (.UnaryOp .USub (.Constant (.int 1) j p1) p2)) p3) pos) (nRevL f) := by
  refine ⟨fun pins s σ H Q I h => ?_⟩
  obtain ⟨Z, env, ds0, env', r, e, q⟩ := h
  obtain ⟨⟨d0, e1⟩, h1, e⟩ := bnd e
  match d0, h1, e with
  | .list ds, h1, e =>
    cases e
    refine Subscript_ (thn (he.run pins s σ H (fun v H1 => ∃ Z1, Rel X.K F Z1 H1 σ e1 ∧ Stp σ env Z H e1 Z1 H1 ∧ DD X.K Z1 v (.list ds)) I ⟨Z, env, _, _, r, h1, fun v Z1 H1 r1 s1 d1 => ⟨Z1, r1, s1, d1⟩⟩) fun v s1 ⟨x, H1, I1, rx, Z1, r1, st, dd⟩ => ?_)
    refine wpAny_Slice (thn (po_none.run pins s1 σ H1 (fun l H2 => l = none ∧ H2 = H1) I1 ⟨rfl, rfl⟩) fun vl s2 ⟨l, H2, I2, pl, e2, e3⟩ => ?_)
    subst e2 e3
    cases pl
    refine thn (po_none.run pins s2 σ H2 (fun l H3 => l = none ∧ H3 = H2) I2 ⟨rfl, rfl⟩) fun vu s3 ⟨l, H3, I3, pu, e2, e3⟩ => ?_
    subst e2 e3
    cases pu
    refine thn ((po_some (pe_un un_neg pe_int)).run pins s3 σ H3 (fun l H4 => l = some (-1) ∧ H4 = H3) I3 ⟨1, rfl, -1, rfl, rfl, rfl⟩) fun vk s4 ⟨l, H4, I4, pk, e2, e3⟩ => ?_
    subst e2 e3
    obtain ⟨tt, rfl⟩ : ∃ tt, vk = Value.int (-1) tt := by cases pk; exact ⟨_, rfl⟩
    cases dd with
    | @lst a xs _ hx dx =>
      cases rx
      have I5 : Inv X pins σ H4 { s4 with heap := s4.heap.push { cls := .type "slice", data := .fields #[.none, .none, .int (-1) tt] } } := I4.kept (t' := s4.toks) fun b ob q => Heap.get?_push_of_some _ q
      obtain ⟨its, rv, tp, hz⟩ := I5.list ((same_ls r1.zh hx).sq)
      have hlen := rv.length
      refine tail_any (T := "list") (ops := [.ref a, .ref s4.heap.objs.size]) tp.isList.typeIs slot_list_getitem.lookup (wpAny_getItem_list_slice tp.isList (Heap.IsSliceOf.new ..) .none .none (.int (-1) tt) (by decide) ?_ (by rw [List.size_toArray, ← hlen]; exact hz)) (by with_unfolding_all rfl)
      rw [PySem.W.krv_pick]
      have hn := I5.hok.fresh (Nat.le_refl _)
      have gr := grow_own r1.zh hn (.lst xs.reverse)
      refine ⟨.ref _, _, I5.laid (t' := s4.toks) (o := .lst xs.reverse) (fun b u e => Heap.get?_push_of_some _ e) (Nat.le_refl _) ⟨by rw [List.length_reverse]; exact hz, its.reverse, 0, vals_rev rv, ?_⟩, rfl, q _ _ _ _ (r1.grow gr) (st.trans gr.stp) (st.new hn) (r1.zh.free hn) upd_same (dds_rev dx)⟩
      refine (Heap.get?_push_size _ rfl).trans ?_
      simp
theorem ev_revL {env e1 : DEnv} {ds : List PyData} (h : f env = some (.list ds, e1)) : nRevL f env = some (ds.reverse, e1) := by
  unfold nRevL; rw [h]; rfl
end
end DL
end L2

set_option Elab.async false
set_option maxRecDepth 100000
set_option maxHeartbeats 4000000
set_option autoImplicit false
namespace L2
open PySem PySem.Spec PyProof.Rows PySem.Calls
/-! ### set(t), t a tuple of ints -/
section
variable {X : Cx}
def rSetTI (K : PySem.W.Frag) (w : World) : List V → Hp → VK → Prop := fun xs H Q => ∃ (p : Addr) (ns : List Int), xs = [V.ref p] ∧ SqT K H p (ns.map V.int) ∧ ns.length ≤ 60 ∧ ∀ (a : Addr) (c : Nat), H a = none → c ≤ ns.length → Q (.ref a) (upd H a (SetO w a (fun j => decide (j ∈ ns)) c))
theorem cr_setTI (hc : X.calm = true) : CallR X (.type "set") (rSetTI X.K X.w) := by
  intro pins s σ H xs us Q I r h
  obtain ⟨l, ns, rfl, hl, hf, q⟩ := h
  rw [Vals.ref1 r]
  obtain ⟨its, rv, pt, hz⟩ := I.tuple hl
  have hi : IntsAre its.toArray.toList ns := ints_of_vals rv
  have hn : H s.heap.objs.size = none := I.hok.fresh (Nat.le_refl _)
  refine call_set_tupI ns (I.ok.hd hc) (show s.heap.IsTuple l its.toArray from pt) hi (by unfold scanBound; omega) fun h' tk c R1 hcn k => ?_
  exact ⟨.ref s.heap.objs.size, upd H s.heap.objs.size (SetO X.w s.heap.objs.size (fun j => decide (j ∈ ns)) c), I.laid (t' := tk) k (Nat.le_refl _) (setO_new R1), rfl, q _ c hn hcn⟩
end
namespace DL
variable [Lab]
section
variable {X : Cx} {F : Fm} {e : Expr} {f : DEnv → Option (PyData × DEnv)}
def uniqI : List Int → List Int
  | [] => []
  | x :: xs => if x ∈ xs then uniqI xs else x :: uniqI xs
theorem uniqI_mem {k : Int} : ∀ (xs : List Int), k ∈ uniqI xs ↔ k ∈ xs
  | [] => Iff.rfl
  | x :: xs => by
    rw [uniqI]
    split
    case isTrue h =>
      rw [uniqI_mem xs, List.mem_cons]
      exact ⟨.inr, fun z => z.elim (fun e => e ▸ h) id⟩
    case isFalse h => rw [List.mem_cons, List.mem_cons, uniqI_mem xs]
theorem uniqI_nd : ∀ (xs : List Int), (uniqI xs).Nodup
  | [] => List.nodup_nil
  | x :: xs => by
    rw [uniqI]
    split
    case isTrue h => exact uniqI_nd xs
    case isFalse h => exact List.nodup_cons.mpr ⟨fun z => h ((uniqI_mem xs).mp z), uniqI_nd xs⟩
def srtSetI (ns : List Int) : List Int := sortI (uniqI ns)
theorem srtSetI_of {ns l : List Int} (h : l.Pairwise (· < ·)) (hm : ∀ k : Int, k ∈ l ↔ k ∈ ns) : l = srtSetI ns := by
  refine sortI_of ((List.perm_ext_iff_of_nodup (h.imp fun {a b} z => by omega) (uniqI_nd ns)).mpr fun k => ?_) (h.imp fun {a b} z => by omega)
  rw [hm, uniqI_mem]
def nSrtSet (f : DEnv → Option (PyData × DEnv)) (env : DEnv) : Option (List PyData × DEnv) := (f env).bind fun x => match x.1 with
  | .tuple ds => if ds.length ≤ 60 then (intsL ds).map fun ns => ((srtSetI ns).map .int, x.2) else none
  | _ => none
theorem pn_srtSet {p p2 pos pos2 : Pos} (hm : X.mg "sorted" = none) (hm2 : X.mg "set" = none) (ha : PD X F e f) (hc : X.calm = true := by rfl) (hg : Gl X "sorted" := by rfl) (hg2 : Gl X "set" := by rfl)
    (he : starEach [e] X.env = (false, eval e X.env) :: starEach [] X.env := by rfl) (hpl : (backTo pos2 (starEach [] X.env)).any (·.1) = false := by rfl)
    (he1 : starEach [.Call (.Name "set" p2) [e] [] pos2] X.env = (false, eval (.Call (.Name "set" p2) [e] [] pos2) X.env) :: starEach [] X.env := by rfl) (hpl1 : (backTo pos (starEach [] X.env)).any (·.1) = false := by rfl) :
    PN X F (.Call (.Name "sorted" p) [.Call (.Name "set" p2) [e] [] pos2] [] pos) (nSrtSet f) := by
  have h0 := pe_callTy (p := p2) (pos := pos2) (cr_setTI (X := X) hc) hg2 hm2 (by decide +kernel) (pa_cons ha pa_nil he) (by decide) (by decide) he hpl
  have h1 := pe_callB (p := p) (pos := pos) (cr_sortedSet (X := X) hc) hg hm (by decide +kernel) (pa_cons h0 pa_nil he1) (by decide) (by decide) he1 hpl1
  refine ⟨fun pins s σ H Q I h => ?_⟩
  obtain ⟨Z, env, d, env', r, e, q⟩ := h
  obtain ⟨⟨d0, e1⟩, g1, e⟩ := bnd e
  match d0, g1, e with
  | .tuple ds, g1, e =>
    change (if ds.length ≤ 60 then (intsL ds).map fun ns => ((srtSetI ns).map PyData.int, e1) else none) = _ at e
    split at e
    case isFalse => cases e
    rename_i hl
    obtain ⟨ns, g3, e⟩ := mpd e
    cases e
    have ed := intsL_of g3
    subst ed
    refine h1.run pins s σ H Q I ⟨Z, env, _, _, r, g1, fun v Z1 H1 r1 s1 d1 => ?_⟩
    cases d1 with
    | @tup a xs _ hx dx =>
      cases dds_intsV dx
      rw [List.length_map] at hl
      refine ⟨a, ns, rfl, same_sqT r1.zh hx, hl, fun a2 c hn2 hcn => ?_⟩
      have gr := grow_own r1.zh hn2 (SetO X.w a2 (fun j => decide (j ∈ ns)) c)
      refine ⟨a2, _, c, rfl, upd_same, by omega, fun l p hs hmem hll hn3 => ?_⟩
      have eo := srtSetI_of (ns := ns) hs fun k => by rw [hmem k, decide_eq_true_eq]
      subst eo
      have r2 := r1.grow gr
      have st2 := s1.trans gr.stp
      have gr2 := grow_own r2.zh hn3 (.lst ((srtSetI ns).map V.int))
      exact q p _ _ _ (r2.grow gr2) (st2.trans gr2.stp) (st2.new hn3) (r2.zh.free hn3) upd_same (dds_ints' _)
theorem ev_srtSet {f : DEnv → Option (PyData × DEnv)} {env e1 : DEnv} {ns l : List Int} (h : f env = some (.tuple (ns.map .int), e1)) (hl : ns.length ≤ 60) (hs : l.Pairwise (· < ·)) (hm : ∀ k : Int, k ∈ l ↔ k ∈ ns) : nSrtSet f env = some (l.map .int, e1) := by
  unfold nSrtSet
  rw [h]
  show (if (ns.map PyData.int).length ≤ 60 then (intsL (ns.map PyData.int)).map fun ns => ((srtSetI ns).map PyData.int, e1) else none) = _
  rw [if_pos (by rw [List.length_map]; exact hl), intsL_map, srtSetI_of hs hm]
  rfl
end
end DL
end L2

set_option Elab.async false
set_option maxRecDepth 100000
set_option maxHeartbeats 4000000
set_option autoImplicit false
namespace L2
open PySem PySem.Spec PyProof.Rows PySem.Calls
/-! ### set(xs), xs a list of ints -/
/-- the set that is made empty -/
abbrev nwSet (w : World) : Obj :=
  { cls := .type "set", dict := none
    data := .set #[] 0 (.fresh 0 0 (!w.params.followText "set-order")) }
section
variable {P : Program} {w : World} {A : Around} {E : Value → Shared → Prop} {s : Shared}
set_option maxHeartbeats 8000000 in
theorem call_setL {l : Addr} {its : Array Value} (ns : List Int) {Q : Value → Shared → Prop} (hA : A.handled = none) (hli : s.heap.IsList l its) (hin : IntsAre its.toList ns) (hsc : ns.length + 1 < scanBound)
    (fin : ∀ (g : Heap) (k c : Nat), SetR w g s.heap.objs.size (fun j => decide (j ∈ ns)) c → (∀ b o, s.heap.get? b = some o → g.get? b = some o) → Q (.ref s.heap.objs.size) { s with heap := g, toks := k }) :
    wpAny (model P w) A (call (.type "set") [.ref l]) Q E s := by
  have sz : its.size = ns.length := by
    have := IntsAre.length hin
    rwa [Array.length_toList] at this
  obtain ⟨cc, tt, mro⟩ := F.called_set.mro
  have a1 := F.called_set.made
  have a2 := F.called_set.sub
  refine wpAny_call (codeAny_of_tree ?_)
  show wpAny _ _ (callAny (.type "set") _) _ _ _
  refine wpAny_pure ⟨Code.quiet_builtin _ (by decide +kernel), codeAny_builtin F.entry_type_call ?_⟩
  rw [Around.under_plain (weight_type_call_type "set" [.ref l] []) rfl]
  have a3 := F.called_set.notType
  have a4 := F.called_set.canCreate
  have a5 := F.typeCall_set_1 (.ref l)
  repeat (any_goals (first | assumption | wp_step))
  refine codeAny_mono (code_set_led1 (.ref l) (E := E) (Q₁ := fun v s₁ => v = .ref s.heap.objs.size ∧ s₁ = { s with heap := s.heap.push (nwSet w) }) ⟨rfl, rfl⟩) fun r s₁ hr => ?_
  match r, hr with
  | .error e, hr => exact hr
  | .ok (.ret v), hr =>
    obtain ⟨rfl, rfl⟩ := hr
    have at0 : (s.heap.push (nwSet w)).get? s.heap.objs.size = some (nwSet w) := Heap.get?_push_size _ rfl
    have ty : Shared.TypeIs { s with heap := s.heap.push (nwSet w) } (.ref s.heap.objs.size) "set" := ⟨_, at0, rfl⟩
    have a6 := F.called_set.init.lookup
    have a7 := F.called_set.init.bind (.ref s.heap.objs.size)
    repeat (any_goals (first | assumption | wp_step))
    refine codeAny_mono (codeAny_call_builtin (R := wants (fun v s₂ => v = .none ∧ ∃ g k c, s₂ = { s with heap := g, toks := k } ∧ SetR w g s.heap.objs.size (fun j => decide (j ∈ ns)) c ∧ ∀ b o, s.heap.get? b = some o → g.get? b = some o) E) F.called_set.init.plain F.entry_set_init (check_set_init_1 ty ?_)) fun r₂ s₂ hr₂ => ?_
    · obtain ⟨⟨oc, od, oda, osl⟩, ho, hc, n0, hd⟩ := hli
      simp only at hc hd
      subst hc
      subst hd
      have li0 : (s.heap.push (nwSet w)).IsList l its := ⟨_, Heap.get?_push_of_some _ ho, rfl, n0, rfl⟩
      have at1 : (s.heap.push (nwSet w)).get? l = some { cls := .type "list", dict := od, data := .seq its n0, slots := osl } := Heap.get?_push_of_some _ ho
      have b1 := F.sub_list_set
      have b2 := F.sub_list_frozenset
      have b3 : (Value.type "list" == Value.type "dict") = false := by decide
      unfold Builtin.«set.__init__» noKeywords Builtin.Frozenset.updateFrom
      generalize hPI : pyIter = PI
      wp_walk
      subst hPI
      refine wpAny_pyIter_list li0 (wpAny_bind (wpAny_runValue ?_))
      have lt : l < s.heap.objs.size := Heap.lt_size ho
      have up : (s.heap.push (nwSet w)).objs.size = s.heap.objs.size + 1 := Heap.size_push ..
      have k1 : l ≠ (s.heap.push (nwSet w)).objs.size := fun z => by
        have q : l = s.heap.objs.size + 1 := z.trans up
        rw [q] at lt
        exact Nat.lt_irrefl _ (Nat.lt_trans (Nat.lt_succ_self _) lt)
      have k2 : s.heap.objs.size ∉ [(s.heap.push (nwSet w)).objs.size, l] := fun z => by
        rcases List.mem_cons.mp z with z | z
        · exact Nat.succ_ne_self _ (up.symm.trans z.symm)
        · have q := List.mem_singleton.mp z
          rw [← q] at lt
          exact Nat.lt_irrefl _ lt
      have vl : ∀ (i : Nat) (v : Value), its[i]? = some v → ∃ k t, ns[i]? = some k ∧ v = .int k t := fun i v hv => by
        have hi : i < ns.length := sz ▸ (Array.getElem?_eq_some_iff.mp hv).1
        obtain ⟨t, e⟩ := IntsAre.int_at hin i v (by rw [Array.getElem?_toList]; exact hv)
        refine ⟨ns[i], t, List.getElem?_eq_getElem hi, e.trans ?_⟩
        rw [List.getD_eq_getElem?_getD, List.getElem?_eq_getElem hi]
        rfl
      have hA3 : A.in1.in1.in1.handled = none := by simp [hA]
      refine set_update_ints ((Walks.list hA3 _ l k1 its).toS) s.heap.objs.size k2 ns sz hsc vl (its.size - 0) 0 _ (by omega) (Nat.zero_le _) ⟨⟨_, Heap.get?_push_size _ rfl, rfl, rfl⟩, li0.push _⟩ ⟨0, Nat.le_refl 0, setR_new_at (Heap.get?_push_of_some _ at0)⟩ fun s' c mv _ hS => ?_
      obtain ⟨g, gg, dr, tk, os'⟩ := s'
      obtain rfl : gg = s.gens := mv.gens
      obtain rfl : dr = s.drawn := mv.drawn
      obtain rfl : os' = s.os := mv.os
      show wpAny _ _ _ _ _ _
      refine wpAny_pure ?_
      show wpAny _ _ (ret Value.none) _ _ _
      refine wpAny_pure ⟨rfl, g, tk, c, rfl, hS, fun b o e => mv.heap b o (fun z => ?_) (Heap.get?_push_of_some _ (Heap.get?_push_of_some _ e))⟩
      have q := Heap.lt_size e
      rcases List.mem_cons.mp z with z | z
      · exact Nat.lt_irrefl _ (z ▸ q)
      · have z := (List.mem_singleton.mp z).trans up
        rw [z] at q
        exact Nat.lt_irrefl _ (Nat.lt_trans (Nat.lt_succ_self _) q)
    · match r₂, hr₂ with
      | .error e, hr₂ => exact hr₂
      | .ok (.ret v), hr₂ =>
        obtain ⟨rfl, g, k, c, rfl, hS, kp⟩ := hr₂
        repeat (any_goals (first | assumption | wp_step))
        exact fin _ _ _ hS kp
      | .ok (.next), hr₂ => exact hr₂.elim
end
end L2

set_option Elab.async false
set_option maxRecDepth 100000
set_option maxHeartbeats 4000000
set_option autoImplicit false
namespace L2
open PySem PySem.Spec PyProof.Rows PySem.Calls
namespace DL
variable [DL.Lab]
theorem setR_many {w : World} {h : Heap} {a : Addr} {ns : List Int} {c : Nat} (R : SetR w h a (fun j => decide (j ∈ ns)) c) : c = (uniqI ns).length := by
  obtain ⟨o, es, ep, t, _, _, _, _, nd, hm, _, _, hn, _⟩ := R
  have hp : (es.toList.map L2.keyOf).Perm (uniqI ns) := (List.perm_ext_iff_of_nodup nd (uniqI_nd ns)).mpr fun k => by
    rw [← hm k, decide_eq_true_eq, uniqI_mem]
  have := hp.length_eq
  rw [List.length_map, Array.length_toList] at this
  omega
end DL
section
variable [DL.Lab]
variable {X : Cx}
def rSetLI (K : PySem.W.Frag) (w : World) : List V → Hp → VK → Prop := fun xs H Q => ∃ (p : Addr) (ns : List Int), xs = [V.ref p] ∧ SqL K H p (ns.map V.int) ∧ ns.length ≤ 2000 ∧ ∀ (a : Addr), H a = none → Q (.ref a) (upd H a (SetO w a (fun j => decide (j ∈ ns)) (DL.uniqI ns).length))
theorem cr_setLI (hc : X.calm = true) : CallR X (.type "set") (rSetLI X.K X.w) := by
  intro pins s σ H xs us Q I r h
  obtain ⟨l, ns, rfl, hl, hf, q⟩ := h
  rw [Vals.ref1 r]
  obtain ⟨its, rv, pt, hz⟩ := I.list hl
  have hi : IntsAre its.toArray.toList ns := ints_of_vals rv
  have hn : H s.heap.objs.size = none := I.hok.fresh (Nat.le_refl _)
  refine call_setL ns (I.ok.hd hc) pt.isList hi (by unfold scanBound; omega) fun g k c R1 kp => ?_
  have e := DL.setR_many R1
  rw [e] at R1
  exact ⟨.ref s.heap.objs.size, upd H s.heap.objs.size (SetO X.w s.heap.objs.size (fun j => decide (j ∈ ns)) (DL.uniqI ns).length), I.laid (t' := k) kp (Nat.le_refl _) (setO_new R1), rfl, q _ hn⟩
end
namespace DL
variable [DL.Lab]
section
variable {X : Cx} {F : Fm} {e : Expr} {f : DEnv → Option (PyData × DEnv)}
def nSrtSetL (f : DEnv → Option (PyData × DEnv)) (env : DEnv) : Option (List PyData × DEnv) := (f env).bind fun x => match x.1 with
  | .list ds => if ds.length ≤ 2000 then (intsL ds).bind fun ns => if (uniqI ns).length ≤ 60 then some ((srtSetI ns).map .int, x.2) else none else none
  | _ => none
theorem pn_srtSetL {p p2 pos pos2 : Pos} (hm : X.mg "sorted" = none) (hm2 : X.mg "set" = none) (ha : PD X F e f) (hc : X.calm = true := by rfl) (hg : Gl X "sorted" := by rfl) (hg2 : Gl X "set" := by rfl)
    (he : starEach [e] X.env = (false, eval e X.env) :: starEach [] X.env := by rfl) (hpl : (backTo pos2 (starEach [] X.env)).any (·.1) = false := by rfl)
    (he1 : starEach [.Call (.Name "set" p2) [e] [] pos2] X.env = (false, eval (.Call (.Name "set" p2) [e] [] pos2) X.env) :: starEach [] X.env := by rfl) (hpl1 : (backTo pos (starEach [] X.env)).any (·.1) = false := by rfl) :
    PN X F (.Call (.Name "sorted" p) [.Call (.Name "set" p2) [e] [] pos2] [] pos) (nSrtSetL f) := by
  have h0 := pe_callTy (p := p2) (pos := pos2) (cr_setLI (X := X) hc) hg2 hm2 (by decide +kernel) (pa_cons ha pa_nil he) (by decide) (by decide) he hpl
  have h1 := pe_callB (p := p) (pos := pos) (cr_sortedSet (X := X) hc) hg hm (by decide +kernel) (pa_cons h0 pa_nil he1) (by decide) (by decide) he1 hpl1
  refine ⟨fun pins s σ H Q I h => ?_⟩
  obtain ⟨Z, env, d, env', r, e, q⟩ := h
  obtain ⟨⟨d0, e1⟩, g1, e⟩ := bnd e
  match d0, g1, e with
  | .list ds, g1, e =>
    change (if ds.length ≤ 2000 then (intsL ds).bind fun ns => if (uniqI ns).length ≤ 60 then some ((srtSetI ns).map PyData.int, e1) else none else none) = _ at e
    split at e
    case isFalse => cases e
    rename_i hl
    obtain ⟨ns, g3, e⟩ := bnd e
    split at e
    case isFalse => cases e
    rename_i hu
    cases e
    have ed := intsL_of g3
    subst ed
    refine h1.run pins s σ H Q I ⟨Z, env, _, _, r, g1, fun v Z1 H1 r1 s1 d1 => ?_⟩
    cases d1 with
    | @lst a xs _ hx dx =>
      cases dds_intsV dx
      rw [List.length_map] at hl
      refine ⟨a, ns, rfl, (same_ls r1.zh hx).sq, hl, fun a2 hn2 => ?_⟩
      have gr := grow_own r1.zh hn2 (SetO X.w a2 (fun j => decide (j ∈ ns)) (uniqI ns).length)
      refine ⟨a2, _, _, rfl, upd_same, by omega, fun l p hs hmem hll hn3 => ?_⟩
      have eo := srtSetI_of (ns := ns) hs fun k => by rw [hmem k, decide_eq_true_eq]
      subst eo
      have r2 := r1.grow gr
      have st2 := s1.trans gr.stp
      have gr2 := grow_own r2.zh hn3 (.lst ((srtSetI ns).map V.int))
      exact q p _ _ _ (r2.grow gr2) (st2.trans gr2.stp) (st2.new hn3) (r2.zh.free hn3) upd_same (dds_ints' _)
theorem uniq_len {ns l : List Int} (hs : l.Pairwise (· < ·)) (hm : ∀ k : Int, k ∈ l ↔ k ∈ ns) : (uniqI ns).length = l.length := by
  have hp : (uniqI ns).Perm l := (List.perm_ext_iff_of_nodup (uniqI_nd ns) (hs.imp fun {a b} z => by omega)).mpr fun k => by rw [hm, uniqI_mem]
  exact hp.length_eq
theorem ev_srtSetL {f : DEnv → Option (PyData × DEnv)} {env e1 : DEnv} {ns l : List Int} (h : f env = some (.list (ns.map .int), e1)) (hl : ns.length ≤ 2000) (hl2 : l.length ≤ 60) (hs : l.Pairwise (· < ·)) (hm : ∀ k : Int, k ∈ l ↔ k ∈ ns) : nSrtSetL f env = some (l.map .int, e1) := by
  unfold nSrtSetL
  rw [h]
  show (if (ns.map PyData.int).length ≤ 2000 then (intsL (ns.map PyData.int)).bind fun ns => if (uniqI ns).length ≤ 60 then some ((srtSetI ns).map PyData.int, e1) else none else none) = _
  rw [if_pos (by rw [List.length_map]; exact hl), intsL_map]
  show (if (uniqI ns).length ≤ 60 then some ((srtSetI ns).map PyData.int, e1) else none) = _
  rw [if_pos (by rw [uniq_len hs hm]; exact hl2), srtSetI_of hs hm]
end
end DL
end L2

set_option Elab.async false
set_option maxRecDepth 100000
set_option maxHeartbeats 4000000
set_option autoImplicit false
namespace L2
namespace DL
open PySem PySem.Spec PyProof.Rows
/-! ### ways from one present order to another -/
def mvP : Pl → Bool
  | .cut _ _ => false
  | _ => true
def nrP : Pl → Bool
  | .cut _ _ => false
  | .res => false
  | _ => true
def sortsOf (ks : List KB) : List Pl := (ks.map fun k => Pl.sort k.2 k.1).reverse
theorem offs_cons (k : KB) (P ks : List KB) : offs (k :: P) ks = offO k.1 (offs P ks) := by
  unfold offs offO
  rw [List.filter_filter]
  refine List.filter_congr fun x _ => ?_
  by_cases h1 : x.1 = k.1 <;> by_cases h2 : x.1 ∈ P.map (·.1) <;> simp_all
theorem offO_app (c : Int) (a b : List KB) : offO c (a ++ b) = offO c a ++ offO c b := List.filter_append ..
theorem offO_new {c : Int} {P : List KB} (h : c ∉ P.map (·.1)) : offO c P = P := by
  unfold offO
  rw [List.filter_eq_self]
  intro k hk
  have : k.1 ≠ c := fun z => h (List.mem_map.mpr ⟨k, hk, z⟩)
  simp [this]
theorem sorts_on : ∀ (P : List KB), (P.map (·.1)).Nodup → ∀ o : Od, seqS semP (sortsOf P) o = ([], (P ++ offs P o.1, o.2))
  | [], _, o => by
    rw [offs_nil]; rfl
  | k :: P, nd, o => by
    rw [List.map_cons, List.nodup_cons] at nd
    unfold sortsOf
    rw [List.map_cons, List.reverse_cons]
    have ih := sorts_on P nd.2 o
    unfold sortsOf at ih
    rw [seq_app, ih]
    show ([] ++ [], putO k.1 k.2 (P ++ offs P o.1, o.2)) = _
    unfold putO
    dsimp only
    rw [offO_app, offO_new nd.1, offs_cons]
    rfl
/-- what sorts and reverses do -/
theorem nr_shape : ∀ (n : Nat) (cs : List Pl), cs.length = n → (∀ c ∈ cs, nrP c = true) → ∃ (P : List KB) (b : Bool), (P.map (·.1)).Nodup ∧ (∀ o : Od, seqS semP cs o = ([], (P ++ phi b (offs P o.1), o.2.xor b))) ∧ P.length + (if b then 1 else 0) ≤ cs.length
  | 0, cs, hl, _ => by
    have : cs = [] := List.length_eq_zero_iff.mp hl
    subst this
    exact ⟨[], false, List.nodup_nil, fun o => by rw [offs_nil]; simp [phi, seqS], Nat.le_refl _⟩
  | n + 1, cs, hl, h => by
    obtain ⟨ds, c, rfl⟩ : ∃ ds c, cs = ds ++ [c] := by
      rcases List.eq_nil_or_concat cs with z | ⟨ds, c, z⟩
      · rw [z] at hl; simp at hl
      · exact ⟨ds, c, by rw [z]; simp⟩
    rw [List.length_append] at hl
    obtain ⟨P, b, nd, hs, hc⟩ := nr_shape n ds (by simpa using hl) fun x hx => h x (List.mem_append_left _ hx)
    have hcc := h c (by simp)
    match c, hcc with
    | .sort d k, _ =>
      refine ⟨(k, d) :: offO k P, b, ?_, fun o => ?_, ?_⟩
      · rw [List.map_cons, List.nodup_cons]
        refine ⟨fun z => ?_, ?_⟩
        · obtain ⟨x, hx, e⟩ := List.mem_map.mp z
          have := (List.mem_filter.mp hx).2
          simp [e] at this
        · exact nd.sublist (List.filter_sublist.map _)
      · rw [seq_app, hs o]
        show ([] ++ [], putO k d (P ++ phi b (offs P o.1), o.2.xor b)) = _
        unfold putO
        dsimp only
        rw [offO_app]
        have e : offO k (phi b (offs P o.1)) = phi b (offs ((k, d) :: offO k P) o.1) := by
          have e1 : offs ((k, d) :: offO k P) o.1 = offO k (offs P o.1) := by
            rw [offs_cons]
            unfold offs offO
            rw [List.filter_filter, List.filter_filter]
            refine List.filter_congr fun x _ => ?_
            by_cases h1 : x.1 = k
            · simp [h1]
            · by_cases h2 : x.1 ∈ P.map (·.1)
              · have : x.1 ∈ (P.filter fun y => !decide (y.1 = k)).map (·.1) := by
                  obtain ⟨y, hy, e⟩ := List.mem_map.mp h2
                  exact List.mem_map.mpr ⟨y, List.mem_filter.mpr ⟨hy, by rw [e]; simp [h1]⟩, e⟩
                simp [h1, h2, this]
              · have : x.1 ∉ (P.filter fun y => !decide (y.1 = k)).map (·.1) := fun z => by
                  obtain ⟨y, hy, e⟩ := List.mem_map.mp z
                  exact h2 (List.mem_map.mpr ⟨y, (List.mem_filter.mp hy).1, e⟩)
                simp [h1, h2, this]
          rw [e1]
          cases b with
          | false => rfl
          | true =>
            show offO k ((offs P o.1).map nK) = (offO k (offs P o.1)).map nK
            unfold offO
            rw [List.filter_map]
            rfl
        rw [e]
        rfl
      · have : (offO k P).length ≤ P.length := List.length_filter_le _ _
        rw [List.length_cons, List.length_append]
        show (offO k P).length + 1 + _ ≤ ds.length + 1
        omega
    | .rev, _ =>
      refine ⟨P.map nK, !b, ?_, fun o => ?_, ?_⟩
      · rw [List.map_map]
        exact nd
      · rw [seq_app, hs o]
        show ([] ++ [], flO (P ++ phi b (offs P o.1), o.2.xor b)) = _
        unfold flO
        dsimp only
        have e1 : offs (P.map nK) o.1 = offs P o.1 := by
          unfold offs
          rw [List.map_map]
          rfl
        rw [List.map_append, e1]
        have e2 : (phi b (offs P o.1)).map nK = phi (!b) (offs P o.1) := by
          have := phi_phi true b (offs P o.1)
          cases b with
          | false => rfl
          | true =>
            show ((offs P o.1).map nK).map nK = offs P o.1
            rw [List.map_map]
            exact (List.map_congr_left (g := id) fun k _ => nK_nK k).trans (List.map_id _)
        rw [e2]
        cases b <;> cases o.2 <;> rfl
      · rw [List.length_map, List.length_append]
        show P.length + _ ≤ ds.length + 1
        cases b <;> simp at hc ⊢ <;> omega
/-! ### the way found -/
def leftO (o g : Od) (k : Nat) : Od := (offs (g.1.take k) o.1, o.2)
def tryW (o g : Od) (k : Nat) : Option (List Pl) :=
  if (g.1.drop k, g.2) = leftO o g k then some (sortsOf (g.1.take k)) else if (g.1.drop k, g.2) = flO (leftO o g k) then some (.rev :: sortsOf (g.1.take k)) else none
def wayN (o g : Od) : Option (List Pl) := (List.range (g.1.length + 1)).findSome? (tryW o g)
theorem try_do {o g : Od} (hg : (g.1.map (·.1)).Nodup) {k : Nat} {w : List Pl} (h : tryW o g k = some w) : seqS semP w o = ([], g) ∧ (∀ c ∈ w, nrP c = true) ∧ k ≤ w.length ∨ g.1.length < k := by
  by_cases hk : g.1.length < k
  · exact .inr hk
  · refine .inl ?_
    have ndt : ((g.1.take k).map (·.1)).Nodup := by rw [List.map_take]; exact hg.sublist (List.take_sublist _ _)
    have hlen : (sortsOf (g.1.take k)).length = k := by unfold sortsOf; simp; omega
    have hnr : ∀ c ∈ sortsOf (g.1.take k), nrP c = true := fun c hc => by
      unfold sortsOf at hc
      obtain ⟨x, _, rfl⟩ := List.mem_map.mp (List.mem_reverse.mp hc)
      rfl
    unfold tryW at h
    by_cases h1 : (g.1.drop k, g.2) = leftO o g k
    · rw [if_pos h1] at h
      cases h
      refine ⟨?_, hnr, by omega⟩
      rw [sorts_on _ ndt o]
      unfold leftO at h1
      obtain ⟨e1, e2⟩ := Prod.mk.inj h1
      rw [← e1, ← e2, List.take_append_drop]
    · rw [if_neg h1] at h
      by_cases h2 : (g.1.drop k, g.2) = flO (leftO o g k)
      · rw [if_pos h2] at h
        cases h
        refine ⟨?_, fun c hc => ?_, by rw [List.length_cons]; omega⟩
        · show (let r := seqS semP (sortsOf (g.1.take k)) (flO o); (([] : List Pk) ++ r.1, r.2)) = _
          rw [sorts_on _ ndt (flO o)]
          unfold leftO flO at h2
          obtain ⟨e1, e2⟩ := Prod.mk.inj h2
          have e3 : offs (g.1.take k) (flO o).1 = (offs (g.1.take k) o.1).map nK := offs_phi (g.1.take k) true o.1
          show ([] ++ [], (g.1.take k ++ offs (g.1.take k) (flO o).1, (flO o).2)) = _
          rw [e3]
          dsimp only at e1 e2
          rw [← e1, List.take_append_drop]
          show ([], (g.1, !o.2)) = _
          rw [← e2]
        · rcases List.mem_cons.mp hc with rfl | hc
          · rfl
          · exact hnr c hc
      · rw [if_neg h2] at h; cases h
theorem try_le {o g : Od} {k : Nat} {w : List Pl} (h : tryW o g k = some w) : w.length ≤ k + 1 := by
  have hs : (sortsOf (g.1.take k)).length ≤ k := by unfold sortsOf; simp; omega
  unfold tryW at h
  split at h
  · cases h; omega
  · split at h
    · cases h; rw [List.length_cons]; omega
    · cases h
theorem wayN_at {o g : Od} {w : List Pl} (h : wayN o g = some w) : ∃ k, k ≤ g.1.length ∧ tryW o g k = some w ∧ ∀ j, j < k → tryW o g j = none := by
  unfold wayN at h
  obtain ⟨l1, a, l2, e, h1, h2⟩ := List.findSome?_eq_some_iff.mp h
  have hp : (l1 ++ a :: l2).Pairwise (· < ·) := by rw [← e]; exact List.pairwise_lt_range
  have ha : a < g.1.length + 1 := List.mem_range.mp (by rw [e]; simp)
  refine ⟨a, by omega, h1, fun j hj => h2 j ?_⟩
  have hj' : j ∈ l1 ++ a :: l2 := by rw [← e]; exact List.mem_range.mpr (by omega)
  rcases List.mem_append.mp hj' with z | z
  · exact z
  · have := (List.pairwise_append.mp hp).2.1
    rcases List.mem_cons.mp z with rfl | z
    · omega
    · have := (List.pairwise_cons.mp this).1 j z
      omega
theorem wayN_do {o g : Od} (hg : (g.1.map (·.1)).Nodup) {w : List Pl} (h : wayN o g = some w) : seqS semP w o = ([], g) ∧ ∀ c ∈ w, nrP c = true := by
  obtain ⟨k, hk, e, _⟩ := wayN_at h
  rcases try_do hg e with z | z
  · exact ⟨z.1, z.2.1⟩
  · omega
theorem wayN_best {o g : Od} {cs : List Pl} (hn : ∀ c ∈ cs, nrP c = true) (h : (seqS semP cs o).2 = g) : ∃ w, wayN o g = some w ∧ w.length ≤ cs.length := by
  obtain ⟨P, b, nd, hs, hc⟩ := nr_shape cs.length cs rfl hn
  rw [hs o] at h
  dsimp only at h
  subst h
  have e : ∃ w, tryW o (P ++ phi b (offs P o.1), o.2.xor b) P.length = some w ∧ w.length = P.length + (if b then 1 else 0) := by
    unfold tryW leftO
    dsimp only
    rw [List.drop_left', List.take_left'] <;> try rfl
    cases b with
    | false =>
      rw [if_pos (by simp [phi])]
      exact ⟨_, rfl, by simp [sortsOf]⟩
    | true =>
      rw [if_neg (fun z => by have := (Prod.mk.inj z).2; cases h : o.2 <;> rw [h] at this <;> cases this), if_pos (by unfold flO phi; simp)]
      exact ⟨_, rfl, by simp [sortsOf]⟩
  obtain ⟨w0, e0, l0⟩ := e
  have hm : P.length ∈ List.range ((P ++ phi b (offs P o.1)).length + 1) := List.mem_range.mpr (by rw [List.length_append]; omega)
  have hsm : (wayN o (P ++ phi b (offs P o.1), o.2.xor b)).isSome := by
    unfold wayN
    rw [List.findSome?_isSome_iff]
    exact ⟨P.length, hm, by rw [e0]; rfl⟩
  obtain ⟨w, hw⟩ := Option.isSome_iff_exists.mp hsm
  refine ⟨w, hw, ?_⟩
  obtain ⟨k, hk, e, hmin⟩ := wayN_at hw
  have hkP : k ≤ P.length := by
    rcases Nat.lt_or_ge P.length k with z | z
    · rw [hmin _ z] at e0; cases e0
    · exact z
  rcases Nat.lt_or_ge k P.length with z | z
  · have := try_le e
    omega
  · have : k = P.length := by omega
    subst this
    rw [e0] at e
    cases e
    omega
theorem wayN_start (g : Od) : ∃ w, wayN start0 g = some w := by
  have : tryW start0 g g.1.length ≠ none := by
    unfold tryW leftO
    rw [List.drop_length, List.take_length]
    cases h : g.2 with
    | true => rw [if_pos (by rfl)]; simp
    | false => rw [if_neg (by intro z; cases z), if_pos (by rfl)]; simp
  have hsm : (wayN start0 g).isSome := by
    unfold wayN
    rw [List.findSome?_isSome_iff]
    exact ⟨g.1.length, List.mem_range.mpr (by omega), Option.isSome_iff_ne_none.mpr this⟩
  exact Option.isSome_iff_exists.mp hsm
def resW (g : Od) : List Pl := .res :: (wayN start0 g).getD []
def wayW (o g : Od) : List Pl := match wayN o g with
  | none => resW g
  | some d => if d.length ≤ (resW g).length then d else resW g
theorem resW_do {g : Od} (hg : (g.1.map (·.1)).Nodup) (o : Od) : seqS semP (resW g) o = ([], g) ∧ ∀ c ∈ resW g, mvP c = true := by
  obtain ⟨w, hw⟩ := wayN_start g
  obtain ⟨h1, h2⟩ := wayN_do hg hw
  unfold resW
  rw [hw]
  refine ⟨?_, fun c hc => ?_⟩
  · show (let r := seqS semP w start0; (([] : List Pk) ++ r.1, r.2)) = _
    rw [h1]; rfl
  · rcases List.mem_cons.mp hc with rfl | hc
    · rfl
    · have := h2 c hc
      cases c <;> first | rfl | cases this
theorem wayW_do {g : Od} (hg : (g.1.map (·.1)).Nodup) (o : Od) : seqS semP (wayW o g) o = ([], g) ∧ ∀ c ∈ wayW o g, mvP c = true := by
  unfold wayW
  cases h : wayN o g with
  | none => exact resW_do hg o
  | some d =>
    dsimp only
    split
    · obtain ⟨h1, h2⟩ := wayN_do hg h
      refine ⟨h1, fun c hc => ?_⟩
      have := h2 c hc
      cases c <;> first | rfl | cases this
    · exact resW_do hg o
theorem last_res : ∀ (n : Nat) (cs : List Pl), cs.length = n → (∀ c ∈ cs, mvP c = true) → (∀ c ∈ cs, nrP c = true) ∨ ∃ a b, cs = a ++ Pl.res :: b ∧ ∀ c ∈ b, nrP c = true
  | 0, cs, hl, _ => by
    have : cs = [] := List.length_eq_zero_iff.mp hl
    subst this
    exact .inl fun _ h => nomatch h
  | n + 1, cs, hl, h => by
    cases cs with
    | nil => cases hl
    | cons c cs =>
      rcases last_res n cs (by simpa using hl) fun x hx => h x (List.mem_cons_of_mem _ hx) with z | ⟨a, b, e, hb⟩
      · have hc := h c List.mem_cons_self
        by_cases hn : nrP c = true
        · refine .inl fun x hx => ?_
          rcases List.mem_cons.mp hx with rfl | hx
          · exact hn
          · exact z x hx
        · have : c = .res := by cases c <;> first | rfl | (exact absurd rfl hn) | cases hc
          subst this
          exact .inr ⟨[], cs, rfl, z⟩
      · exact .inr ⟨c :: a, b, by rw [e]; rfl, hb⟩
theorem wayW_best {o g : Od} {cs : List Pl} (hn : ∀ c ∈ cs, mvP c = true) (h : (seqS semP cs o).2 = g) : (wayW o g).length ≤ cs.length := by
  rcases last_res cs.length cs rfl hn with z | ⟨a, b, e, hb⟩
  · obtain ⟨w, hw, hl⟩ := wayN_best z h
    unfold wayW
    rw [hw]
    dsimp only
    split <;> omega
  · have hr : (seqS semP b start0).2 = g := by
      rw [← h, e, seq_app]
      rfl
    obtain ⟨w, hw, hl⟩ := wayN_best hb hr
    have hres : (resW g).length ≤ cs.length := by
      unfold resW
      rw [hw, e, List.length_append, List.length_cons, List.length_cons]
      show w.length + 1 ≤ _
      omega
    unfold wayW
    cases wayN o g with
    | none => exact hres
    | some d =>
      dsimp only
      split <;> omega
def dst (o g : Od) : Nat := (wayW o g).length
theorem mv_picks : ∀ {cs : List Pl}, (∀ c ∈ cs, mvP c = true) → ∀ o : Od, (seqS semP cs o).1 = []
  | [], _, _ => rfl
  | c :: cs, h, o => by
    have hc := h c List.mem_cons_self
    have ih := mv_picks (cs := cs) fun x hx => h x (List.mem_cons_of_mem _ hx)
    show (semP c o).1 ++ (seqS semP cs (semP c o).2).1 = []
    rw [ih]
    cases c <;> first | rfl | cases hc
end DL
end L2

set_option Elab.async false
set_option maxRecDepth 100000
set_option maxHeartbeats 4000000
set_option autoImplicit false
namespace L2
namespace DL
open PySem PySem.Spec PyProof.Rows
/-! ### the key that takes a place to an edge -/
def topB (t : Tab) (G : List Nat) (x : Nat) (c : Nat) : Bool := G.all fun i => decide (cellT t i c ≤ cellT t x c)
def botB (t : Tab) (G : List Nat) (x : Nat) (c : Nat) : Bool := G.all fun i => decide (cellT t x c ≤ cellT t i c)
def varB (t : Tab) (G : List Nat) (x : Nat) (c : Nat) : Bool := G.any fun i => decide (cellT t i c ≠ cellT t x c)
def edgC (t : Tab) (G : List Nat) (x : Nat) (c : Nat) : Option KB :=
  if (varB t G x c && topB t G x c) = true then some ((c : Int), true) else if (varB t G x c && botB t G x c) = true then some ((c : Int), false) else none
def edgK (t : Tab) (m : Nat) (G : List Nat) (x : Nat) : Option KB := (List.range m).findSome? (edgC t G x)
def grpK (t : Tab) (k : KB) (G : List Nat) (x : Nat) : List Nat := G.filter fun i => decide (cellT t i k.1 = cellT t x k.1)
theorem edgC_some {t : Tab} {G : List Nat} {x c : Nat} {k : KB} (h : edgC t G x c = some k) : k.1 = (c : Int) ∧ (∀ i ∈ G, sg (dS k.2) (cellT t i c) ≤ sg (dS k.2) (cellT t x c)) ∧ ∃ i ∈ G, cellT t i c ≠ cellT t x c := by
  unfold edgC at h
  split at h
  · rename_i z
    cases h
    obtain ⟨z1, z2⟩ := Bool.and_eq_true_iff.mp z
    obtain ⟨i, hi, hn⟩ := List.any_eq_true.mp z1
    refine ⟨rfl, fun i hi => ?_, i, hi, of_decide_eq_true hn⟩
    rw [sg_up, sg_up]
    exact of_decide_eq_true (List.all_eq_true.mp z2 i hi)
  · split at h
    · rename_i z
      cases h
      obtain ⟨z1, z2⟩ := Bool.and_eq_true_iff.mp z
      obtain ⟨i, hi, hn⟩ := List.any_eq_true.mp z1
      refine ⟨rfl, fun i hi => ?_, i, hi, of_decide_eq_true hn⟩
      rw [sg_dn, sg_dn]
      have : cellT t x c ≤ cellT t i c := of_decide_eq_true (List.all_eq_true.mp z2 i hi)
      omega
    · cases h
theorem edgC_none {t : Tab} {G : List Nat} {x c : Nat} (h : edgC t G x c = none) (d : Bool) (hd : ∀ i ∈ G, sg (dS d) (cellT t i c) ≤ sg (dS d) (cellT t x c)) : ∀ i ∈ G, cellT t i c = cellT t x c := fun i hi => by
  rcases Decidable.em (cellT t i c = cellT t x c) with z | z
  · exact z
  · have hv : varB t G x c = true := List.any_eq_true.mpr ⟨i, hi, decide_eq_true z⟩
    unfold edgC at h
    rw [hv, Bool.true_and, Bool.true_and] at h
    cases d with
    | true =>
      have : topB t G x c = true := List.all_eq_true.mpr fun j hj => decide_eq_true (by have := hd j hj; rwa [sg_up, sg_up] at this)
      rw [this, if_pos rfl] at h; cases h
    | false =>
      have : botB t G x c = true := List.all_eq_true.mpr fun j hj => decide_eq_true (by have := hd j hj; rw [sg_dn, sg_dn] at this; omega)
      rw [this, if_pos (c := true = true) rfl] at h
      split at h <;> cases h
structure Tow (t : Tab) (m : Nat) (K : List Nat) (x : Nat) (ks : List KB) (G : List Nat) : Prop where
  sub : G.Sublist K
  mem : x ∈ G
  eqv : ∀ i ∈ G, kvK t ks i = kvK t ks x
  out : ∀ i ∈ K, i ∉ G → kvK t ks i < kvK t ks x
  nd : (ks.map (·.1)).Nodup
  rg : ∀ k ∈ ks, 0 ≤ k.1 ∧ k.1 < (m : Int)
theorem tow0 (t : Tab) (m : Nat) {K : List Nat} {x : Nat} (h : x ∈ K) : Tow t m K x [] K := ⟨List.Sublist.refl _, h, fun _ _ => rfl, fun i hi z => absurd hi z, List.nodup_nil, fun _ h => nomatch h⟩
theorem lex_app {a b c d : List Int} (hl : a.length = b.length) : (a ++ c < b ++ d) ↔ a < b ∨ (a = b ∧ c < d) := by
  induction a generalizing b with
  | nil =>
    cases b with
    | nil => exact ⟨fun h => .inr ⟨rfl, h⟩, fun h => h.elim (fun z => absurd z lex_nil) fun z => z.2⟩
    | cons y b => cases hl
  | cons x a ih =>
    cases b with
    | nil => cases hl
    | cons y b =>
      rw [List.cons_append, List.cons_append, lex_cons, lex_cons, ih (by simpa using hl)]
      constructor
      · rintro (z | ⟨z1, z2 | ⟨z2, z3⟩⟩)
        · exact .inl (.inl z)
        · exact .inl (.inr ⟨z1, z2⟩)
        · exact .inr ⟨by rw [z1, z2], z3⟩
      · rintro ((z | ⟨z1, z2⟩) | ⟨z1, z2⟩)
        · exact .inl z
        · exact .inr ⟨z1, .inl z2⟩
        · exact .inr ⟨(List.cons.inj z1).1, .inr ⟨(List.cons.inj z1).2, z2⟩⟩
theorem kvK_len (t : Tab) (ks : List KB) (i j : Nat) : (kvK t ks i).length = (kvK t ks j).length := by rw [kvs_len, kvs_len]
theorem Tow.step {t : Tab} {m : Nat} {K : List Nat} {x : Nat} {ks : List KB} {G : List Nat} (h : Tow t m K x ks G) {k : KB} (hk : edgK t m G x = some k) : Tow t m K x (ks ++ [k]) (grpK t k G x) ∧ (grpK t k G x).length < G.length := by
  obtain ⟨l1, c, l2, e, h1, _⟩ := List.findSome?_eq_some_iff.mp hk
  have hc : c ∈ List.range m := by rw [e]; simp
  have hcm := List.mem_range.mp hc
  obtain ⟨k1, k2, j, hj, k3⟩ := edgC_some h1
  have hin : ∀ i, i ∈ grpK t k G x ↔ i ∈ G ∧ cellT t i k.1 = cellT t x k.1 := fun i => by
    unfold grpK
    rw [List.mem_filter, decide_eq_true_eq]
  refine ⟨⟨(List.filter_sublist).trans h.sub, (hin x).mpr ⟨h.mem, rfl⟩, fun i hi => ?_, fun i hi hn => ?_, ?_, fun y hy => ?_⟩, ?_⟩
  · obtain ⟨a, b⟩ := (hin i).mp hi
    rw [kvK_app, kvK_app, h.eqv i a, b]
  · rw [kvK_app, kvK_app, lex_app (kvK_len t ks i x)]
    by_cases hg : i ∈ G
    · refine .inr ⟨h.eqv i hg, lex_cons.mpr (.inl ?_)⟩
      have hle := k2 i hg
      rw [← k1] at hle
      have hne : cellT t i k.1 ≠ cellT t x k.1 := fun z => hn ((hin i).mpr ⟨hg, z⟩)
      have : sg (dS k.2) (cellT t i k.1) ≠ sg (dS k.2) (cellT t x k.1) := fun z => hne (sg_inj z)
      omega
    · exact .inl (h.out i hi hg)
  · rw [List.map_append, List.nodup_append]
    refine ⟨h.nd, by simp, fun a ha b hb => ?_⟩
    rw [show b = k.1 by simpa using hb]
    intro hab
    obtain ⟨y, hy, rfl⟩ := List.mem_map.mp ha
    have := kvK_mem (h.eqv j hj) hy
    rw [hab, k1] at this
    exact k3 this
  · rcases List.mem_append.mp hy with z | z
    · exact h.rg y z
    · rw [List.mem_singleton.mp z, k1]; omega
  · refine List.length_filter_lt_length_iff_exists.mpr ⟨j, hj, ?_⟩
    rw [k1]
    simpa using k3
theorem Tow.len {t : Tab} {m : Nat} {K : List Nat} {x : Nat} {ks : List KB} {G : List Nat} (h : Tow t m K x ks G) : ks.length ≤ m := by
  have := nodup_le (ks.map (·.1)) ((List.range m).map fun i : Nat => (i : Int)) h.nd fun c hc => by
    obtain ⟨k, hk, rfl⟩ := List.mem_map.mp hc
    have := h.rg k hk
    exact List.mem_map.mpr ⟨k.1.toNat, List.mem_range.mpr (by omega), by omega⟩
  rwa [List.length_map, List.length_map, List.length_range] at this
/-- `o` puts `x` behind all the others of `K` -/
def Ends (t : Tab) (K : List Nat) (x : Nat) (o : Od) : Prop := ∀ i ∈ K, i ≠ x → kvO t o i < kvO t o x
theorem Tow.ends {t : Tab} {m : Nat} {K : List Nat} {x : Nat} {ks : List KB} {G : List Nat} (h : Tow t m K x ks G) {d : Bool} (hg : ∀ i ∈ G, i ≠ x → sg (dS d) (i : Int) < sg (dS d) (x : Int)) : Ends t K x (ks, d) := fun i hi hx => by
  show kvK t ks i ++ [sg (dS d) (i : Int)] < kvK t ks x ++ [sg (dS d) (x : Int)]
  rw [lex_app (kvK_len t ks i x)]
  by_cases z : i ∈ G
  · exact .inr ⟨h.eqv i z, lex_cons.mpr (.inl (hg i z hx))⟩
  · exact .inl (h.out i hi z)
theorem tow_end {t : Tab} {m : Nat} {G : List Nat} {x : Nat} (hf : edgK t m G x = none) (s : Bool) : ∀ (l : List KB), (∀ k ∈ l, 0 ≤ k.1 ∧ k.1 < (m : Int)) → (∀ i ∈ G, i ≠ x → kvK t l i ++ [sg (dS s) (i : Int)] < kvK t l x ++ [sg (dS s) (x : Int)]) → ∀ i ∈ G, i ≠ x → sg (dS s) (i : Int) < sg (dS s) (x : Int)
  | [], _, h => fun i hi hx => by
    rcases lex_cons.mp (show [sg (dS s) (i : Int)] < [sg (dS s) (x : Int)] from h i hi hx) with z | z
    · exact z
    · exact absurd z.2 lex_nil
  | k :: l, hr, h => by
    have hk := hr k List.mem_cons_self
    obtain ⟨c, hc⟩ : ∃ c : Nat, k.1 = (c : Int) := ⟨k.1.toNat, by omega⟩
    have hcm : c < m := by omega
    have hcons : ∀ i ∈ G, i ≠ x → sg (dS k.2) (cellT t i k.1) < sg (dS k.2) (cellT t x k.1) ∨ (sg (dS k.2) (cellT t i k.1) = sg (dS k.2) (cellT t x k.1) ∧ kvK t l i ++ [sg (dS s) (i : Int)] < kvK t l x ++ [sg (dS s) (x : Int)]) := fun i hi hx => lex_cons.mp (h i hi hx)
    have hn : edgC t G x c = none := List.findSome?_eq_none_iff.mp hf c (List.mem_range.mpr hcm)
    have heq := edgC_none hn k.2 fun i hi => by
      by_cases hx : i = x
      · rw [hx]; omega
      · have := hcons i hi hx
        rw [hc] at this
        rcases this with z | z
        · omega
        · rw [z.1]; omega
    refine tow_end hf s l (fun y hy => hr y (List.mem_cons_of_mem _ hy)) fun i hi hx => ?_
    have z := hcons i hi hx
    rw [hc, heq i hi] at z
    rcases z with z | z
    · omega
    · exact z.2
/-! ### what may be cut -/
theorem last_of {t : Tab} {o : Od} : ∀ {K : List Nat}, K ≠ [] → ∃ x ∈ K, Ends t K x o
  | [], h => absurd rfl h
  | [a], _ => ⟨a, by simp, fun i hi hx => absurd (List.mem_singleton.mp hi) hx⟩
  | a :: b :: K, _ => by
    obtain ⟨x, hx, he⟩ := last_of (t := t) (o := o) (K := b :: K) (by simp)
    rcases lex_tri ((kvO_a t o).len a x) with z | z | z
    · refine ⟨x, List.mem_cons_of_mem _ hx, fun i hi hn => ?_⟩
      rcases List.mem_cons.mp hi with rfl | hi
      · exact z
      · exact he i hi hn
    · have := (kvO_a t o).inj a x z
      refine ⟨x, List.mem_cons_of_mem _ hx, fun i hi hn => ?_⟩
      rcases List.mem_cons.mp hi with rfl | hi
      · exact absurd this hn
      · exact he i hi hn
    · refine ⟨a, List.mem_cons_self, fun i hi hn => ?_⟩
      rcases List.mem_cons.mp hi with rfl | hi
      · exact absurd rfl hn
      · by_cases hix : i = x
        · rw [hix]; exact z
        · exact List.lt_trans (he i hi hix) z
/-- as long as more is kept than the picks leave, some order of the picks ends with a place that is left out -/
theorem cut_more {t : Tab} : ∀ (P : List Pk) (l K : List Nat), l.Nodup → (∀ i ∈ K, i ∈ l) → (∃ i ∈ K, i ∉ pickedP t P l) → ∃ x ∈ K, x ∉ pickedP t P l ∧ ∃ p ∈ P, Ends t K x p.1
  | [], l, K, _, hK, ⟨i, hi, hn⟩ => absurd (hK i hi) hn
  | p :: P, l, K, nd, hK, hn => by
    have nd1 : ((srtP (kvO t p.1) l).take p.2.toNat).Nodup := (List.take_sublist _ _).nodup (srtP_nodup nd)
    by_cases hall : ∀ i ∈ K, i ∈ (srtP (kvO t p.1) l).take p.2.toNat
    · obtain ⟨x, hx, h1, q, hq, h2⟩ := cut_more P ((srtP (kvO t p.1) l).take p.2.toNat) K nd1 hall hn
      exact ⟨x, hx, h1, q, List.mem_cons_of_mem _ hq, h2⟩
    · obtain ⟨y, hy, hny⟩ : ∃ y ∈ K, y ∉ (srtP (kvO t p.1) l).take p.2.toNat := by
        rcases Decidable.em (∃ y ∈ K, y ∉ (srtP (kvO t p.1) l).take p.2.toNat) with z | z
        · exact z
        · exact absurd (fun i hi => Decidable.byContradiction fun w => z ⟨i, hi, w⟩) hall
      obtain ⟨x, hx, he⟩ := last_of (t := t) (o := p.1) (K := K) (fun z => by rw [z] at hy; cases hy)
      have hnx : x ∉ (srtP (kvO t p.1) l).take p.2.toNat := fun hin => by
        by_cases hxy : y = x
        · rw [hxy] at hny; exact hny hin
        · have hlt := he y hy hxy
          have hyd : y ∈ (srtP (kvO t p.1) l).drop p.2.toNat := by
            have : y ∈ (srtP (kvO t p.1) l) := (srtP_perm _ l).mem_iff.mpr (hK y hy)
            rw [← List.take_append_drop p.2.toNat (srtP (kvO t p.1) l)] at this
            exact (List.mem_append.mp this).resolve_left hny
          have hso := srtP_sorted (kvO_a t p.1) nd
          rw [← List.take_append_drop p.2.toNat (srtP (kvO t p.1) l)] at hso
          exact lex_asymm hlt ((List.pairwise_append.mp hso).2.2 x hin y hyd)
      exact ⟨x, hx, fun z => hnx (pickedP_sub t P z), p, List.mem_cons_self, he⟩
/-- a cut by such an order takes just that place -/
theorem cut_one {t : Tab} {K : List Nat} {x : Nat} {o : Od} (nd : K.Nodup) (hx : x ∈ K) (he : Ends t K x o) : ((srtP (kvO t o) K).take (K.erase x).length).Perm (K.erase x) := by
  have nde : (K.erase x).Nodup := nd.erase x
  have hs : srtP (kvO t o) K = srtP (kvO t o) (K.erase x) ++ [x] := by
    refine srtP_of (kvO_a t o) nd ?_ ?_
    · have h1 := (srtP_perm (kvO t o) (K.erase x)).append (List.Perm.refl [x])
      exact h1.trans ((List.perm_append_comm).trans (List.perm_cons_erase hx).symm)
    · refine List.pairwise_append.mpr ⟨srtP_sorted (kvO_a t o) nde, by simp, fun a ha b hb => ?_⟩
      rw [List.mem_singleton.mp hb]
      have := (srtP_perm _ _).mem_iff.mp ha
      obtain ⟨h1, h2⟩ := (List.Nodup.mem_erase_iff nd).mp this
      exact he a h2 h1
  rw [hs, ← srtP_len (kvO t o) (K.erase x), List.take_left']
  · exact srtP_perm _ _
  · rfl
end DL
end L2

set_option Elab.async false
set_option maxRecDepth 100000
set_option maxHeartbeats 4000000
set_option autoImplicit false
namespace L2
namespace DL
open PySem PySem.Spec PyProof.Rows
/-! ### what can be reached, by orders alone -/
def ColB (m : Nat) (o : Od) : Prop := ∀ k ∈ o.1, 0 ≤ k.1 ∧ k.1 < (m : Int)
def Srt (t : Tab) (m : Nat) (ps : List Nat) : Prop := ∃ o, ColB m o ∧ ps.Pairwise fun i j => kvO t o i < kvO t o j
def Ext (t : Tab) (m : Nat) (K : List Nat) (x : Nat) : Prop := ∃ o, ColB m o ∧ Ends t K x o
/-- whatever is left beside the places, one of it can be cut off -/
def Clr (t : Tab) (m : Nat) (ps : List Nat) : Prop := ∀ K : List Nat, (∀ i ∈ K, i < t.length) → (∃ i ∈ K, i ∉ ps) → ∃ x ∈ K, x ∉ ps ∧ Ext t m K x
theorem Ends.less {t : Tab} {K K' : List Nat} {x : Nat} {o : Od} (h : Ends t K x o) (hs : ∀ i ∈ K', i ∈ K) : Ends t K' x o := fun i hi hx => h i (hs i hi) hx
theorem Ext.less {t : Tab} {m : Nat} {K K' : List Nat} {x : Nat} (h : Ext t m K x) (hs : ∀ i ∈ K', i ∈ K) : Ext t m K' x := by
  obtain ⟨o, ho, he⟩ := h
  exact ⟨o, ho, he.less hs⟩
theorem clr_one {t : Tab} {m : Nat} {ps : List Nat} {y : Nat} (hy : y < t.length) (hn : y ∉ ps) (hall : ∀ i, i < t.length → i ≠ y → i ∈ ps) : Clr t m ps ↔ Ext t m (List.range t.length) y := by
  constructor
  · intro h
    obtain ⟨x, hx, hxn, he⟩ := h (List.range t.length) (fun i hi => List.mem_range.mp hi) ⟨y, List.mem_range.mpr hy, hn⟩
    have : x = y := Decidable.byContradiction fun z => hxn (hall x (List.mem_range.mp hx) z)
    rw [← this]; exact he
  · intro h K hK ⟨i, hi, hin⟩
    have hiy : i = y := Decidable.byContradiction fun z => hin (hall i (hK i hi) z)
    subst hiy
    exact ⟨i, hi, hn, h.less fun j hj => List.mem_range.mpr (hK j hj)⟩
theorem clr_not {t : Tab} {m : Nat} {ps : List Nat} (hex : ∃ i, i < t.length ∧ i ∉ ps) (hno : ∀ i, i < t.length → i ∉ ps → ¬ Ext t m (List.range t.length) i) : ¬ Clr t m ps := fun h => by
  obtain ⟨i, hi, hin⟩ := hex
  obtain ⟨x, hx, hxn, he⟩ := h (List.range t.length) (fun i hi => List.mem_range.mp hi) ⟨i, List.mem_range.mpr hi, hin⟩
  exact hno x (List.mem_range.mp hx) hxn he
/-! ### two tables alike to orders -/
/-- each order of the one puts the places (moved by f) as some order of the other does -/
def Sim (t : Tab) (m : Nat) (t' : Tab) (m' : Nat) (f : Nat → Nat) : Prop := ∀ o, ColB m o → ∃ o', ColB m' o' ∧ ∀ i j, i < t.length → j < t.length → kvO t o i < kvO t o j → kvO t' o' (f i) < kvO t' o' (f j)
theorem Sim.ext {t t' : Tab} {m m' : Nat} {f : Nat → Nat} (s : Sim t m t' m' f) {K : List Nat} {x : Nat} (hK : ∀ i ∈ K, i < t.length) (hx : x < t.length) (h : Ext t m K x) : Ext t' m' (K.map f) (f x) := by
  obtain ⟨o, ho, he⟩ := h
  obtain ⟨o', ho', hs⟩ := s o ho
  refine ⟨o', ho', fun i hi hix => ?_⟩
  obtain ⟨j, hj, rfl⟩ := List.mem_map.mp hi
  exact hs j x (hK j hj) hx (he j hj fun z => hix (by rw [z]))
theorem Sim.srt {t t' : Tab} {m m' : Nat} {f : Nat → Nat} (s : Sim t m t' m' f) {ps : List Nat} (hp : ∀ i ∈ ps, i < t.length) (h : Srt t m ps) : Srt t' m' (ps.map f) := by
  obtain ⟨o, ho, he⟩ := h
  obtain ⟨o', ho', hs⟩ := s o ho
  refine ⟨o', ho', ?_⟩
  rw [List.pairwise_map]
  exact he.imp_of_mem fun {a b} ha hb z => hs a b (hp a ha) (hp b hb) z
theorem Sim.clr {t t' : Tab} {m m' : Nat} (s : Sim t m t' m' id) (hl : t.length = t'.length) {ps : List Nat} (h : Clr t m ps) : Clr t' m' ps := fun K hK hex => by
  rw [← hl] at hK
  obtain ⟨x, hx, hn, he⟩ := h K hK hex
  have := s.ext hK (hK x hx) he
  rw [List.map_id] at this
  exact ⟨x, hx, hn, this⟩
end DL
end L2

set_option Elab.async false
set_option maxRecDepth 100000
set_option maxHeartbeats 4000000
set_option autoImplicit false
namespace L2
namespace DL
open PySem PySem.Spec PyProof.Rows
variable [Lab]
def inS (i j : Nat) : Stmt := match PySem.Challenge.pw_sortcuts_k42_extreme_places_by_all_order.main.body.getD i (.Pass ⟨0, 0, 0, 0⟩) with
  | .ClassDef _ _ _ b _ _ _ _ _ _ _ => b.getD j (.Pass ⟨0, 0, 0, 0⟩)
  | s => s
def topS (i : Nat) : Stmt := PySem.Challenge.pw_sortcuts_k42_extreme_places_by_all_order.main.body.getD i (.Pass ⟨0, 0, 0, 0⟩)
def cv_MOST_COLUMNS : PyData := .int 5
def cv_MOST_RECORDS : PyData := .int 30
def cv_MOST_KEYS : PyData := .int 4
structure Tx [LabW] (LT : List (Addr × Str)) (K : PySem.W.Frag) (mg : Str → Option Value) (base : Heap) (w : World) where
  hw : LabW.w = some w
  A : Nat → Addr
  FD : Nat → FuncData
  D_is_integer : Fun K "is_integer" "is_integer" (topS 7) (A 0) (FD 0)
  g_is_integer : mg "is_integer" = some (.ref (A 0))
  D_is_record : Fun K "is_record" "is_record" (topS 8) (A 1) (FD 1)
  g_is_record : mg "is_record" = some (.ref (A 1))
  D_check_table : Fun K "check_table" "check_table" (topS 9) (A 2) (FD 2)
  g_check_table : mg "check_table" = some (.ref (A 2))
  D_every_place : Fun K "every_place" "every_place" (topS 10) (A 3) (FD 3)
  g_every_place : mg "every_place" = some (.ref (A 3))
  D_sort_columns : Fun K "sort_columns" "sort_columns" (topS 11) (A 4) (FD 4)
  g_sort_columns : mg "sort_columns" = some (.ref (A 4))
  D_edge_key : Fun K "edge_key" "edge_key" (topS 13) (A 5) (FD 5)
  g_edge_key : mg "edge_key" = some (.ref (A 5))
  D_keys_towards : Fun K "keys_towards" "keys_towards" (topS 14) (A 6) (FD 6)
  g_keys_towards : mg "keys_towards" = some (.ref (A 6))
  D_order_that_ends_with : Fun K "order_that_ends_with" "order_that_ends_with" (topS 15) (A 7) (FD 7)
  g_order_that_ends_with : mg "order_that_ends_with" = some (.ref (A 7))
  D_extreme_places : Fun K "extreme_places" "extreme_places" (topS 16) (A 8) (FD 8)
  g_extreme_places : mg "extreme_places" = some (.ref (A 8))
  D__law_cell : Fun K "_law_cell" "_law_cell" (topS 18) (A 9) (FD 9)
  g__law_cell : mg "_law_cell" = some (.ref (A 9))
  D__law_pool : Fun K "_law_pool" "_law_pool" (topS 19) (A 10) (FD 10)
  g__law_pool : mg "_law_pool" = some (.ref (A 10))
  D__law_draw : Fun K "_law_draw" "_law_draw" (topS 20) (A 11) (FD 11)
  g__law_draw : mg "_law_draw" = some (.ref (A 11))
  D__law_table : Fun K "_law_table" "_law_table" (topS 21) (A 12) (FD 12)
  g__law_table : mg "_law_table" = some (.ref (A 12))
  D__law_stand : Fun K "_law_stand" "_law_stand" (topS 22) (A 13) (FD 13)
  g__law_stand : mg "_law_stand" = some (.ref (A 13))
  D__law_orders : Fun K "_law_orders" "_law_orders" (topS 23) (A 14) (FD 14)
  g__law_orders : mg "_law_orders" = some (.ref (A 14))
  D__law_told_right : Fun K "_law_told_right" "_law_told_right" (topS 24) (A 15) (FD 15)
  g__law_told_right : mg "_law_told_right" = some (.ref (A 15))
  D__law_right : Fun K "_law_right" "_law_right" (topS 25) (A 16) (FD 16)
  g__law_right : mg "_law_right" = some (.ref (A 16))
  D_law : Fun K "law" "law" (topS 26) (A 17) (FD 17)
  g_law : mg "law" = some (.ref (A 17))
  n_abs : mg "abs" = none
  n_all : mg "all" = none
  n_bool : mg "bool" = none
  n_divmod : mg "divmod" = none
  n_enumerate : mg "enumerate" = none
  n_int : mg "int" = none
  n_isinstance : mg "isinstance" = none
  n_len : mg "len" = none
  n_list : mg "list" = none
  n_max : mg "max" = none
  n_min : mg "min" = none
  n_range : mg "range" = none
  n_repr : mg "repr" = none
  n_set : mg "set" = none
  n_sorted : mg "sorted" = none
  n_tuple : mg "tuple" = none
  c_MOST_COLUMNS : ∃ uv : Value × V, mg "MOST_COLUMNS" = some uv.1 ∧ RelV uv.2 uv.1 ∧ ∀ Z, DD K Z uv.2 cv_MOST_COLUMNS
  c_MOST_RECORDS : ∃ uv : Value × V, mg "MOST_RECORDS" = some uv.1 ∧ RelV uv.2 uv.1 ∧ ∀ Z, DD K Z uv.2 cv_MOST_RECORDS
  c_MOST_KEYS : ∃ uv : Value × V, mg "MOST_KEYS" = some uv.1 ∧ RelV uv.2 uv.1 ∧ ∀ Z, DD K Z uv.2 cv_MOST_KEYS
section
variable {P : Program} {w : World} {K : PySem.W.Frag} {mg : Str → Option Value} {base : Heap}

def mb_is_integer : DEnv → Option DFlow := (sRet (fAndV (fIsi "int" (rdF 0)) (fNotV (fIsi "bool" (rdF 0)))))
def m_is_integer := runF 1 1 mb_is_integer
theorem sc_is_integer : FnScope ["value"] ["value"] (defScope (topS 7)) := ⟨rfl, rfl, rfl, by decide +kernel, rfl, by decide +kernel, by decide +kernel⟩
theorem bd_is_integer (T : Tx Lab.T K mg base w) : BodyOk P w K mg base ["value"] "is_integer" (topS 7) (T.A 0) (T.FD 0).code 0 mb_is_integer := by
  have sc := sc_is_integer
  intro cdv A outer s H E F hcv hW hgd hr
  exact (dss_one (ds_ret (pd_and (pd_isi (kit_int K) T.n_isinstance T.n_int (by decide +kernel) (pd_name 0)) (pd_one (pd_not (pd_isi (kit_bool K) T.n_isinstance T.n_bool (by decide +kernel) (pd_name 0)))))))
theorem ok_is_integer (T : Tx Lab.T K mg base w) : FnG P w K mg base 1 (T.A 0) (T.FD 0) ["value"] (spF K 1 m_is_integer) :=
  fn_F T.D_is_integer sc_is_integer rfl rfl (bd_is_integer T)
theorem b_is_integer (T : Tx Lab.T K mg base w) : Binds K (T.FD 0) ["value"] [] := T.D_is_integer.binds fun _ _ _ _ _ _ us hl => match us, hl with | [_], _ => rfl
def mb_is_record : DEnv → Option DFlow := (sSeq (sIf (fOr (fNot (fTst (fIsi "tuple" (rdF 0)))) (fNot (fTst (fChain leD leD (fC (.int 1)) (fLenN 0) (fC cv_MOST_COLUMNS))))) (sRet (fC (.bool false))) sNil) (sRet (fCB allD (fCons (fFrz (nLc (iSeq (rdF 0)) (gSet 1) fYes (fCB m_is_integer (fCons (rdF 1) fNil)) [1])) fNil))))
def m_is_record := runF 1 2 mb_is_record
theorem sc_is_record : FnScope ["value", "part"] ["value"] (defScope (topS 8)) := ⟨rfl, rfl, rfl, by decide +kernel, rfl, by decide +kernel, by decide +kernel⟩
theorem bd_is_record (T : Tx Lab.T K mg base w) : BodyOk P w K mg base ["value", "part"] "is_record" (topS 8) (T.A 1) (T.FD 1).code 1 mb_is_record := by
  have sc := sc_is_record
  intro cdv A outer s H E F hcv hW hgd hr
  exact (dss_cons (ds_if (pdt_w (pdw_or (pdt_not (pdt_val (pd_isi (kit_tuple K) T.n_isinstance T.n_tuple (by decide +kernel) (pd_name 0)))) (pdw_or1 (pdt_not (pdt_chain od_le od_le intD_b pd_int (pd_lenN 0 T.n_len) (pd_glob (T.c_MOST_COLUMNS).choose_spec.1 (T.c_MOST_COLUMNS).choose_spec.2.1 (T.c_MOST_COLUMNS).choose_spec.2.2)))))) (dss_one (ds_ret pd_bl)) dss_nil)
    (dss_one (ds_ret (pd_callB (cd_all rfl) T.n_all (by decide +kernel) (pda_cons (pn_pd (pn_lc [("part", 1)] sc.nd (di_seq (pd_name 0)) (blkOk_by (own := [("part", 1)]) (by kernel_rfl)) (fun _ _ _ _ _ => (gn_name 1 sc.nd)) (fun _ _ _ _ _ => dts_nil) (fun _ _ _ _ _ => (pd_call ((ok_is_integer T).mono (by decide)) runF_len hgd hr T.g_is_integer T.D_is_integer.kp (b_is_integer T) (pda_cons (pd_name 1) pda_nil))))) pda_nil)))))
theorem ok_is_record (T : Tx Lab.T K mg base w) : FnG P w K mg base 2 (T.A 1) (T.FD 1) ["value"] (spF K 1 m_is_record) :=
  fn_F T.D_is_record sc_is_record rfl rfl (bd_is_record T)
theorem b_is_record (T : Tx Lab.T K mg base w) : Binds K (T.FD 1) ["value"] [] := T.D_is_record.binds fun _ _ _ _ _ _ us hl => match us, hl with | [_], _ => rfl
def mb_check_table : DEnv → Option DFlow := (sSeq (sIf (fOr (fNot (fTst (fIsi "tuple" (rdF 0)))) (fNot (fTst (fChain leD leD (fC (.int 1)) (fLenN 0) (fC cv_MOST_RECORDS))))) sNone sNil) (sFor (iArg enumTA (fCons (rdF 0) fNil)) (gTupD 2 (gsCons (gSet 1) (gsCons (gSet 2) gsNil))) (sIf (fOr (fNot (fTst (fCB m_is_record (fCons (rdF 2) fNil)))) (fTst (fBin neD (fLenN 2) (fCB lenD (fCons (fIxN 0 (fC (.int 0))) fNil))))) sNone sNil)))
def m_check_table := runF 1 3 mb_check_table
theorem sc_check_table : FnScope ["table", "index", "record"] ["table"] (defScope (topS 9)) := ⟨rfl, rfl, rfl, by decide +kernel, rfl, by decide +kernel, by decide +kernel⟩
theorem bd_check_table (T : Tx Lab.T K mg base w) : BodyOk P w K mg base ["table", "index", "record"] "check_table" (topS 9) (T.A 2) (T.FD 2).code 2 mb_check_table := by
  have sc := sc_check_table
  intro cdv A outer s H E F hcv hW hgd hr
  exact (dss_cons (ds_if (pdt_w (pdw_or (pdt_not (pdt_val (pd_isi (kit_tuple K) T.n_isinstance T.n_tuple (by decide +kernel) (pd_name 0)))) (pdw_or1 (pdt_not (pdt_chain od_le od_le intD_b pd_int (pd_lenN 0 T.n_len) (pd_glob (T.c_MOST_RECORDS).choose_spec.1 (T.c_MOST_RECORDS).choose_spec.2.1 (T.c_MOST_RECORDS).choose_spec.2.2)))))) (dss_one ds_never) dss_nil)
    (dss_one (ds_for (di_enumA T.n_enumerate (pda_cons (pd_name 0) pda_nil)) (dg_tup (dgs_cons (dg_name 1 sc.nd) (dgs_cons (dg_name 2 sc.nd) dgs_nil))) (dss_one (ds_if (pdt_w (pdw_or (pdt_not (pdt_val (pd_call ((ok_is_record T).mono (by decide)) runF_len hgd hr T.g_is_record T.D_is_record.kp (b_is_record T) (pda_cons (pd_name 2) pda_nil)))) (pdw_or1 (pdt_cmp (od_ne hr) neD_b (pd_lenN 2 T.n_len) (pd_callB (cd_len) T.n_len (by decide +kernel) (pda_cons (pd_ixN 0 pd_int) pda_nil)))))) (dss_one ds_never) dss_nil)))))
theorem ok_check_table (T : Tx Lab.T K mg base w) : FnG P w K mg base 3 (T.A 2) (T.FD 2) ["table"] (spF K 1 m_check_table) :=
  fn_F T.D_check_table sc_check_table rfl rfl (bd_check_table T)
theorem b_check_table (T : Tx Lab.T K mg base w) : Binds K (T.FD 2) ["table"] [] := T.D_check_table.binds fun _ _ _ _ _ _ us hl => match us, hl with | [_], _ => rfl
def mb_every_place : DEnv → Option DFlow := (sRet (fTupRg (fLenN 0)))
def m_every_place := runF 1 1 mb_every_place
theorem sc_every_place : FnScope ["table"] ["table"] (defScope (topS 10)) := ⟨rfl, rfl, rfl, by decide +kernel, rfl, by decide +kernel, by decide +kernel⟩
theorem bd_every_place (T : Tx Lab.T K mg base w) : BodyOk P w K mg base ["table"] "every_place" (topS 10) (T.A 3) (T.FD 3).code 0 mb_every_place := by
  have sc := sc_every_place
  intro cdv A outer s H E F hcv hW hgd hr
  exact (dss_one (ds_ret (pd_tupRg T.n_tuple T.n_range (pd_lenN 0 T.n_len))))
theorem ok_every_place (T : Tx Lab.T K mg base w) : FnG P w K mg base 1 (T.A 3) (T.FD 3) ["table"] (spF K 1 m_every_place) :=
  fn_F T.D_every_place sc_every_place rfl rfl (bd_every_place T)
theorem b_every_place (T : Tx Lab.T K mg base w) : Binds K (T.FD 3) ["table"] [] := T.D_every_place.binds fun _ _ _ _ _ _ us hl => match us, hl with | [_], _ => rfl
def mb_sort_columns : DEnv → Option DFlow := (sRet (fFrz (nListRg (fCB minD (fCons (fCB lenD (fCons (fIxN 0 (fC (.int 0))) fNil)) (fCons (fC cv_MOST_KEYS) fNil))))))
def m_sort_columns := runF 1 1 mb_sort_columns
theorem sc_sort_columns : FnScope ["table"] ["table"] (defScope (topS 11)) := ⟨rfl, rfl, rfl, by decide +kernel, rfl, by decide +kernel, by decide +kernel⟩
theorem bd_sort_columns (T : Tx Lab.T K mg base w) : BodyOk P w K mg base ["table"] "sort_columns" (topS 11) (T.A 4) (T.FD 4).code 0 mb_sort_columns := by
  have sc := sc_sort_columns
  intro cdv A outer s H E F hcv hW hgd hr
  exact (dss_one (ds_ret (pn_pd (pn_listRg T.n_list T.n_range (pd_callB (cd_min rfl) T.n_min (by decide +kernel) (pda_cons (pd_callB (cd_len) T.n_len (by decide +kernel) (pda_cons (pd_ixN 0 pd_int) pda_nil)) (pda_cons (pd_glob (T.c_MOST_KEYS).choose_spec.1 (T.c_MOST_KEYS).choose_spec.2.1 (T.c_MOST_KEYS).choose_spec.2.2) pda_nil)))))))
theorem ok_sort_columns (T : Tx Lab.T K mg base w) : FnG P w K mg base 1 (T.A 4) (T.FD 4) ["table"] (spF K 1 m_sort_columns) :=
  fn_F T.D_sort_columns sc_sort_columns rfl rfl (bd_sort_columns T)
theorem b_sort_columns (T : Tx Lab.T K mg base w) : Binds K (T.FD 4) ["table"] [] := T.D_sort_columns.binds fun _ _ _ _ _ _ us hl => match us, hl with | [_], _ => rfl
def mb_edge_key : DEnv → Option DFlow := (sSeq (sFor (iSeq (fCB m_sort_columns (fCons (rdF 0) fNil))) (gSet 3) (sSeq (sSetN 4 (nLc (iSeq (rdF 1)) (gSet 6) fYes (fBin ixD (fIxN 0 (rdF 6)) (rdF 3)) [6])) (sSeq (sSet 5 (fBin ixD (fIxN 0 (rdF 2)) (rdF 3))) (sSeq (sIf (fAnd (fTst (fBin neD (fCB minLD (fCons (rdF 4) fNil)) (fCB maxLD (fCons (rdF 4) fNil)))) (fTst (fBin eqD (rdF 5) (fCB maxLD (fCons (rdF 4) fNil))))) (sRet (fTup (fCons (rdF 3) (fCons (fC (.str "up")) fNil)))) sNil) (sIf (fAnd (fTst (fBin neD (fCB minLD (fCons (rdF 4) fNil)) (fCB maxLD (fCons (rdF 4) fNil)))) (fTst (fBin eqD (rdF 5) (fCB minLD (fCons (rdF 4) fNil))))) (sRet (fTup (fCons (rdF 3) (fCons (fC (.str "down")) fNil)))) sNil))))) (sRet (fC .none)))
def m_edge_key := runF 3 7 mb_edge_key
theorem sc_edge_key : FnScope ["table", "group", "place", "column", "values", "value", "other"] ["table", "group", "place"] (defScope (topS 13)) := ⟨rfl, rfl, rfl, by decide +kernel, rfl, by decide +kernel, by decide +kernel⟩
theorem bd_edge_key (T : Tx Lab.T K mg base w) : BodyOk P w K mg base ["table", "group", "place", "column", "values", "value", "other"] "edge_key" (topS 13) (T.A 5) (T.FD 5).code 1 mb_edge_key := by
  have sc := sc_edge_key
  intro cdv A outer s H E F hcv hW hgd hr
  exact (dss_cons (ds_for (di_seq (pd_call ((ok_sort_columns T).mono (by decide)) runF_len hgd hr T.g_sort_columns T.D_sort_columns.kp (b_sort_columns T) (pda_cons (pd_name 0) pda_nil))) (dg_name 3 sc.nd) (dss_cons (ds_setLc 4 [("other", 6)] sc.nd (di_seq (pd_name 1)) (blkOk_by (own := [("other", 6)]) (by kernel_rfl)) (fun _ _ _ _ _ => (gn_name 6 sc.nd)) (fun _ _ _ _ _ => dts_nil) (fun _ _ _ _ _ => (pd_ix (pd_ixN 0 (pd_name 6)) (pd_name 3))) (sw_true rfl rfl rfl (by decide +kernel)))
      (dss_cons (ds_set 5 (pd_ix (pd_ixN 0 (pd_name 2)) (pd_name 3)) sc.nd)
      (dss_cons (ds_if (pdt_w (pdw_and (pdt_cmp (od_ne hr) neD_b (pd_callB (cd_minL rfl) T.n_min (by decide +kernel) (pda_cons (pd_name 4) pda_nil)) (pd_callB (cd_maxL rfl) T.n_max (by decide +kernel) (pda_cons (pd_name 4) pda_nil))) (pdw_and1 (pdt_cmp (od_eq hr) eqD_b (pd_name 5) (pd_callB (cd_maxL rfl) T.n_max (by decide +kernel) (pda_cons (pd_name 4) pda_nil)))))) (dss_one (ds_ret (pd_tup (pda_cons (pd_name 3) (pda_cons pd_str pda_nil))))) dss_nil)
      (dss_one (ds_if (pdt_w (pdw_and (pdt_cmp (od_ne hr) neD_b (pd_callB (cd_minL rfl) T.n_min (by decide +kernel) (pda_cons (pd_name 4) pda_nil)) (pd_callB (cd_maxL rfl) T.n_max (by decide +kernel) (pda_cons (pd_name 4) pda_nil))) (pdw_and1 (pdt_cmp (od_eq hr) eqD_b (pd_name 5) (pd_callB (cd_minL rfl) T.n_min (by decide +kernel) (pda_cons (pd_name 4) pda_nil)))))) (dss_one (ds_ret (pd_tup (pda_cons (pd_name 3) (pda_cons pd_str pda_nil))))) dss_nil))))))
    (dss_one (ds_ret pd_non)))
theorem ok_edge_key (T : Tx Lab.T K mg base w) : FnG P w K mg base 2 (T.A 5) (T.FD 5) ["table", "group", "place"] (spF K 3 m_edge_key) :=
  fn_F T.D_edge_key sc_edge_key rfl rfl (bd_edge_key T)
theorem b_edge_key (T : Tx Lab.T K mg base w) : Binds K (T.FD 5) ["table", "group", "place"] [] := T.D_edge_key.binds fun _ _ _ _ _ _ us hl => match us, hl with | [_, _, _], _ => rfl
def mb_keys_towards : DEnv → Option DFlow := (sSeq (sParND 3 4 (fLst fNil) (fCB tupleD (fCons (rdF 1) fNil))) (sSeq (sSet 5 (fCB m_edge_key (fCons (rdF 0) (fCons (rdF 4) (fCons (rdF 2) fNil))))) (sSeq (whileD (fTst (fBin notND (rdF 5) (fC .none))) (sSeq (sApp 3 (rdF 5)) (sSeq (sSet 4 (fCB tupleD (fCons (fFrz (nLc (iSeq (rdF 4)) (gSet 6) (fTst (fBin eqD (fBin ixD (fIxN 0 (rdF 6)) (fIxN 5 (fC (.int 0)))) (fBin ixD (fIxN 0 (rdF 2)) (fIxN 5 (fC (.int 0)))))) (rdF 6) [6])) fNil))) (sSet 5 (fCB m_edge_key (fCons (rdF 0) (fCons (rdF 4) (fCons (rdF 2) fNil))))))) 1000) (sRet (fTup (fCons (rdF 3) (fCons (rdF 4) fNil)))))))
def m_keys_towards := runF 3 7 mb_keys_towards
theorem sc_keys_towards : FnScope ["table", "kept", "place", "keys", "group", "key", "other"] ["table", "kept", "place"] (defScope (topS 14)) := ⟨rfl, rfl, rfl, by decide +kernel, rfl, by decide +kernel, by decide +kernel⟩
theorem bd_keys_towards (T : Tx Lab.T K mg base w) : BodyOk P w K mg base ["table", "kept", "place", "keys", "group", "key", "other"] "keys_towards" (topS 14) (T.A 6) (T.FD 6).code 2 mb_keys_towards := by
  have sc := sc_keys_towards
  intro cdv A outer s H E F hcv hW hgd hr
  exact (dss_cons (ds_parND 3 4 (by decide) (ps_par (i := 3) (j := 4) rfl sc.nd rfl rfl (by decide) rfl rfl (pa_cons (pn_lst pda_nil) (pa_cons (pd_callTy (cd_tuple) T.n_tuple (by decide +kernel) (pda_cons (pd_name 1) pda_nil)) pa_nil)) (by rfl)))
    (dss_cons (ds_set 5 (pd_call ((ok_edge_key T).mono (by decide)) runF_len hgd hr T.g_edge_key T.D_edge_key.kp (b_edge_key T) (pda_cons (pd_name 0) (pda_cons (pd_name 4) (pda_cons (pd_name 2) pda_nil)))) sc.nd)
    (dss_cons (ds_while 1000 (pdt_cmp od_notN notND_b (pd_name 5) pd_non) (dss_cons (ds_append 3 (pd_name 5))
      (dss_cons (ds_set 4 (pd_callTy (cd_tuple) T.n_tuple (by decide +kernel) (pda_cons (pn_pd (pn_lc [("other", 6)] sc.nd (di_seq (pd_name 4)) (blkOk_by (own := [("other", 6)]) (by kernel_rfl)) (fun _ _ _ _ _ => (gn_name 6 sc.nd)) (fun _ _ _ _ _ => (dts_one (pdt_cmp (od_eq hr) eqD_b (pd_ix (pd_ixN 0 (pd_name 6)) (pd_ixN 5 pd_int)) (pd_ix (pd_ixN 0 (pd_name 2)) (pd_ixN 5 pd_int))))) (fun _ _ _ _ _ => (pd_name 6)))) pda_nil)) sc.nd)
      (dss_one (ds_set 5 (pd_call ((ok_edge_key T).mono (by decide)) runF_len hgd hr T.g_edge_key T.D_edge_key.kp (b_edge_key T) (pda_cons (pd_name 0) (pda_cons (pd_name 4) (pda_cons (pd_name 2) pda_nil)))) sc.nd)))))
    (dss_one (ds_ret (pd_tup (pda_cons (pd_name 3) (pda_cons (pd_name 4) pda_nil))))))))
theorem ok_keys_towards (T : Tx Lab.T K mg base w) : FnG P w K mg base 3 (T.A 6) (T.FD 6) ["table", "kept", "place"] (spF K 3 m_keys_towards) :=
  fn_F T.D_keys_towards sc_keys_towards rfl rfl (bd_keys_towards T)
theorem b_keys_towards (T : Tx Lab.T K mg base w) : Binds K (T.FD 6) ["table", "kept", "place"] [] := T.D_keys_towards.binds fun _ _ _ _ _ _ us hl => match us, hl with | [_, _, _], _ => rfl
def mb_order_that_ends_with : DEnv → Option DFlow := (sSeq (sAsg (fCB m_keys_towards (fCons (rdF 0) (fCons (rdF 1) (fCons (rdF 2) fNil)))) (gTupD 2 (gsCons (gSet 3) (gsCons (gSet 4) gsNil)))) (sSeq (sIf (fTst (fBin eqD (rdF 2) (fIxN 4 (fNeg (fC (.int 1)))))) (sRet (fCB tupleD (fCons (fFrz (nAdd (rdF 3) (fFrz (fLst (fCons (fTup (fCons (fC (.str "place")) (fCons (fC (.str "up")) fNil))) fNil))))) fNil))) sNil) (sSeq (sIf (fTst (fBin eqD (rdF 2) (fIxN 4 (fC (.int 0))))) (sRet (fCB tupleD (fCons (fFrz (nAdd (rdF 3) (fFrz (fLst (fCons (fTup (fCons (fC (.str "place")) (fCons (fC (.str "down")) fNil))) fNil))))) fNil))) sNil) (sRet (fC .none)))))
def m_order_that_ends_with := runF 3 5 mb_order_that_ends_with
theorem sc_order_that_ends_with : FnScope ["table", "kept", "place", "keys", "group"] ["table", "kept", "place"] (defScope (topS 15)) := ⟨rfl, rfl, rfl, by decide +kernel, rfl, by decide +kernel, by decide +kernel⟩
theorem bd_order_that_ends_with (T : Tx Lab.T K mg base w) : BodyOk P w K mg base ["table", "kept", "place", "keys", "group"] "order_that_ends_with" (topS 15) (T.A 7) (T.FD 7).code 3 mb_order_that_ends_with := by
  have sc := sc_order_that_ends_with
  intro cdv A outer s H E F hcv hW hgd hr
  exact (dss_cons (ds_asg (pd_call ((ok_keys_towards T).mono (by decide)) runF_len hgd hr T.g_keys_towards T.D_keys_towards.kp (b_keys_towards T) (pda_cons (pd_name 0) (pda_cons (pd_name 1) (pda_cons (pd_name 2) pda_nil)))) (dg_tup (dgs_cons (dg_name 3 sc.nd) (dgs_cons (dg_name 4 sc.nd) dgs_nil))))
    (dss_cons (ds_if (pdt_cmp (od_eq hr) eqD_b (pd_name 2) (pd_ixN 4 (pd_neg pd_int))) (dss_one (ds_ret (pd_callTy (cd_tuple) T.n_tuple (by decide +kernel) (pda_cons (pn_pd (pn_addL (pd_name 3) (pn_pd (pn_lst (pda_cons (pd_tup (pda_cons pd_str (pda_cons pd_str pda_nil))) pda_nil))))) pda_nil)))) dss_nil)
    (dss_cons (ds_if (pdt_cmp (od_eq hr) eqD_b (pd_name 2) (pd_ixN 4 pd_int)) (dss_one (ds_ret (pd_callTy (cd_tuple) T.n_tuple (by decide +kernel) (pda_cons (pn_pd (pn_addL (pd_name 3) (pn_pd (pn_lst (pda_cons (pd_tup (pda_cons pd_str (pda_cons pd_str pda_nil))) pda_nil))))) pda_nil)))) dss_nil)
    (dss_one (ds_ret pd_non)))))
theorem ok_order_that_ends_with (T : Tx Lab.T K mg base w) : FnG P w K mg base 4 (T.A 7) (T.FD 7) ["table", "kept", "place"] (spF K 3 m_order_that_ends_with) :=
  fn_F T.D_order_that_ends_with sc_order_that_ends_with rfl rfl (bd_order_that_ends_with T)
theorem b_order_that_ends_with (T : Tx Lab.T K mg base w) : Binds K (T.FD 7) ["table", "kept", "place"] [] := T.D_order_that_ends_with.binds fun _ _ _ _ _ _ us hl => match us, hl with | [_, _, _], _ => rfl
def mb_extreme_places : DEnv → Option DFlow := (sSeq (sExpr (fCB m_check_table (fCons (rdF 0) fNil))) (sSeq (sSet 1 (fCB m_every_place (fCons (rdF 0) fNil))) (sRet (fCB tupleD (fCons (fFrz (nLc (iSeq (rdF 1)) (gSet 2) (fTst (fBin notND (fCB m_order_that_ends_with (fCons (rdF 0) (fCons (rdF 1) (fCons (rdF 2) fNil)))) (fC .none))) (rdF 2) [2])) fNil)))))
def m_extreme_places := runF 1 3 mb_extreme_places
theorem sc_extreme_places : FnScope ["table", "places", "place"] ["table"] (defScope (topS 16)) := ⟨rfl, rfl, rfl, by decide +kernel, rfl, by decide +kernel, by decide +kernel⟩
theorem bd_extreme_places (T : Tx Lab.T K mg base w) : BodyOk P w K mg base ["table", "places", "place"] "extreme_places" (topS 16) (T.A 8) (T.FD 8).code 4 mb_extreme_places := by
  have sc := sc_extreme_places
  intro cdv A outer s H E F hcv hW hgd hr
  exact (dss_cons (ds_expr (pd_call ((ok_check_table T).mono (by decide)) runF_len hgd hr T.g_check_table T.D_check_table.kp (b_check_table T) (pda_cons (pd_name 0) pda_nil)))
    (dss_cons (ds_set 1 (pd_call ((ok_every_place T).mono (by decide)) runF_len hgd hr T.g_every_place T.D_every_place.kp (b_every_place T) (pda_cons (pd_name 0) pda_nil)) sc.nd)
    (dss_one (ds_ret (pd_callTy (cd_tuple) T.n_tuple (by decide +kernel) (pda_cons (pn_pd (pn_lc [("place", 2)] sc.nd (di_seq (pd_name 1)) (blkOk_by (own := [("place", 2)]) (by kernel_rfl)) (fun _ _ _ _ _ => (gn_name 2 sc.nd)) (fun _ _ _ _ _ => (dts_one (pdt_cmp od_notN notND_b (pd_call ((ok_order_that_ends_with T).mono (by decide)) runF_len hgd hr T.g_order_that_ends_with T.D_order_that_ends_with.kp (b_order_that_ends_with T) (pda_cons (pd_name 0) (pda_cons (pd_name 1) (pda_cons (pd_name 2) pda_nil)))) pd_non))) (fun _ _ _ _ _ => (pd_name 2)))) pda_nil))))))
theorem ok_extreme_places (T : Tx Lab.T K mg base w) : FnG P w K mg base 5 (T.A 8) (T.FD 8) ["table"] (spF K 1 m_extreme_places) :=
  fn_F T.D_extreme_places sc_extreme_places rfl rfl (bd_extreme_places T)
theorem b_extreme_places (T : Tx Lab.T K mg base w) : Binds K (T.FD 8) ["table"] [] := T.D_extreme_places.binds fun _ _ _ _ _ _ us hl => match us, hl with | [_], _ => rfl
variable [LabR]
def mb__law_cell : DEnv → Option DFlow := (sSeq (sIf (fTst (fBin ltD (rdF 1) (fLenN 0))) (sRet (fIxN 0 (rdF 1))) sNil) (sSeq (sSet 2 (fBin modD (fBin mulD (fC (.int 60013)) (fBin addD (fBin addD (fBin mulD (rdF 1) (rdF 1)) (fBin mulD (fC (.int 5)) (rdF 1))) (fC (.int 3)))) (fC (.int 2147483249)))) (sSeq (sFor (iSeq (fSl (rdF 0) oNone (oSome (fC (.int 3))))) (gSet 3) (sSet 2 (fBin modD (fBin addD (fBin mulD (rdF 2) (fC (.int 41221))) (rdF 3)) (fC (.int 2147483249))))) (sRet (rdF 2)))))
def m__law_cell := runF 2 4 mb__law_cell
theorem sc__law_cell : FnScope ["_law_script", "_law_k", "_law_state", "_law_figure"] ["_law_script", "_law_k"] (defScope (topS 18)) := ⟨rfl, rfl, rfl, by decide +kernel, rfl, by decide +kernel, by decide +kernel⟩
theorem bd__law_cell (T : Tx Lab.T K mg base w) : BodyOk P w K mg base ["_law_script", "_law_k", "_law_state", "_law_figure"] "_law_cell" (topS 18) (T.A 9) (T.FD 9).code 0 mb__law_cell := by
  have sc := sc__law_cell
  intro cdv A outer s H E F hcv hW hgd hr
  exact (dss_cons (ds_if (pdt_cmp od_lt intD_b (pd_name 1) (pd_lenN 0 T.n_len)) (dss_one (ds_ret (pd_ixN 0 (pd_name 1)))) dss_nil)
    (dss_cons (ds_set 2 (pd_bin od_mod (pd_bin od_mul pd_int (pd_bin od_add (pd_bin od_add (pd_bin od_mul (pd_name 1) (pd_name 1)) (pd_bin od_mul pd_int (pd_name 1))) pd_int)) pd_int) sc.nd)
    (dss_cons (ds_for (di_seq (pd_slice (pd_name 0) do_none (do_some pd_int))) (dg_name 3 sc.nd) (dss_one (ds_set 2 (pd_bin od_mod (pd_bin od_add (pd_bin od_mul (pd_name 2) pd_int) (pd_name 3)) pd_int) sc.nd)))
    (dss_one (ds_ret (pd_name 2))))))
theorem ok__law_cell (T : Tx Lab.T K mg base w) : FnG P w K mg base 1 (T.A 9) (T.FD 9) ["_law_script", "_law_k"] (spF K 2 m__law_cell) :=
  fn_F T.D__law_cell sc__law_cell rfl rfl (bd__law_cell T)
theorem b__law_cell (T : Tx Lab.T K mg base w) : Binds K (T.FD 9) ["_law_script", "_law_k"] [] := T.D__law_cell.binds fun _ _ _ _ _ _ us hl => match us, hl with | [_, _], _ => rfl
def mb__law_pool : DEnv → Option DFlow := (sSeq (sSet 1 (fIf (fOr (fTst (fBin ltD (rdF 0) (fC (.int 0)))) (fTst (fBin geD (rdF 0) (fBin powD (fC (.int 10)) (fC (.int 18)))))) (fCB absD (fCons (rdF 0) fNil)) (fC (.int 0)))) (sRetN (fLst (fCons (fBin modD (rdF 0) (fC (.int 2147483249))) (fCons (rdF 1) (fCons (fC (.int 0)) fNil))))))
def m__law_pool := runN 1 2 mb__law_pool
theorem sc__law_pool : FnScope ["_law_figure", "_law_digits"] ["_law_figure"] (defScope (topS 19)) := ⟨rfl, rfl, rfl, by decide +kernel, rfl, by decide +kernel, by decide +kernel⟩
theorem bd__law_pool (T : Tx Lab.T K mg base w) : BodyOk P w K mg base ["_law_figure", "_law_digits"] "_law_pool" (topS 19) (T.A 10) (T.FD 10).code 0 mb__law_pool := by
  have sc := sc__law_pool
  intro cdv A outer s H E F hcv hW hgd hr
  exact (dss_cons (ds_set 1 (pd_if (pdt_w (pdw_or (pdt_cmp od_lt intD_b (pd_name 0) pd_int) (pdw_or1 (pdt_cmp od_ge intD_b (pd_name 0) (pd_bin od_pow pd_int pd_int))))) (pd_callB (cd_abs) T.n_abs (by decide +kernel) (pda_cons (pd_name 0) pda_nil)) pd_int) sc.nd)
    (dss_one (ds_retN (pn_lst (pda_cons (pd_bin od_mod (pd_name 0) pd_int) (pda_cons (pd_name 1) (pda_cons pd_int pda_nil)))))))
theorem ok__law_pool (T : Tx Lab.T K mg base w) : FnG P w K mg base 1 (T.A 10) (T.FD 10) ["_law_figure"] (spN K 1 m__law_pool) :=
  fn_N T.D__law_pool sc__law_pool rfl rfl (bd__law_pool T)
theorem b__law_pool (T : Tx Lab.T K mg base w) : Binds K (T.FD 10) ["_law_figure"] [] := T.D__law_pool.binds fun _ _ _ _ _ _ us hl => match us, hl with | [_], _ => rfl
def mb__law_draw : DEnv → Option DFlow := (sSeq (sAsg (fBin addD (fIxN 0 (fC (.int 2))) (fC (.int 1))) (gSubD 0 (fC (.int 2)))) (sSeq (sSet 2 (fIxN 0 (fC (.int 0)))) (sSeq (sAsg (fBin modD (fBin addD (fBin mulD (rdF 2) (fBin addD (fBin modD (rdF 2) (fC (.int 50021))) (fC (.int 30011)))) (fBin mulD (fC (.int 80021)) (fIxN 0 (fC (.int 2))))) (fC (.int 2147483249))) (gSubD 0 (fC (.int 0)))) (sSeq (sIf (fTst (fBin gtD (fIxN 0 (fC (.int 1))) (fC (.int 0)))) (sSeq (sAsg (fCB divmodB (fCons (fIxN 0 (fC (.int 1))) (fCons (rdF 1) fNil))) (gTupD 2 (gsCons (gSubD 0 (fC (.int 1))) (gsCons (gSet 3) gsNil)))) (sRet (rdF 3))) sNil) (sRet (fBin modD (fBin fdivD (fIxN 0 (fC (.int 0))) (fC (.int 64))) (rdF 1)))))))
def m__law_draw := runR 2 4 mb__law_draw
theorem sc__law_draw : FnScope ["_law_pool_here", "_law_most", "_law_state", "_law_digit"] ["_law_pool_here", "_law_most"] (defScope (topS 20)) := ⟨rfl, rfl, rfl, by decide +kernel, rfl, by decide +kernel, by decide +kernel⟩
theorem bd__law_draw (T : Tx Lab.T K mg base w) : BodyOk P w K mg base ["_law_pool_here", "_law_most", "_law_state", "_law_digit"] "_law_draw" (topS 20) (T.A 11) (T.FD 11).code 0 mb__law_draw := by
  have sc := sc__law_draw
  intro cdv A outer s H E F hcv hW hgd hr
  exact (dss_cons (ds_asg (pd_bin od_add (pd_ixN 0 pd_int) pd_int) (dg_sub 0 pd_int))
    (dss_cons (ds_set 2 (pd_ixN 0 pd_int) sc.nd)
    (dss_cons (ds_asg (pd_bin od_mod (pd_bin od_add (pd_bin od_mul (pd_name 2) (pd_bin od_add (pd_bin od_mod (pd_name 2) pd_int) pd_int)) (pd_bin od_mul pd_int (pd_ixN 0 pd_int))) pd_int) (dg_sub 0 pd_int))
    (dss_cons (ds_if (pdt_cmp od_gt intD_b (pd_ixN 0 pd_int) pd_int) (dss_cons (ds_asg (pd_callB cd_divmodB T.n_divmod (by decide +kernel) (pda_cons (pd_ixN 0 pd_int) (pda_cons (pd_name 1) pda_nil))) (dg_tup (dgs_cons (dg_sub 0 pd_int) (dgs_cons (dg_name 3 sc.nd) dgs_nil))))
      (dss_one (ds_ret (pd_name 3)))) dss_nil)
    (dss_one (ds_ret (pd_bin od_mod (pd_bin od_fdiv (pd_ixN 0 pd_int) pd_int) (pd_name 1))))))))
theorem ok__law_draw (T : Tx Lab.T K mg base w) : FnG P w K mg base 1 (T.A 11) (T.FD 11) ["_law_pool_here", "_law_most"] (spR K 2 m__law_draw) :=
  fn_R T.D__law_draw sc__law_draw rfl rfl (bd__law_draw T)
theorem b__law_draw (T : Tx Lab.T K mg base w) : Binds K (T.FD 11) ["_law_pool_here", "_law_most"] [] := T.D__law_draw.binds fun _ _ _ _ _ _ us hl => match us, hl with | [_, _], _ => rfl
def mb__law_table : DEnv → Option DFlow := (sSeq (sPar 3 4 (fCons (fBin addD (fC (.int 1)) (fCR 0 m__law_draw (fCons (rdF 2) fNil))) (fCons (fBin addD (fC (.int 1)) (fCR 0 m__law_draw (fCons (rdF 1) fNil))) fNil))) (sSeq (sSet 5 (fBin ixD (fFrz (fLst (fCons (fC (.int 2)) (fCons (fC (.int 3)) (fCons (fC (.int 9)) (fCons (fC (.int 1000)) fNil)))))) (fCR 0 m__law_draw (fCons (fC (.int 4)) fNil)))) (sSeq (sSetN 6 (fLst fNil)) (sSeq (sFor (iArg rng1 (fCons (rdF 4) fNil)) (gSet 7) (sIf (fAnd (fTst (fCmpL neD 6 (fFrz (fLst fNil)))) (fTst (fBin eqD (fCR 0 m__law_draw (fCons (fC (.int 6)) fNil)) (fC (.int 0))))) (sApp 6 (fIxN 6 (fCR 0 m__law_draw (fCons (fLenN 6) fNil)))) (sApp 6 (fCB tupleD (fCons (fFrz (nLc (iArg rng1 (fCons (rdF 3) fNil)) (gSet 8) fYes (fBin subD (fCR 0 m__law_draw (fCons (rdF 5) fNil)) (fBin fdivD (rdF 5) (fC (.int 2)))) [8])) fNil))))) (sRet (fCB tupleD (fCons (rdF 6) fNil)))))))
def m__law_table := runR 3 9 mb__law_table
theorem sc__law_table : FnScope ["_law_pool_here", "_law_most", "_law_wide", "_law_sides", "_law_many", "_law_spread", "_law_found", "_law_turn", "_law_side"] ["_law_pool_here", "_law_most", "_law_wide"] (defScope (topS 21)) := ⟨rfl, rfl, rfl, by decide +kernel, rfl, by decide +kernel, by decide +kernel⟩
theorem bd__law_table (T : Tx Lab.T K mg base w) : BodyOk P w K mg base ["_law_pool_here", "_law_most", "_law_wide", "_law_sides", "_law_many", "_law_spread", "_law_found", "_law_turn", "_law_side"] "_law_table" (topS 21) (T.A 12) (T.FD 12).code 1 mb__law_table := by
  have sc := sc__law_table
  intro cdv A outer s H E F hcv hW hgd hr
  exact (dss_cons (ds_par 3 4 (ps_par (i := 3) (j := 4) rfl sc.nd rfl rfl (by decide) rfl rfl (pda_cons (pd_bin od_add pd_int (pd_callR 0 ((ok__law_draw T).mono (by decide)) runR_len hgd hr T.g__law_draw T.D__law_draw.kp (b__law_draw T) (pda_cons (pd_name 2) pda_nil))) (pda_cons (pd_bin od_add pd_int (pd_callR 0 ((ok__law_draw T).mono (by decide)) runR_len hgd hr T.g__law_draw T.D__law_draw.kp (b__law_draw T) (pda_cons (pd_name 1) pda_nil))) pda_nil)) (by rfl)))
    (dss_cons (ds_set 5 (pd_ix (pn_pd (pn_lst (pda_cons pd_int (pda_cons pd_int (pda_cons pd_int (pda_cons pd_int pda_nil)))))) (pd_callR 0 ((ok__law_draw T).mono (by decide)) runR_len hgd hr T.g__law_draw T.D__law_draw.kp (b__law_draw T) (pda_cons pd_int pda_nil))) sc.nd)
    (dss_cons (ds_setN 6 (pn_lst pda_nil) sc.nd)
    (dss_cons (ds_for (di_range1 T.n_range (pda_cons (pd_name 4) pda_nil)) (dg_name 7 sc.nd) (dss_one (ds_if (pdt_w (pdw_and (pdt_cmpL (od_ne hr) neD_scal neD_b 6 (pn_pd (pn_lst pda_nil))) (pdw_and1 (pdt_cmp (od_eq hr) eqD_b (pd_callR 0 ((ok__law_draw T).mono (by decide)) runR_len hgd hr T.g__law_draw T.D__law_draw.kp (b__law_draw T) (pda_cons pd_int pda_nil)) pd_int)))) (dss_one (ds_append 6 (pd_ixN 6 (pd_callR 0 ((ok__law_draw T).mono (by decide)) runR_len hgd hr T.g__law_draw T.D__law_draw.kp (b__law_draw T) (pda_cons (pd_lenN 6 T.n_len) pda_nil))))) (dss_one (ds_append 6 (pd_callTy (cd_tuple) T.n_tuple (by decide +kernel) (pda_cons (pn_pd (pn_lc [("_law_side", 8)] sc.nd (di_range1 T.n_range (pda_cons (pd_name 3) pda_nil)) (blkOk_by (own := [("_law_side", 8)]) (by kernel_rfl)) (fun _ _ _ _ _ => (gn_name 8 sc.nd)) (fun _ _ _ _ _ => dts_nil) (fun _ _ _ _ _ => (pd_bin od_sub (pd_callR 0 ((ok__law_draw T).mono (by decide)) runR_len hgd hr T.g__law_draw T.D__law_draw.kp (b__law_draw T) (pda_cons (pd_name 5) pda_nil)) (pd_bin od_fdiv (pd_name 5) pd_int))))) pda_nil)))))))
    (dss_one (ds_ret (pd_callTy (cd_tuple) T.n_tuple (by decide +kernel) (pda_cons (pd_name 6) pda_nil))))))))
theorem ok__law_table (T : Tx Lab.T K mg base w) : FnG P w K mg base 2 (T.A 12) (T.FD 12) ["_law_pool_here", "_law_most", "_law_wide"] (spR K 3 m__law_table) :=
  fn_R T.D__law_table sc__law_table rfl rfl (bd__law_table T)
theorem b__law_table (T : Tx Lab.T K mg base w) : Binds K (T.FD 12) ["_law_pool_here", "_law_most", "_law_wide"] [] := T.D__law_table.binds fun _ _ _ _ _ _ us hl => match us, hl with | [_, _, _], _ => rfl
def mb__law_stand : DEnv → Option DFlow := (sSeq (sSetN 3 (nListOf (rdF 1))) (sSeq (sFor (iSeq (fRev (rdF 2))) (gTupD 2 (gsCons (gSet 4) (gsCons (gSet 5) gsNil))) (sSeq (sSetN 6 (nLcH 3 (gSet 8) fYes (fIf (fTst (fBin eqD (rdF 4) (fC (.str "place")))) (rdF 8) (fBin ixD (fIxN 0 (rdF 8)) (rdF 4))) [8])) (sSeq (sSetN 7 (nSortP (fFrz (nLc (iArg rng1 (fCons (fLenN 3) fNil)) (gSet 10) fYes (fTup (fCons (fIf (fTst (fBin eqD (rdF 5) (fC (.str "up")))) (fIxN 6 (rdF 10)) (fBin subD (fC (.int 0)) (fIxN 6 (rdF 10)))) (fCons (rdF 10) fNil))) [10])))) (sSetN 3 (nLc (iSeq (rdF 7)) (gTupD 2 (gsCons (gSet 9) (gsCons (gSet 10) gsNil))) fYes (fIxN 3 (rdF 10)) [9, 10]))))) (sRet (fCB tupleD (fCons (rdF 3) fNil)))))
def m__law_stand := runF 3 11 mb__law_stand
theorem sc__law_stand : FnScope ["_law_records", "_law_spots", "_law_order", "_law_found", "_law_side", "_law_way", "_law_worths", "_law_pairs", "_law_spot", "_law_worth", "_law_k"] ["_law_records", "_law_spots", "_law_order"] (defScope (topS 22)) := ⟨rfl, rfl, rfl, by decide +kernel, rfl, by decide +kernel, by decide +kernel⟩
theorem bd__law_stand (T : Tx Lab.T K mg base w) : BodyOk P w K mg base ["_law_records", "_law_spots", "_law_order", "_law_found", "_law_side", "_law_way", "_law_worths", "_law_pairs", "_law_spot", "_law_worth", "_law_k"] "_law_stand" (topS 22) (T.A 13) (T.FD 13).code 0 mb__law_stand := by
  have sc := sc__law_stand
  intro cdv A outer s H E F hcv hW hgd hr
  exact (dss_cons (ds_setN 3 (pn_listOf T.n_list (pd_name 1)) sc.nd)
    (dss_cons (ds_for (di_seq (pd_rev (pd_name 2))) (dg_tup (dgs_cons (dg_name 4 sc.nd) (dgs_cons (dg_name 5 sc.nd) dgs_nil))) (dss_cons (ds_setN 6 (pn_lcH 3 [("_law_spot", 8)] sc.nd (blkOk_by (own := [("_law_spot", 8)]) (by kernel_rfl)) (fun _ _ _ _ _ => (gn_name 8 sc.nd)) (fun _ _ _ _ _ => dts_nil) (fun _ _ _ _ _ => (pd_if (pdt_cmp (od_eq hr) eqD_b (pd_name 4) pd_str) (pd_name 8) (pd_ix (pd_ixN 0 (pd_name 8)) (pd_name 4))))) sc.nd)
      (dss_cons (ds_setN 7 (pn_sortP T.n_sorted (pn_pd (pn_lc [("_law_k", 10)] sc.nd (di_range1 T.n_range (pda_cons (pd_lenN 3 T.n_len) pda_nil)) (blkOk_by (own := [("_law_k", 10)]) (by kernel_rfl)) (fun _ _ _ _ _ => (gn_name 10 sc.nd)) (fun _ _ _ _ _ => dts_nil) (fun _ _ _ _ _ => (pd_tup (pda_cons (pd_if (pdt_cmp (od_eq hr) eqD_b (pd_name 5) pd_str) (pd_ixN 6 (pd_name 10)) (pd_bin od_sub pd_int (pd_ixN 6 (pd_name 10)))) (pda_cons (pd_name 10) pda_nil))))))) sc.nd)
      (dss_one (ds_setN 3 (pn_lc [("_law_worth", 9), ("_law_k", 10)] sc.nd (di_seq (pd_name 7)) (blkOk_by (own := [("_law_worth", 9), ("_law_k", 10)]) (by kernel_rfl)) (fun _ _ _ _ _ => (gn_tup (gns_cons (gn_name 9 sc.nd) (gns_cons (gn_name 10 sc.nd) gns_nil)))) (fun _ _ _ _ _ => dts_nil) (fun _ _ _ _ _ => (pd_ixN 3 (pd_name 10)))) sc.nd)))))
    (dss_one (ds_ret (pd_callTy (cd_tuple) T.n_tuple (by decide +kernel) (pda_cons (pd_name 3) pda_nil))))))
theorem ok__law_stand (T : Tx Lab.T K mg base w) : FnG P w K mg base 1 (T.A 13) (T.FD 13) ["_law_records", "_law_spots", "_law_order"] (spF K 3 m__law_stand) :=
  fn_F T.D__law_stand sc__law_stand rfl rfl (bd__law_stand T)
theorem b__law_stand (T : Tx Lab.T K mg base w) : Binds K (T.FD 13) ["_law_records", "_law_spots", "_law_order"] [] := T.D__law_stand.binds fun _ _ _ _ _ _ us hl => match us, hl with | [_, _, _], _ => rfl
def mb__law_orders : DEnv → Option DFlow := (sSeq (sParN 1 2 (fLst (fCons (fTup fNil) fNil)) (fLst fNil)) (sSeq (whileD (fTst (fCmpL neD 1 (fFrz (fLst fNil)))) (sSeq (sSetN 3 (fLst fNil)) (sSeq (sFor (iSeq (rdF 1)) (gSet 4) (sSeq (sExt 2 (fFrz (nLc (iSeq (fFrz (fLst (fCons (fC (.str "up")) (fCons (fC (.str "down")) fNil))))) (gSet 8) fYes (fBin addD (rdF 4) (fTup (fCons (fTup (fCons (fC (.str "place")) (fCons (rdF 8) fNil))) fNil))) [8]))) (sSeq (sSetN 5 (nLc (iSeq (rdF 4)) (gSet 7) fYes (fIxN 7 (fC (.int 0))) [7])) (sFor (iSeq (fFrz (nLc (iArg rng1 (fCons (rdF 0) fNil)) (gSet 6) (fTst (fCmpN notInD (rdF 6) 5)) (rdF 6) [6]))) (gSet 6) (sExt 3 (fFrz (nLc (iSeq (fFrz (fLst (fCons (fC (.str "up")) (fCons (fC (.str "down")) fNil))))) (gSet 8) fYes (fBin addD (rdF 4) (fTup (fCons (fTup (fCons (rdF 6) (fCons (rdF 8) fNil))) fNil))) [8]))))))) (sSet 1 (rdF 3)))) 40) (sRet (rdF 2))))
def m__law_orders := runF 1 9 mb__law_orders
theorem sc__law_orders : FnScope ["_law_wide", "_law_heads", "_law_found", "_law_longer", "_law_head", "_law_used", "_law_side", "_law_key", "_law_way"] ["_law_wide"] (defScope (topS 23)) := ⟨rfl, rfl, rfl, by decide +kernel, rfl, by decide +kernel, by decide +kernel⟩
theorem bd__law_orders (T : Tx Lab.T K mg base w) : BodyOk P w K mg base ["_law_wide", "_law_heads", "_law_found", "_law_longer", "_law_head", "_law_used", "_law_side", "_law_key", "_law_way"] "_law_orders" (topS 23) (T.A 14) (T.FD 14).code 0 mb__law_orders := by
  have sc := sc__law_orders
  intro cdv A outer s H E F hcv hW hgd hr
  exact (dss_cons (ds_parN 1 2 (by decide) (ps_par (i := 1) (j := 2) rfl sc.nd rfl rfl (by decide) rfl rfl (pa_cons (pn_lst (pda_cons (pd_tup pda_nil) pda_nil)) (pa_cons (pn_lst pda_nil) pa_nil)) (by rfl)))
    (dss_cons (ds_while 40 (pdt_cmpL (od_ne hr) neD_scal neD_b 1 (pn_pd (pn_lst pda_nil))) (dss_cons (ds_setN 3 (pn_lst pda_nil) sc.nd)
      (dss_cons (ds_for (di_seq (pd_name 1)) (dg_name 4 sc.nd) (dss_cons (ds_extend 2 (pn_pd (pn_lc [("_law_way", 8)] sc.nd (di_seq (pn_pd (pn_lst (pda_cons pd_str (pda_cons pd_str pda_nil))))) (blkOk_by (own := [("_law_way", 8)]) (by kernel_rfl)) (fun _ _ _ _ _ => (gn_name 8 sc.nd)) (fun _ _ _ _ _ => dts_nil) (fun _ _ _ _ _ => (pd_bin od_add (pd_name 4) (pd_tup (pda_cons (pd_tup (pda_cons pd_str (pda_cons (pd_name 8) pda_nil))) pda_nil)))))))
        (dss_cons (ds_setN 5 (pn_lc [("_law_key", 7)] sc.nd (di_seq (pd_name 4)) (blkOk_by (own := [("_law_key", 7)]) (by kernel_rfl)) (fun _ _ _ _ _ => (gn_name 7 sc.nd)) (fun _ _ _ _ _ => dts_nil) (fun _ _ _ _ _ => (pd_ixN 7 pd_int))) sc.nd)
        (dss_one (ds_for (di_seq (pn_pd (pn_lc [("_law_side", 6)] sc.nd (di_range1 T.n_range (pda_cons (pd_name 0) pda_nil)) (blkOk_by (own := [("_law_side", 6)]) (by kernel_rfl)) (fun _ _ _ _ _ => (gn_name 6 sc.nd)) (fun _ _ _ _ _ => (dts_one (pdt_cmpN (od_notIn hr) notInD_scal notInD_b (pd_name 6) 5))) (fun _ _ _ _ _ => (pd_name 6))))) (dg_name 6 sc.nd) (dss_one (ds_extend 3 (pn_pd (pn_lc [("_law_way", 8)] sc.nd (di_seq (pn_pd (pn_lst (pda_cons pd_str (pda_cons pd_str pda_nil))))) (blkOk_by (own := [("_law_way", 8)]) (by kernel_rfl)) (fun _ _ _ _ _ => (gn_name 8 sc.nd)) (fun _ _ _ _ _ => dts_nil) (fun _ _ _ _ _ => (pd_bin od_add (pd_name 4) (pd_tup (pda_cons (pd_tup (pda_cons (pd_name 6) (pda_cons (pd_name 8) pda_nil))) pda_nil)))))))))))))
      (dss_one (ds_set 1 (pd_name 3) sc.nd)))))
    (dss_one (ds_ret (pd_name 2)))))
theorem ok__law_orders (T : Tx Lab.T K mg base w) : FnG P w K mg base 1 (T.A 14) (T.FD 14) ["_law_wide"] (spF K 1 m__law_orders) :=
  fn_F T.D__law_orders sc__law_orders rfl rfl (bd__law_orders T)
theorem b__law_orders (T : Tx Lab.T K mg base w) : Binds K (T.FD 14) ["_law_wide"] [] := T.D__law_orders.binds fun _ _ _ _ _ _ us hl => match us, hl with | [_], _ => rfl
def gd_extreme_places_table (ds : List PyData) : List PyData := match ds with
  | [x0] => [x0]
  | _ => ds
def gv_extreme_places_table (vs : List V) : List V := match vs with
  | [x0] => [x0]
  | _ => vs
def gu_extreme_places_table (vs : List Value) : List Value := match vs with
  | [x0] => [x0]
  | _ => vs
theorem gdd_extreme_places_table (K : PySem.W.Frag) (Z : Hp) (vs : List V) (ds : List PyData) (h : DDs K Z vs ds) : DDs K Z (gv_extreme_places_table vs) (gd_extreme_places_table ds) := by
  cases h with
  | nil => exact .nil
  | cons h0 h =>
    cases h with
    | nil => exact .cons h0 .nil
    | cons h1 h => exact .cons h0 (.cons h1 (h))
theorem gr_extreme_places_table {vs : List V} {us : List Value} (h : Vals vs us) : Vals (gv_extreme_places_table vs) (gu_extreme_places_table us) := by
  cases h with
  | nil => exact .nil
  | cons h0 h =>
    cases h with
    | nil => exact .cons h0 .nil
    | cons h1 h => exact .cons h0 (.cons h1 (h))
theorem kb_extreme_places_table (T : Tx Lab.T K mg base w) (s : Shared) (ws : List Value) (hl : (gu_extreme_places_table ws).length = 1) : BindsTo s (T.FD 8) ⟨[], (["table"] : List Str).zip ws⟩ ((["table"] : List Str).zip (gu_extreme_places_table ws)) := by
  obtain ⟨oc, od, kV, doc, pm, an, cdv, ct, osl, e, _, _⟩ := T.D_extreme_places.ex
  rw [e]
  match ws, hl with
  | [_], _ => exact .of_eq rfl
def mb__law_told_right : DEnv → Option DFlow := (sSeq (sParN 1 2 (nListRg (fLenN 0)) (fLst fNil)) (sSeq (sFor (iSeq (fCB m__law_orders (fCons (fCB lenD (fCons (fIxN 0 (fC (.int 0))) fNil)) fNil))) (gSet 3) (sApp 2 (fBin ixD (fCB m__law_stand (fCons (rdF 0) (fCons (rdF 1) (fCons (rdF 3) fNil)))) (fNeg (fC (.int 1)))))) (sSeq (sSetN 4 (fLst (fCons (fCB m_extreme_places (fCons (rdF 0) fNil)) (fCons (fCK0 gd_extreme_places_table m_extreme_places (fCons (rdF 0) fNil)) (fCons (fCB m_extreme_places (fCons (rdF 0) fNil)) fNil))))) (sRet (fBin eqD (fCB reprD (fCons (rdF 4) fNil)) (fCB reprD (fCons (fFrz (nRepL (fLst (fCons (fCB tupleD (fCons (fFrz (nSrtSetL (rdF 2))) fNil)) fNil)) (fC (.int 3)))) fNil)))))))
def m__law_told_right := runF 1 5 mb__law_told_right
theorem sc__law_told_right : FnScope ["_law_records", "_law_spots", "_law_lasts", "_law_order", "_law_told"] ["_law_records"] (defScope (topS 24)) := ⟨rfl, rfl, rfl, by decide +kernel, rfl, by decide +kernel, by decide +kernel⟩
theorem bd__law_told_right (T : Tx Lab.T K mg base w) : BodyOk P w K mg base ["_law_records", "_law_spots", "_law_lasts", "_law_order", "_law_told"] "_law_told_right" (topS 24) (T.A 15) (T.FD 15).code 5 mb__law_told_right := by
  have sc := sc__law_told_right
  intro cdv A outer s H E F hcv hW hgd hr
  exact (dss_cons (ds_parN 1 2 (by decide) (ps_par (i := 1) (j := 2) rfl sc.nd rfl rfl (by decide) rfl rfl (pa_cons (pn_listRg T.n_list T.n_range (pd_lenN 0 T.n_len)) (pa_cons (pn_lst pda_nil) pa_nil)) (by rfl)))
    (dss_cons (ds_for (di_seq (pd_call ((ok__law_orders T).mono (by decide)) runF_len hgd hr T.g__law_orders T.D__law_orders.kp (b__law_orders T) (pda_cons (pd_callB (cd_len) T.n_len (by decide +kernel) (pda_cons (pd_ixN 0 pd_int) pda_nil)) pda_nil))) (dg_name 3 sc.nd) (dss_one (ds_append 2 (pd_ix (pd_call ((ok__law_stand T).mono (by decide)) runF_len hgd hr T.g__law_stand T.D__law_stand.kp (b__law_stand T) (pda_cons (pd_name 0) (pda_cons (pd_name 1) (pda_cons (pd_name 3) pda_nil)))) (pd_neg pd_int)))))
    (dss_cons (ds_setN 4 (pn_lst (pda_cons (pd_call ((ok_extreme_places T).mono (by decide)) runF_len hgd hr T.g_extreme_places T.D_extreme_places.kp (b_extreme_places T) (pda_cons (pd_name 0) pda_nil)) (pda_cons (pd_callK0 (gd_extreme_places_table) (gdd_extreme_places_table) ((ok_extreme_places T).mono (by decide)) runF_len hgd hr T.g_extreme_places T.D_extreme_places.kp (kb_extreme_places_table T) gr_extreme_places_table (pdk_cons (pd_name 0) pdk_nil)) (pda_cons (pd_call ((ok_extreme_places T).mono (by decide)) runF_len hgd hr T.g_extreme_places T.D_extreme_places.kp (b_extreme_places T) (pda_cons (pd_name 0) pda_nil)) pda_nil)))) sc.nd)
    (dss_one (ds_ret (pd_cmp (od_eq hr) (pd_callB (cd_repr hr hgd LabR.on) T.n_repr (by decide +kernel) (pda_cons (pd_name 4) pda_nil)) (pd_callB (cd_repr hr hgd LabR.on) T.n_repr (by decide +kernel) (pda_cons (pn_pd (pn_repL (pn_lst (pda_cons (pd_callTy (cd_tuple) T.n_tuple (by decide +kernel) (pda_cons (pn_pd (pn_srtSetL T.n_sorted T.n_set (pd_name 2))) pda_nil)) pda_nil)) pd_int)) pda_nil))))))))
theorem ok__law_told_right (T : Tx Lab.T K mg base w) : FnG P w K mg base 6 (T.A 15) (T.FD 15) ["_law_records"] (spF K 1 m__law_told_right) :=
  fn_F T.D__law_told_right sc__law_told_right rfl rfl (bd__law_told_right T)
theorem b__law_told_right (T : Tx Lab.T K mg base w) : Binds K (T.FD 15) ["_law_records"] [] := T.D__law_told_right.binds fun _ _ _ _ _ _ us hl => match us, hl with | [_], _ => rfl
def mb__law_right : DEnv → Option DFlow := (sSeq (sIf (fNot (fTst (fCB allD (fCons (fFrz (nLc (iArg rng1 (fCons (fC (.int 4)) fNil)) (gSet 1) fYes (fCB m__law_told_right (fCons (fCR 0 m__law_table (fCons (fC (.int 8)) (fCons (fC (.int 3)) fNil))) fNil)) [1])) fNil)))) (sRet (fC (.bool false))) sNil) (sRet (fCB m__law_told_right (fCons (fCB tupleD (fCons (fFrz (nLc (iArg rng1 (fCons (fC (.int 6)) fNil)) (gSet 1) fYes (fCB tupleD (fCons (fFrz (nLc (iArg rng1 (fCons (fC (.int 4)) fNil)) (gSet 2) fYes (fCR 0 m__law_draw (fCons (fC (.int 3)) fNil)) [2])) fNil)) [1])) fNil)) fNil))))
def m__law_right := runR 1 3 mb__law_right
theorem sc__law_right : FnScope ["_law_pool_here", "_law_turn", "_law_side"] ["_law_pool_here"] (defScope (topS 25)) := ⟨rfl, rfl, rfl, by decide +kernel, rfl, by decide +kernel, by decide +kernel⟩
theorem bd__law_right (T : Tx Lab.T K mg base w) : BodyOk P w K mg base ["_law_pool_here", "_law_turn", "_law_side"] "_law_right" (topS 25) (T.A 16) (T.FD 16).code 6 mb__law_right := by
  have sc := sc__law_right
  intro cdv A outer s H E F hcv hW hgd hr
  exact (dss_cons (ds_if (pdt_not (pdt_val (pd_callB (cd_all rfl) T.n_all (by decide +kernel) (pda_cons (pn_pd (pn_lc [("_law_turn", 1)] sc.nd (di_range1 T.n_range (pda_cons pd_int pda_nil)) (blkOk_by (own := [("_law_turn", 1)]) (by kernel_rfl)) (fun _ _ _ _ _ => (gn_name 1 sc.nd)) (fun _ _ _ _ _ => dts_nil) (fun _ _ _ _ _ => (pd_call ((ok__law_told_right T).mono (by decide)) runF_len hgd hr T.g__law_told_right T.D__law_told_right.kp (b__law_told_right T) (pda_cons (pd_callR 0 ((ok__law_table T).mono (by decide)) runR_len hgd hr T.g__law_table T.D__law_table.kp (b__law_table T) (pda_cons pd_int (pda_cons pd_int pda_nil))) pda_nil))))) pda_nil)))) (dss_one (ds_ret pd_bl)) dss_nil)
    (dss_one (ds_ret (pd_call ((ok__law_told_right T).mono (by decide)) runF_len hgd hr T.g__law_told_right T.D__law_told_right.kp (b__law_told_right T) (pda_cons (pd_callTy (cd_tuple) T.n_tuple (by decide +kernel) (pda_cons (pn_pd (pn_lc [("_law_turn", 1)] sc.nd (di_range1 T.n_range (pda_cons pd_int pda_nil)) (blkOk_by (own := [("_law_turn", 1)]) (by kernel_rfl)) (fun _ _ _ _ _ => (gn_name 1 sc.nd)) (fun _ _ _ _ _ => dts_nil) (fun _ _ _ _ _ => (pd_callTy (cd_tuple) T.n_tuple (by decide +kernel) (pda_cons (pn_pd (pn_lc [("_law_side", 2)] sc.nd (di_range1 T.n_range (pda_cons pd_int pda_nil)) (blkOk_by (own := [("_law_side", 2)]) (by kernel_rfl)) (fun _ _ _ _ _ => (gn_name 2 sc.nd)) (fun _ _ _ _ _ => dts_nil) (fun _ _ _ _ _ => (pd_callR 0 ((ok__law_draw T).mono (by decide)) runR_len hgd hr T.g__law_draw T.D__law_draw.kp (b__law_draw T) (pda_cons pd_int pda_nil))))) pda_nil))))) pda_nil)) pda_nil)))))
theorem ok__law_right (T : Tx Lab.T K mg base w) : FnG P w K mg base 7 (T.A 16) (T.FD 16) ["_law_pool_here"] (spR K 1 m__law_right) :=
  fn_R T.D__law_right sc__law_right rfl rfl (bd__law_right T)
theorem b__law_right (T : Tx Lab.T K mg base w) : Binds K (T.FD 16) ["_law_pool_here"] [] := T.D__law_right.binds fun _ _ _ _ _ _ us hl => match us, hl with | [_], _ => rfl
def mb_law : DEnv → Option DFlow := (sSeq (sAsg (fTup (fCons (fTup (fCons (fTup (fCons (fC (.int 1)) fNil)) (fCons (fTup (fCons (fC (.int 2)) fNil)) (fCons (fTup (fCons (fC (.int 3)) fNil)) fNil)))) (fCons (fTup (fCons (fTup (fCons (fC (.int 1)) fNil)) (fCons (fTup (fCons (fC (.int 1)) fNil)) (fCons (fTup (fCons (fC (.int 0)) fNil)) fNil)))) fNil))) (gTupD 2 (gsCons (gSet 1) (gsCons (gSet 2) gsNil)))) (sSeq (sSetN 3 (nLc (iSeq (fFrz (fLst (fCons (rdF 1) (fCons (rdF 2) (fCons (rdF 1) (fCons (fTup (fCons (fTup (fCons (fC (.int 1)) fNil)) (fCons (fTup (fCons (fC (.int 1)) fNil)) (fCons (fTup (fCons (fC (.int 1)) fNil)) (fCons (fTup (fCons (fC (.int 2)) fNil)) fNil))))) (fCons (fTup (fCons (fTup (fCons (fC (.int 7)) fNil)) fNil)) fNil)))))))) (gSet 6) fYes (fCB m_extreme_places (fCons (rdF 6) fNil)) [6])) (sSeq (sIf (fOr (fTst (fCmpL neD 3 (fFrz (fLst (fCons (fTup (fCons (fC (.int 0)) (fCons (fC (.int 2)) fNil))) (fCons (fTup (fCons (fC (.int 0)) (fCons (fC (.int 1)) (fCons (fC (.int 2)) fNil)))) (fCons (fTup (fCons (fC (.int 0)) (fCons (fC (.int 2)) fNil))) (fCons (fTup (fCons (fC (.int 0)) (fCons (fC (.int 2)) (fCons (fC (.int 3)) fNil)))) (fCons (fTup (fCons (fC (.int 0)) fNil)) fNil))))))))) (fNot (fTst (fCB m__law_told_right (fCons (rdF 2) fNil))))) (sRet (fC (.bool false))) sNil) (sSeq (sSet 4 (fTup (fCons (fTup (fCons (fC (.int 0)) (fCons (fC (.int 9)) (fCons (fC (.int 9)) (fCons (fC (.int 9)) fNil))))) (fCons (fTup (fCons (fC (.int 5)) (fCons (fC (.int 0)) (fCons (fC (.int 9)) (fCons (fC (.int 9)) fNil))))) (fCons (fTup (fCons (fC (.int 5)) (fCons (fC (.int 5)) (fCons (fC (.int 0)) (fCons (fC (.int 9)) fNil))))) (fCons (fTup (fCons (fC (.int 5)) (fCons (fC (.int 5)) (fCons (fC (.int 5)) (fCons (fC (.int 0)) fNil))))) (fCons (fTup (fCons (fC (.int 5)) (fCons (fC (.int 5)) (fCons (fC (.int 5)) (fCons (fC (.int 5)) fNil))))) fNil))))))) (sSeq (sSet 4 (fBin addD (rdF 4) (fTup (fCons (fTup (fCons (fC (.int 5)) (fCons (fC (.int 5)) (fCons (fC (.int 5)) (fCons (fC (.int 0)) fNil))))) (fCons (fTup (fCons (fC (.int 5)) (fCons (fC (.int 5)) (fCons (fC (.int 0)) (fCons (fC (.int 0)) fNil))))) (fCons (fTup (fCons (fC (.int 5)) (fCons (fC (.int 0)) (fCons (fC (.int 0)) (fCons (fC (.int 0)) fNil))))) (fCons (fTup (fCons (fC (.int 0)) (fCons (fC (.int 0)) (fCons (fC (.int 0)) (fCons (fC (.int 0)) fNil))))) fNil))))))) (sSeq (sIf (fOr (fNot (fTst (fCB m__law_told_right (fCons (rdF 4) fNil)))) (fTst (fBin notInD (fC (.int 4)) (fCB m_extreme_places (fCons (rdF 4) fNil))))) (sRet (fC (.bool false))) sNil) (sSeq (sIf (fTst (fBin inD (fC (.int 4)) (fCB m_extreme_places (fCons (fCB tupleD (fCons (fFrz (nLc (iSeq (rdF 4)) (gSet 9) fYes (fSl (rdF 9) oNone (oSome (fC (.int 3)))) [9])) fNil)) fNil)))) (sRet (fC (.bool false))) sNil) (sSeq (sSet 5 (fCB tupleD (fCons (fFrz (nLc (iSeq (fFrz (fLst (fCons (fC (.int 1)) (fCons (fC (.int 2)) (fCons (fC (.int 3)) (fCons (fC (.int 2)) fNil))))))) (gSet 7) fYes (fTup (fCons (fBin subD (fBin powD (fC (.int 10)) (fC (.int 40))) (rdF 7)) fNil)) [7])) fNil))) (sSeq (sIf (fOr (fTst (fBin neD (fCB m_extreme_places (fCons (rdF 5) fNil)) (fTup (fCons (fC (.int 0)) (fCons (fC (.int 2)) (fCons (fC (.int 3)) fNil)))))) (fNot (fTst (fCB m__law_told_right (fCons (fBin addD (rdF 5) (fTup (fCons (fTup (fCons (fBin subD (fC (.int 1)) (fBin powD (fC (.int 10)) (fC (.int 40)))) fNil)) (fCons (fTup (fCons (fBin subD (fC (.int 2)) (fBin powD (fC (.int 10)) (fC (.int 40)))) fNil)) fNil)))) fNil))))) (sRet (fC (.bool false))) sNil) (sRet (fCB allD (fCons (fFrz (nLc (iArg rng1 (fCons (fCB maxD (fCons (fC (.int 2)) (fCons (fCB minD (fCons (fLenN 0) (fCons (fC (.int 5)) fNil))) fNil))) fNil)) (gSet 8) fYes (fCRT m__law_right (fCN m__law_pool (fCons (fCB m__law_cell (fCons (rdF 0) (fCons (rdF 8) fNil))) fNil))) [8])) fNil))))))))))))
def m_law := runF 1 10 mb_law
theorem sc_law : FnScope ["_law_script", "_law_first", "_law_second", "_law_told", "_law_rows", "_law_grand", "_law_records", "_law_far", "_law_k", "_law_row"] ["_law_script"] (defScope (topS 26)) := ⟨rfl, rfl, rfl, by decide +kernel, rfl, by decide +kernel, by decide +kernel⟩
theorem bd_law (T : Tx Lab.T K mg base w) : BodyOk P w K mg base ["_law_script", "_law_first", "_law_second", "_law_told", "_law_rows", "_law_grand", "_law_records", "_law_far", "_law_k", "_law_row"] "law" (topS 26) (T.A 17) (T.FD 17).code 7 mb_law := by
  have sc := sc_law
  intro cdv A outer s H E F hcv hW hgd hr
  exact (dss_cons (ds_asg (pd_tup (pda_cons (pd_tup (pda_cons (pd_tup (pda_cons pd_int pda_nil)) (pda_cons (pd_tup (pda_cons pd_int pda_nil)) (pda_cons (pd_tup (pda_cons pd_int pda_nil)) pda_nil)))) (pda_cons (pd_tup (pda_cons (pd_tup (pda_cons pd_int pda_nil)) (pda_cons (pd_tup (pda_cons pd_int pda_nil)) (pda_cons (pd_tup (pda_cons pd_int pda_nil)) pda_nil)))) pda_nil))) (dg_tup (dgs_cons (dg_name 1 sc.nd) (dgs_cons (dg_name 2 sc.nd) dgs_nil))))
    (dss_cons (ds_setLc 3 [("_law_records", 6)] sc.nd (di_seq (pn_pd (pn_lst (pda_cons (pd_name 1) (pda_cons (pd_name 2) (pda_cons (pd_name 1) (pda_cons (pd_tup (pda_cons (pd_tup (pda_cons pd_int pda_nil)) (pda_cons (pd_tup (pda_cons pd_int pda_nil)) (pda_cons (pd_tup (pda_cons pd_int pda_nil)) (pda_cons (pd_tup (pda_cons pd_int pda_nil)) pda_nil))))) (pda_cons (pd_tup (pda_cons (pd_tup (pda_cons pd_int pda_nil)) pda_nil)) pda_nil)))))))) (blkOk_by (own := [("_law_records", 6)]) (by kernel_rfl)) (fun _ _ _ _ _ => (gn_name 6 sc.nd)) (fun _ _ _ _ _ => dts_nil) (fun _ _ _ _ _ => (pd_call ((ok_extreme_places T).mono (by decide)) runF_len hgd hr T.g_extreme_places T.D_extreme_places.kp (b_extreme_places T) (pda_cons (pd_name 6) pda_nil))) (sw_true rfl rfl rfl (by decide +kernel)))
    (dss_cons (ds_if (pdt_w (pdw_or (pdt_cmpL (od_ne hr) neD_scal neD_b 3 (pn_pd (pn_lst (pda_cons (pd_tup (pda_cons pd_int (pda_cons pd_int pda_nil))) (pda_cons (pd_tup (pda_cons pd_int (pda_cons pd_int (pda_cons pd_int pda_nil)))) (pda_cons (pd_tup (pda_cons pd_int (pda_cons pd_int pda_nil))) (pda_cons (pd_tup (pda_cons pd_int (pda_cons pd_int (pda_cons pd_int pda_nil)))) (pda_cons (pd_tup (pda_cons pd_int pda_nil)) pda_nil)))))))) (pdw_or1 (pdt_not (pdt_val (pd_call ((ok__law_told_right T).mono (by decide)) runF_len hgd hr T.g__law_told_right T.D__law_told_right.kp (b__law_told_right T) (pda_cons (pd_name 2) pda_nil))))))) (dss_one (ds_ret pd_bl)) dss_nil)
    (dss_cons (ds_set 4 (pd_tup (pda_cons (pd_tup (pda_cons pd_int (pda_cons pd_int (pda_cons pd_int (pda_cons pd_int pda_nil))))) (pda_cons (pd_tup (pda_cons pd_int (pda_cons pd_int (pda_cons pd_int (pda_cons pd_int pda_nil))))) (pda_cons (pd_tup (pda_cons pd_int (pda_cons pd_int (pda_cons pd_int (pda_cons pd_int pda_nil))))) (pda_cons (pd_tup (pda_cons pd_int (pda_cons pd_int (pda_cons pd_int (pda_cons pd_int pda_nil))))) (pda_cons (pd_tup (pda_cons pd_int (pda_cons pd_int (pda_cons pd_int (pda_cons pd_int pda_nil))))) pda_nil)))))) sc.nd)
    (dss_cons (ds_set 4 (pd_bin od_add (pd_name 4) (pd_tup (pda_cons (pd_tup (pda_cons pd_int (pda_cons pd_int (pda_cons pd_int (pda_cons pd_int pda_nil))))) (pda_cons (pd_tup (pda_cons pd_int (pda_cons pd_int (pda_cons pd_int (pda_cons pd_int pda_nil))))) (pda_cons (pd_tup (pda_cons pd_int (pda_cons pd_int (pda_cons pd_int (pda_cons pd_int pda_nil))))) (pda_cons (pd_tup (pda_cons pd_int (pda_cons pd_int (pda_cons pd_int (pda_cons pd_int pda_nil))))) pda_nil)))))) sc.nd)
    (dss_cons (ds_if (pdt_w (pdw_or (pdt_not (pdt_val (pd_call ((ok__law_told_right T).mono (by decide)) runF_len hgd hr T.g__law_told_right T.D__law_told_right.kp (b__law_told_right T) (pda_cons (pd_name 4) pda_nil)))) (pdw_or1 (pdt_cmp (od_notIn hr) notInD_b pd_int (pd_call ((ok_extreme_places T).mono (by decide)) runF_len hgd hr T.g_extreme_places T.D_extreme_places.kp (b_extreme_places T) (pda_cons (pd_name 4) pda_nil)))))) (dss_one (ds_ret pd_bl)) dss_nil)
    (dss_cons (ds_if (pdt_cmp (od_in hr) inD_b pd_int (pd_call ((ok_extreme_places T).mono (by decide)) runF_len hgd hr T.g_extreme_places T.D_extreme_places.kp (b_extreme_places T) (pda_cons (pd_callTy (cd_tuple) T.n_tuple (by decide +kernel) (pda_cons (pn_pd (pn_lc [("_law_row", 9)] sc.nd (di_seq (pd_name 4)) (blkOk_by (own := [("_law_row", 9)]) (by kernel_rfl)) (fun _ _ _ _ _ => (gn_name 9 sc.nd)) (fun _ _ _ _ _ => dts_nil) (fun _ _ _ _ _ => (pd_slice (pd_name 9) do_none (do_some pd_int))))) pda_nil)) pda_nil))) (dss_one (ds_ret pd_bl)) dss_nil)
    (dss_cons (ds_set 5 (pd_callTy (cd_tuple) T.n_tuple (by decide +kernel) (pda_cons (pn_pd (pn_lc [("_law_far", 7)] sc.nd (di_seq (pn_pd (pn_lst (pda_cons pd_int (pda_cons pd_int (pda_cons pd_int (pda_cons pd_int pda_nil))))))) (blkOk_by (own := [("_law_far", 7)]) (by kernel_rfl)) (fun _ _ _ _ _ => (gn_name 7 sc.nd)) (fun _ _ _ _ _ => dts_nil) (fun _ _ _ _ _ => (pd_tup (pda_cons (pd_bin od_sub (pd_bin od_pow pd_int pd_int) (pd_name 7)) pda_nil))))) pda_nil)) sc.nd)
    (dss_cons (ds_if (pdt_w (pdw_or (pdt_cmp (od_ne hr) neD_b (pd_call ((ok_extreme_places T).mono (by decide)) runF_len hgd hr T.g_extreme_places T.D_extreme_places.kp (b_extreme_places T) (pda_cons (pd_name 5) pda_nil)) (pd_tup (pda_cons pd_int (pda_cons pd_int (pda_cons pd_int pda_nil))))) (pdw_or1 (pdt_not (pdt_val (pd_call ((ok__law_told_right T).mono (by decide)) runF_len hgd hr T.g__law_told_right T.D__law_told_right.kp (b__law_told_right T) (pda_cons (pd_bin od_add (pd_name 5) (pd_tup (pda_cons (pd_tup (pda_cons (pd_bin od_sub pd_int (pd_bin od_pow pd_int pd_int)) pda_nil)) (pda_cons (pd_tup (pda_cons (pd_bin od_sub pd_int (pd_bin od_pow pd_int pd_int)) pda_nil)) pda_nil)))) pda_nil))))))) (dss_one (ds_ret pd_bl)) dss_nil)
    (dss_one (ds_ret (pd_callB (cd_all rfl) T.n_all (by decide +kernel) (pda_cons (pn_pd (pn_lc [("_law_k", 8)] sc.nd (di_range1 T.n_range (pda_cons (pd_callB (cd_max rfl) T.n_max (by decide +kernel) (pda_cons pd_int (pda_cons (pd_callB (cd_min rfl) T.n_min (by decide +kernel) (pda_cons (pd_lenN 0 T.n_len) (pda_cons pd_int pda_nil))) pda_nil))) pda_nil)) (blkOk_by (own := [("_law_k", 8)]) (by kernel_rfl)) (fun _ _ _ _ _ => (gn_name 8 sc.nd)) (fun _ _ _ _ _ => dts_nil) (fun _ _ _ _ _ => (pd_callRT ((ok__law_right T).mono (by decide)) runR_len hgd hr T.g__law_right T.D__law_right.kp (b__law_right T) (pn_call ((ok__law_pool T).mono (by decide)) runN_len hgd hr T.g__law_pool T.D__law_pool.kp (b__law_pool T) (pda_cons (pd_call ((ok__law_cell T).mono (by decide)) runF_len hgd hr T.g__law_cell T.D__law_cell.kp (b__law_cell T) (pda_cons (pd_name 0) (pda_cons (pd_name 8) pda_nil))) pda_nil)))))) pda_nil)))))))))))))
theorem ok_law (T : Tx Lab.T K mg base w) : FnG P w K mg base 8 (T.A 17) (T.FD 17) ["_law_script"] (spF K 1 m_law) :=
  fn_F T.D_law sc_law rfl rfl (bd_law T)
theorem b_law (T : Tx Lab.T K mg base w) : Binds K (T.FD 17) ["_law_script"] [] := T.D_law.binds fun _ _ _ _ _ _ us hl => match us, hl with | [_], _ => rfl
end
end DL
end L2

set_option Elab.async false
set_option maxRecDepth 100000
set_option maxHeartbeats 4000000
set_option autoImplicit false
namespace L2
namespace DL
open PySem PySem.Spec PyProof.Rows
local instance labNone_K42P : Lab := { w := none, T := [], gd := True }
def PoolOk (es : List PyData) : Prop := ∃ a b n : Int, es = [.int a, .int b, .int n] ∧ 0 ≤ a ∧ a < 2147483249 ∧ 0 ≤ b
theorem draw_spec {es : List PyData} (h : PoolOk es) {m : Int} (h0 : 0 < m) (h1 : m < 10000000000000000000000000000000000000000) : ∃ r es', m__law_draw es [.int m] = some (.int r, es') ∧ PoolOk es' ∧ 0 ≤ r ∧ r < m := by
  obtain ⟨a, b, n, rfl, ha, ha', hb⟩ := h
  have c1 : a.natAbs < 18446744073709551616 := by omega
  have hM : (0 : Int) < 2147483249 := by decide
  have e1 := Int.emod_nonneg ((a * (a % 50021 + 30011) + 80021 * (n + 1))) (show (2147483249 : Int) ≠ 0 by decide)
  have e2 := Int.emod_lt_of_pos ((a * (a % 50021 + 30011) + 80021 * (n + 1))) hM
  by_cases hpos : 0 < b
  · refine ⟨b % m, [.int ((a * (a % 50021 + 30011) + 80021 * (n + 1)) % 2147483249), .int (b / m), .int (n + 1)], ?_, ⟨_, _, _, rfl, e1, e2, Int.ediv_nonneg hb (by omega)⟩, Int.emod_nonneg _ (by omega), Int.emod_lt_of_pos _ h0⟩
    simp [m__law_draw, runR, mb__law_draw, sSeq, sAsg, sSet, sIf, sRet, sNil, fBin, fIxN, fC, fTst, fCB, fCons, fNil, rdB, rdF, rdO, wrO, gSubD, gSet, gTupD, gsCons, gsNil, addD, modD, mulD, gtD, divmodB, intD, ixD, atI, ixN, startE, rf0, truthD, c1, hpos, h0, h1]
  · have hb0 : b = 0 := by omega
    subst hb0
    refine ⟨(a * (a % 50021 + 30011) + 80021 * (n + 1)) % 2147483249 / 64 % m, [.int ((a * (a % 50021 + 30011) + 80021 * (n + 1)) % 2147483249), .int 0, .int (n + 1)], ?_, ⟨_, _, _, rfl, e1, e2, by omega⟩, Int.emod_nonneg _ (by omega), Int.emod_lt_of_pos _ h0⟩
    simp [m__law_draw, runR, mb__law_draw, sSeq, sAsg, sSet, sIf, sRet, sNil, fBin, fIxN, fC, fTst, fCB, fCons, fNil, rdB, rdF, rdO, wrO, gSubD, gSet, gTupD, gsCons, gsNil, addD, modD, mulD, fdivD, gtD, divmodB, intD, ixD, atI, ixN, startE, rf0, truthD, c1, h0, h1]
theorem pool_spec (c : Int) : ∃ es, m__law_pool [.int c] = some es ∧ PoolOk es := by
  have hM : (0 : Int) < 2147483249 := by decide
  have e1 := Int.emod_nonneg c (show (2147483249 : Int) ≠ 0 by decide)
  have e2 := Int.emod_lt_of_pos c hM
  by_cases h1 : c < 0
  · refine ⟨[.int (c % 2147483249), .int (-c), .int 0], ?_, _, _, _, rfl, e1, e2, by omega⟩
    simp [m__law_pool, runN, mb__law_pool, sSeq, sSet, sRetN, fIf, fOr, fBin, fC, fTst, fCB, fCons, fNil, fLst, rdF, modD, powD, ltD, geD, absD, intD, startE, truthD, h1, lim]
  · by_cases h2 : (1000000000000000000 : Int) ≤ c
    · refine ⟨[.int (c % 2147483249), .int c, .int 0], ?_, _, _, _, rfl, e1, e2, by omega⟩
      simp [m__law_pool, runN, mb__law_pool, sSeq, sSet, sRetN, fIf, fOr, fBin, fC, fTst, fCB, fCons, fNil, fLst, rdF, modD, powD, ltD, geD, absD, intD, startE, truthD, h1, h2, lim]
    · refine ⟨[.int (c % 2147483249), .int 0, .int 0], ?_, _, _, _, rfl, e1, e2, by omega⟩
      simp [m__law_pool, runN, mb__law_pool, sSeq, sSet, sRetN, fIf, fOr, fBin, fC, fTst, fCB, fCons, fNil, fLst, rdF, modD, powD, ltD, geD, absD, intD, startE, truthD, h1, h2, lim]
theorem cell_loop (a b : Option DV) : ∀ (xs : List Int) (s : Int) (z : Option DV), ∃ s' z', forD (gSet 3) (sSet 2 (fBin modD (fBin addD (fBin mulD (rdF 2) (fC (.int 41221))) (rdF 3)) (fC (.int 2147483249)))) (xs.map .int) [a, b, some (.fr (.int s)), z] = some (.nx [a, b, some (.fr (.int s')), z'])
  | [], s, z => ⟨s, z, rfl⟩
  | x :: xs, s, z => by
    obtain ⟨s', z', h⟩ := cell_loop a b xs ((s * 41221 + x) % 2147483249) (some (.fr (.int x)))
    refine ⟨s', z', ?_⟩
    rw [List.map_cons, forD]
    simp [gSet, sSet, fBin, rdF, fC, modD, addD, mulD, intD]
    exact h
theorem map_drop_take (ns : List Int) (i k : Nat) : ((ns.map PyData.int).drop i).take k = ((ns.drop i).take k).map PyData.int := by
  rw [List.map_take, List.map_drop]
theorem cell_spec (ns : List Int) {k : Int} (h0 : 0 ≤ k) (h1 : k ≤ 1000) : ∃ c, m__law_cell [.list (ns.map .int), .int k] = some (.int c) := by
  by_cases hk : k < (ns.length : Int)
  · refine ⟨ns.getD k.toNat 0, ?_⟩
    have hk2 : k.toNat < ns.length := by omega
    simp [m__law_cell, runF, mb__law_cell, sSeq, sIf, sRet, fTst, fBin, rdF, rdB, fLenN, lenD, ltD, intD, truthD, startE, hk, fIxN, ixD, atI, ixN, h0, hk2]
  · have c1 : k.natAbs < 18446744073709551616 := by omega
    obtain ⟨s', z', h⟩ := cell_loop (some (.fr (.list (ns.map .int)))) (some (.fr (.int k))) ((ns.drop 0).take (HT.sIx ns.length ns.length (some 3) - 0)) (60013 * (k * k + 5 * k + 3) % 2147483249) none
    refine ⟨s', ?_⟩
    rw [← map_drop_take] at h
    simp [m__law_cell, runF, mb__law_cell, sSeq, sIf, sRet, sNil, sSet, sFor, iSeq, fSl, slD, cutD, seqD, oNone, oSome, fTst, fBin, rdF, rdB, fLenN, lenD, ltD, mulD, addD, modD, fC, intD, truthD, startE, hk, c1]
    simp [HT.sIx] at h ⊢
    rw [h]
    rfl
end DL
end L2

set_option Elab.async false
set_option maxRecDepth 100000
set_option maxHeartbeats 4000000
set_option autoImplicit false
namespace L2
namespace DL
open PySem PySem.Spec PyProof.Rows
local instance labNone_K42R : Lab := { w := none, T := [], gd := True }
/-! ### tables told -/
def isInt : PyData → Bool
  | .int _ => true
  | _ => false
def isRec : PyData → Bool
  | .tuple ds => decide (1 ≤ ds.length) && decide (ds.length ≤ 5) && ds.all isInt
  | _ => false
def rowLen : PyData → Nat
  | .tuple ds => ds.length
  | _ => 0
def rowOk (w : Nat) (r : PyData) : Bool := isRec r && (rowLen r == w)
theorem is_integer_spec (d : PyData) : m_is_integer [d] = some (.bool (isInt d)) := by cases d <;> rfl
theorem rec_lc (fe : DEnv → Option (PyData × DEnv)) (hfe : ∀ (o : Option DV) (d : PyData), fe [o, some (.fr d)] = some (.bool (isInt d), [o, some (.fr d)])) (ds : List PyData) (hl : ds.length ≤ 5) :
    fCB allD (fCons (fFrz (nLc (iSeq (rdF 0)) (gSet 1) fYes fe [1])) fNil) [some (.fr (.tuple ds)), none] = some (.bool (ds.all isInt), [some (.fr (.tuple ds)), none]) := by
  refine ev_cb (ev_cons (ev_frz (ds := ds.map fun d => .bool (isInt d)) ?_) ev_nil) (all_map isInt ds)
  show (if ds.length ≤ lim then lcD _ _ _ _ ds [some (.fr (.tuple ds)), none] else none) = _
  rw [if_pos (by show _ ≤ 100000; omega)]
  exact lc_map rfl ds fun d _ => hfe _ d
theorem rec_chain {a b : Int} {n : Nat} {o o' : PyData → PyData → Option PyData} : True := trivial
theorem is_record_spec (d : PyData) : m_is_record [d] = some (.bool (isRec d)) := by
  cases d with
  | tuple ds =>
    by_cases h1 : (1 : Int) ≤ ds.length
    · by_cases h5 : (ds.length : Int) ≤ 5
      · have e := rec_lc (fCB m_is_integer (fCons (rdF 1) fNil)) (fun o d => ev_cb (ev_cons rfl ev_nil) (is_integer_spec d)) ds (by omega)
        refine (ev_runF rfl (ev_seq (e1 := [some (.fr (.tuple ds)), none]) ?_ (ev_ret e))).trans ?_
        · refine ev_ifF (e1 := [some (.fr (.tuple ds)), none]) ?_ rfl
          simp [startE, fOr, fNot, fTst, fIsi, isiT, tyN, rdF, truthD, fChain, fC, fLenN, rdB, lenD, leD, intD, cv_MOST_COLUMNS, h1, h5]
        · have h1' : 1 ≤ ds.length := by omega
          have h5' : ds.length ≤ 5 := by omega
          simp [isRec, h1', h5']
      · have h5' : ¬ ds.length ≤ 5 := by omega
        simp [m_is_record, runF, mb_is_record, sSeq, sIf, sRet, startE, fOr, fNot, fTst, fIsi, isiT, tyN, rdF, truthD, fChain, fC, fLenN, rdB, lenD, leD, intD, cv_MOST_COLUMNS, h1, h5, isRec, h5']
    · have h1' : ds = [] := by
        cases ds with
        | nil => rfl
        | cons _ _ => exact absurd (by rw [List.length_cons]; omega) h1
      subst h1'
      rfl
  | _ => rfl
theorem isRec_tup {d : PyData} (h : isRec d = true) : ∃ ds, d = .tuple ds := by
  cases d with
  | tuple ds => exact ⟨ds, rfl⟩
  | _ => cases h
abbrev chkRow (m : List PyData → Option PyData) (S : DEnv → Option DFlow) := sIf (fOr (fNot (fTst (fCB m (fCons (rdF 2) fNil)))) (fTst (fBin neD (fLenN 2) (fCB lenD (fCons (fIxN 0 (fC (.int 0))) fNil))))) S sNil
abbrev enG := gTupD 2 (gsCons (gSet 1) (gsCons (gSet 2) gsNil))
section
variable {m : List PyData → Option PyData} (hm : ∀ d, m [d] = some (.bool (isRec d))) {S : DEnv → Option DFlow}
include hm
theorem row_good {xs : List PyData} {rest : List PyData} {i r : PyData} (h : rowOk xs.length r = true) : chkRow m S [some (.fr (.tuple (.tuple xs :: rest))), some (.fr i), some (.fr r)] = some (.nx [some (.fr (.tuple (.tuple xs :: rest))), some (.fr i), some (.fr r)]) := by
  rw [rowOk, Bool.and_eq_true] at h
  obtain ⟨h1, h2⟩ := h
  obtain ⟨ys, rfl⟩ := isRec_tup h1
  have h2' : ys.length = xs.length := by simpa [rowLen] using h2
  have e := hm (.tuple ys)
  rw [h1] at e
  simp [chkRow, sIf, fOr, fNot, fTst, fCB, fCons, fNil, rdF, e, truthD, fBin, neD, eqB, fLenN, rdB, lenD, fIxN, ixD, atI, ixN, fC, h2', sNil]
end
/-! ### rows that are ints -/
def RowI (w : Nat) (r : PyData) : Prop := ∃ is : List Int, r = .tuple (is.map .int) ∧ is.length = w
theorem RowI.ok {w : Nat} {r : PyData} (h : RowI w r) (h1 : 1 ≤ w) (h5 : w ≤ 5) : rowOk w r = true ∧ isRec r = true ∧ rowLen r = w := by
  obtain ⟨is, rfl, hl⟩ := h
  have : isRec (.tuple (is.map .int)) = true := by
    have a1 : 1 ≤ is.length := by omega
    have a5 : is.length ≤ 5 := by omega
    simp [isRec, a1, a5, isInt]
  exact ⟨by simp [rowOk, this, rowLen, hl], this, by simp [rowLen, hl]⟩
structure TabI (rs : List PyData) : Prop where
  l1 : 1 ≤ rs.length
  l2 : rs.length ≤ 30
  row : ∃ w, 1 ≤ w ∧ w ≤ 5 ∧ ∀ r ∈ rs, RowI w r
theorem RowI.ly {w : Nat} {r : PyData} (h : RowI w r) : Ly 1 r := by
  obtain ⟨is, rfl, _⟩ := h
  exact Ly.tuple (ly_ints is)

theorem rows_ok {m : List PyData → Option PyData} (hm : ∀ d, m [d] = some (.bool (isRec d))) {S : DEnv → Option DFlow} {xs rest : List PyData} : ∀ (rs : List PyData) (k : Nat) (z1 z2 : Option DV), (∀ r ∈ rs, rowOk xs.length r = true) → ∃ z1' z2', forD enG (chkRow m S) ((rangeD k rs.length).zipWith (fun a b => .tuple [a, b]) rs) [some (.fr (.tuple (.tuple xs :: rest))), z1, z2] = some (.nx [some (.fr (.tuple (.tuple xs :: rest))), z1', z2'])
  | [], k, z1, z2, _ => ⟨z1, z2, rfl⟩
  | r :: rs, k, z1, z2, h => by
    rw [List.length_cons, rangeD_succ, List.zipWith_cons_cons]
    obtain ⟨a, b, e⟩ := rows_ok hm (S := S) (xs := xs) (rest := rest) rs (k + 1) (some (.fr (.int k))) (some (.fr r)) fun x hx => h x (List.mem_cons_of_mem _ hx)
    exact ⟨a, b, ev_forN rfl (row_good hm (h r List.mem_cons_self)) e⟩
theorem check_table_ok {rs : List PyData} (ht : TabI rs) : m_check_table [.tuple rs] = some .none := by
  obtain ⟨w, w1, w5, hrow⟩ := ht.row
  obtain ⟨l1, l2⟩ : 1 ≤ rs.length ∧ rs.length ≤ 30 := ⟨ht.l1, ht.l2⟩
  have h1 : (1 : Int) ≤ rs.length := by omega
  have h3 : (rs.length : Int) ≤ 30 := by omega
  have e1 : sIf (fOr (fNot (fTst (fIsi "tuple" (rdF 0)))) (fNot (fTst (fChain leD leD (fC (.int 1)) (fLenN 0) (fC cv_MOST_RECORDS))))) sNone sNil [some (.fr (.tuple rs)), none, none] = some (.nx [some (.fr (.tuple rs)), none, none]) := by
    simp [sIf, sNil, fOr, fNot, fTst, fIsi, isiT, tyN, rdF, truthD, fChain, fC, fLenN, rdB, lenD, leD, intD, cv_MOST_RECORDS, h1, h3]
  cases rs with
  | nil => exact absurd l1 (by simp)
  | cons r0 rest =>
    obtain ⟨is, rfl, hl⟩ := hrow r0 List.mem_cons_self
    have hw : (is.map PyData.int).length = w := by rw [List.length_map]; exact hl
    obtain ⟨a, b, e⟩ := rows_ok is_record_spec (S := sNone) (xs := is.map .int) (rest := rest) (.tuple (is.map .int) :: rest) 0 none none fun r hr => by rw [hw]; exact ((hrow r hr).ok w1 w5).1
    exact ev_runF0 rfl (ev_seq e1 (ev_for rfl e))
theorem TabW.tab {w : Nat} {t : Tab} (h : TabW w t) : TabI (t.map rowD) := by
  refine ⟨by rw [List.length_map]; exact h.l1, by rw [List.length_map]; exact h.l2, w, h.w1, h.w5, fun r hr => ?_⟩
  obtain ⟨is, hi, rfl⟩ := List.mem_map.mp hr
  exact ⟨is, rfl, h.row is hi⟩
theorem rows_of {w : Nat} : ∀ {rs : List PyData}, (∀ r ∈ rs, RowI w r) → ∃ t : Tab, rs = t.map rowD ∧ ∀ r ∈ t, r.length = w
  | [], _ => ⟨[], rfl, fun _ h => nomatch h⟩
  | r :: rs, h => by
    obtain ⟨t, rfl, ht⟩ := rows_of (rs := rs) fun x hx => h x (List.mem_cons_of_mem _ hx)
    obtain ⟨is, rfl, hl⟩ := h r List.mem_cons_self
    refine ⟨is :: t, rfl, fun r hr => ?_⟩
    rcases List.mem_cons.mp hr with rfl | hr
    · exact hl
    · exact ht r hr
theorem TabI.tabW {rs : List PyData} (h : TabI rs) : ∃ w t, rs = List.map rowD t ∧ TabW w t := by
  obtain ⟨w, w1, w5, hr⟩ := h.row
  obtain ⟨t, rfl, ht⟩ := rows_of hr
  have l1 := h.l1
  have l2 := h.l2
  rw [List.length_map] at l1 l2
  exact ⟨w, t, rfl, l1, l2, w1, w5, ht⟩
/-! ### what the program's defs give -/
theorem at_nat {α : Type} {l : List α} {i : Nat} (h : i < l.length) : atI l (i : Int) = some l[i] := by
  have h1 : (i : Int) < (l.length : Int) := by omega
  simp [atI, ixN, h1, h]
theorem at_row {w : Nat} {t : Tab} (h : TabW w t) {i : Nat} (hi : i < t.length) : ixD (tabD t) (.int i) = some (rowD (t.getD i [])) := by
  show atI (t.map rowD) (i : Int) = _
  rw [at_nat (by rw [List.length_map]; exact hi), List.getElem_map]
  congr 2
  rw [List.getD_eq_getElem?_getD, List.getElem?_eq_getElem hi]
  rfl
theorem at_cell {w : Nat} {t : Tab} (h : TabW w t) {i : Nat} (hi : i < t.length) {c : Int} (c0 : 0 ≤ c) (c1 : c < w) : ixD (rowD (t.getD i [])) (.int c) = some (.int (cellT t i c)) := by
  have hr : t.getD i [] ∈ t := by
    rw [List.getD_eq_getElem?_getD, List.getElem?_eq_getElem hi]
    exact List.getElem_mem hi
  have hl := h.row _ hr
  obtain ⟨k, rfl⟩ : ∃ k : Nat, c = k := ⟨c.toNat, by omega⟩
  have hk : k < (t.getD i []).length := by omega
  show atI ((t.getD i []).map PyData.int) (k : Int) = _
  rw [at_nat (by rw [List.length_map]; exact hk), List.getElem_map]
  congr 2
  unfold cellT
  rw [Int.toNat_natCast]
  exact (List.getElem_eq_getD (h := hk) 0)
def placeD (l : List Nat) : PyData := .tuple (l.map fun i : Nat => PyData.int i)
def colP : Pl → List Int
  | .sort _ c => [c]
  | _ => []
theorem six_min {n d : Nat} {i : Int} (h0 : 0 ≤ i) : HT.sIx n d (some i) = min i.toNat n := by
  show (if i < 0 then (i + (n : Int)).toNat else min i.toNat n) = _
  rw [if_neg (by omega)]
theorem cut_take {ds : List PyData} {i : Int} (h0 : 0 ≤ i) : cutD ds none (some i) = ds.take i.toNat := by
  unfold cutD
  rw [six_min h0, show HT.sIx ds.length 0 none = 0 by simp [HT.sIx], List.drop_zero, Nat.sub_zero]
  by_cases z : i.toNat ≤ ds.length
  · rw [Nat.min_eq_left z]
  · rw [Nat.min_eq_right (by omega), List.take_of_length_le (Nat.le_refl _), List.take_of_length_le (by omega)]
theorem every_spec {w : Nat} {t : Tab} (ht : TabW w t) : m_every_place [tabD t] = some (placeD (List.range t.length)) := by
  have hl := ht.l2
  refine ev_runF (env := [some (.fr (tabD t))]) rfl (ev_ret ?_)
  show fTupRg (fLenN 0) [some (.fr (tabD t))] = _
  rw [ev_tupRg (j := t.length) (e1 := [some (.fr (tabD t))]) (ev_lenN rfl (by show some (PyData.int ((t.map rowD).length : Nat)) = _; rw [List.length_map])) (by omega)]
  unfold placeD rangeD
  congr 3
  refine List.map_congr_left fun i _ => ?_
  rw [Int.zero_add]
/-! ### values, steps -/
def valD (v : Nat → Int) (n : Nat) : List PyData := (List.range n).map fun i => PyData.int (v i)
theorem tab_range (t : Tab) : t.map rowD = (List.range t.length).map fun i => rowD (t.getD i []) := by
  refine List.ext_getElem (by simp) fun i h1 h2 => ?_
  have h : i < t.length := by simpa using h1
  rw [List.getElem_map, List.getElem_map, List.getElem_range, List.getD_eq_getElem?_getD, List.getElem?_eq_getElem h]
  rfl
theorem at_val (v : Nat → Int) {n i : Nat} (h : i < n) : ixD (.list (valD v n)) (.int (i : Nat)) = some (.int (v i)) := by
  show atI (valD v n) (i : Int) = _
  rw [at_nat (l := valD v n) (by unfold valD; simpa using h)]
  unfold valD
  rw [List.getElem_map, List.getElem_range]
theorem cut_drop {ds : List PyData} {i : Int} (h0 : 0 ≤ i) : cutD ds (some i) none = ds.drop i.toNat := by
  unfold cutD
  rw [six_min h0, show HT.sIx ds.length ds.length none = ds.length by simp [HT.sIx]]
  by_cases z : i.toNat ≤ ds.length
  · rw [Nat.min_eq_left z, List.take_of_length_le (by simp)]
  · rw [Nat.min_eq_right (by omega), List.drop_eq_nil_of_le (by omega), List.drop_eq_nil_of_le (by omega), List.take_nil]
theorem sort_columns_spec {w : Nat} {t : Tab} (ht : TabW w t) : m_sort_columns [tabD t] = some (.list ((List.range (min w 4)).map fun c : Nat => PyData.int c)) := by
  have hp : 0 < t.length := ht.l1
  have e2 := at_row ht hp
  have hl : (t.getD 0 []).length = w := ht.row _ (by rw [List.getD_eq_getElem?_getD, List.getElem?_eq_getElem hp]; exact List.getElem_mem hp)
  have e3 : fCB minD (fCons (fCB lenD (fCons (fIxN 0 (fC (.int 0))) fNil)) (fCons (fC cv_MOST_KEYS) fNil)) [some (.fr (tabD t))] = some (.int ((min w 4 : Nat) : Int), [some (.fr (tabD t))]) := by
    refine ev_cb (ev_cons (ev_cb (ev_cons (ev_ixN rfl rfl rfl e2) ev_nil) (d := .int w) ?_) (ev_cons rfl ev_nil)) ?_
    · show some (PyData.int ((List.map PyData.int (t.getD 0 [])).length : Int)) = _
      rw [List.length_map, hl]
    · show some (PyData.int (if (4 : Int) < (w : Int) then 4 else (w : Int))) = _
      congr 2
      split <;> omega
  refine ev_runF (env := [some (.fr (tabD t))]) rfl (ev_ret (ev_frz ?_))
  show (fCB minD (fCons (fCB lenD (fCons (fIxN 0 (fC (.int 0))) fNil)) (fCons (fC cv_MOST_KEYS) fNil)) [some (.fr (tabD t))]).bind _ = _
  rw [e3]
  show (if ((min w 4 : Nat) : Int) ≤ 100000 ∧ -100000 ≤ ((min w 4 : Nat) : Int) then some (rangeD 0 ((min w 4 : Nat) : Int).toNat, [some (DV.fr (tabD t))]) else none) = _
  rw [if_pos (by omega)]
  congr 2
  unfold rangeD
  refine List.map_congr_left fun i _ => ?_
  rw [Int.zero_add]
def keyD : Option KB → PyData
  | some k => kd (toKy k)
  | none => .none
def kyL (ks : List KB) : List PyData := ks.map fun k => kd (toKy k)
theorem oD_keys (ks : List KB) (d : Bool) : oD (ks, d) = .tuple (kyL ks ++ [plD (dS d)]) := by
  unfold oD ordD kyL
  rw [List.map_map]
  rfl
end DL
end L2

set_option Elab.async false
set_option maxRecDepth 100000
set_option maxHeartbeats 4000000
set_option autoImplicit false
namespace L2
namespace DL
open PySem PySem.Spec PyProof.Rows
local instance labNone_K42V : Lab := { w := none, T := [], gd := True }
/-! ### least and greatest -/
theorem maxI_some : ∀ {xs : List Int}, xs ≠ [] → ∃ m, maxI xs = some m
  | [], h => absurd rfl h
  | [x], _ => ⟨x, rfl⟩
  | x :: y :: xs, _ => by
    obtain ⟨m, e⟩ := maxI_some (xs := y :: xs) (by simp)
    exact ⟨_, by show (maxI (y :: xs)).map _ = _; rw [e]; rfl⟩
theorem minI_some : ∀ {xs : List Int}, xs ≠ [] → ∃ m, minI xs = some m
  | [], h => absurd rfl h
  | [x], _ => ⟨x, rfl⟩
  | x :: y :: xs, _ => by
    obtain ⟨m, e⟩ := minI_some (xs := y :: xs) (by simp)
    exact ⟨_, by show (minI (y :: xs)).map _ = _; rw [e]; rfl⟩
theorem intD_eq (a b : Int) : eqD (.int a) (.int b) = some (.bool (decide (a = b))) := rfl
theorem intD_ne (a b : Int) : neD (.int a) (.int b) = some (.bool (!decide (a = b))) := rfl
/-! ### the key to an edge -/
abbrev egB := (sSeq (sSetN 4 (nLc (iSeq (rdF 1)) (gSet 6) fYes (fBin ixD (fIxN 0 (rdF 6)) (rdF 3)) [6])) (sSeq (sSet 5 (fBin ixD (fIxN 0 (rdF 2)) (rdF 3))) (sSeq (sIf (fAnd (fTst (fBin neD (fCB minLD (fCons (rdF 4) fNil)) (fCB maxLD (fCons (rdF 4) fNil)))) (fTst (fBin eqD (rdF 5) (fCB maxLD (fCons (rdF 4) fNil))))) (sRet (fTup (fCons (rdF 3) (fCons (fC (.str "up")) fNil)))) sNil) (sIf (fAnd (fTst (fBin neD (fCB minLD (fCons (rdF 4) fNil)) (fCB maxLD (fCons (rdF 4) fNil)))) (fTst (fBin eqD (rdF 5) (fCB minLD (fCons (rdF 4) fNil))))) (sRet (fTup (fCons (rdF 3) (fCons (fC (.str "down")) fNil)))) sNil))))
theorem eg_turn {w : Nat} {t : Tab} (ht : TabW w t) {G : List Nat} {x : Nat} (hG : ∀ i ∈ G, i < t.length) (hx : x ∈ G) (hl : G.length ≤ 1000) {c : Nat} (hc : c < w) (z4 z5 : Option DV) :
    ∃ z4' z5', egB [some (.fr (tabD t)), some (.fr (placeD G)), some (.fr (.int (x : Nat))), some (.fr (.int (c : Nat))), z4, z5, none] = some (match edgC t G x c with | some k => .rt (kd (toKy k)) [some (.fr (tabD t)), some (.fr (placeD G)), some (.fr (.int (x : Nat))), some (.fr (.int (c : Nat))), z4', z5', none] | none => .nx [some (.fr (tabD t)), some (.fr (placeD G)), some (.fr (.int (x : Nat))), some (.fr (.int (c : Nat))), z4', z5', none]) := by
  let vs : List Int := G.map fun i => cellT t i c
  have cell : ∀ i, i < t.length → ixD (rowD (t.getD i [])) (.int (c : Nat)) = some (.int (cellT t i c)) := fun i hi => at_cell ht hi (by omega) (by omega)
  have e := lc_img (i := 6) (fe := fBin ixD (fIxN 0 (rdF 6)) (rdF 3)) (e := fun i : Nat => PyData.int i) (q := fun i => PyData.int (cellT t i c)) (env := [some (.fr (tabD t)), some (.fr (placeD G)), some (.fr (.int (x : Nat))), some (.fr (.int (c : Nat))), z4, z5, none]) rfl G fun i hi => ev_bin (ev_ixN rfl rfl rfl (at_row ht (hG i hi))) rfl (cell i (hG i hi))
  have em : (G.map fun i => PyData.int (cellT t i c)) = vs.map .int := by rw [List.map_map]; rfl
  rw [em] at e
  have hne : vs ≠ [] := by
    intro z
    rw [List.map_eq_nil_iff.mp z] at hx
    cases hx
  obtain ⟨mx, ex⟩ := maxI_some hne
  obtain ⟨mn, en⟩ := minI_some hne
  obtain ⟨x1, x2⟩ := maxI_is ex
  obtain ⟨n1, n2⟩ := minI_is en
  have vx : cellT t x c ∈ vs := List.mem_map_of_mem hx
  let V : PyData := .list (vs.map .int)
  let E : DEnv := [some (.fr (tabD t)), some (.fr (placeD G)), some (.fr (.int (x : Nat))), some (.fr (.int (c : Nat))), some (.fr V), some (.fr (.int (cellT t x c))), none]
  let E0 : DEnv := [some (.fr (tabD t)), some (.fr (placeD G)), some (.fr (.int (x : Nat))), some (.fr (.int (c : Nat))), some (.ow (vs.map .int)), some (.fr (.int (cellT t x c))), none]
  have m1 : maxLD [V] = some (.int mx) := by show (intsL (vs.map .int)).bind _ = _; rw [intsL_map]; show (maxI vs).map _ = _; rw [ex]; rfl
  have m2 : minLD [V] = some (.int mn) := by show (intsL (vs.map .int)).bind _ = _; rw [intsL_map]; show (minI vs).map _ = _; rw [en]; rfl
  refine ⟨some (.fr V), some (.fr (.int (cellT t x c))), ?_⟩
  refine ev_seq (e1 := [some (.fr (tabD t)), some (.fr (placeD G)), some (.fr (.int (x : Nat))), some (.fr (.int (c : Nat))), some (.ow (vs.map .int)), z5, none]) (ev_setN (ev_lc (ev_seqI (e1 := [some (.fr (tabD t)), some (.fr (placeD G)), some (.fr (.int (x : Nat))), some (.fr (.int (c : Nat))), z4, z5, none]) (d := placeD G) rfl rfl) (by rw [List.length_map]; show _ ≤ 100000; omega) rfl e) rfl) ?_
  refine ev_seq (e1 := E0) (ev_setE (ev_bin (ev_ixN rfl rfl rfl (at_row ht (hG x hx))) rfl (cell x (hG x hx))) rfl) ?_
  have top : topB t G x c = decide (cellT t x c = mx) := by
    rw [Bool.eq_iff_iff, decide_eq_true_eq]
    refine ⟨fun h => ?_, fun h => List.all_eq_true.mpr fun i hi => decide_eq_true (by rw [h]; exact x2 _ (List.mem_map_of_mem hi))⟩
    obtain ⟨i, hi, e⟩ := List.mem_map.mp x1
    have := of_decide_eq_true (List.all_eq_true.mp h i hi)
    have := x2 _ vx
    have e' : cellT t i c = mx := e
    omega
  have bot : botB t G x c = decide (cellT t x c = mn) := by
    rw [Bool.eq_iff_iff, decide_eq_true_eq]
    refine ⟨fun h => ?_, fun h => List.all_eq_true.mpr fun i hi => decide_eq_true (by rw [h]; exact n2 _ (List.mem_map_of_mem hi))⟩
    obtain ⟨i, hi, e⟩ := List.mem_map.mp n1
    have := of_decide_eq_true (List.all_eq_true.mp h i hi)
    have := n2 _ vx
    have e' : cellT t i c = mn := e
    omega
  have var : varB t G x c = !decide (mn = mx) := by
    rw [Bool.eq_iff_iff, Bool.not_eq_true', decide_eq_false_iff_not]
    refine ⟨fun h z => ?_, fun h => ?_⟩
    · obtain ⟨i, hi, hn⟩ := List.any_eq_true.mp h
      have a := x2 _ (List.mem_map_of_mem (f := fun i => cellT t i c) hi)
      have b := n2 _ (List.mem_map_of_mem (f := fun i => cellT t i c) hi)
      have a' := x2 _ vx
      have b' := n2 _ vx
      exact of_decide_eq_true hn (by omega)
    · refine List.any_eq_true.mpr ?_
      obtain ⟨i, hi, e1⟩ := List.mem_map.mp x1
      obtain ⟨j, hj, e2⟩ := List.mem_map.mp n1
      have e1' : cellT t i c = mx := e1
      have e2' : cellT t j c = mn := e2
      by_cases z : cellT t i c = cellT t x c
      · exact ⟨j, hj, decide_eq_true (by omega)⟩
      · exact ⟨i, hi, decide_eq_true z⟩
  have q1 : fTst (fBin neD (fCB minLD (fCons (rdF 4) fNil)) (fCB maxLD (fCons (rdF 4) fNil))) E0 = some (varB t G x c, E) := by
    rw [var]
    exact ev_tst (ev_bin (ev_cb (ev_cons (e1 := E) rfl ev_nil) m2) (ev_cb (ev_cons rfl ev_nil) m1) (intD_ne mn mx)) rfl
  have q2 : fTst (fBin neD (fCB minLD (fCons (rdF 4) fNil)) (fCB maxLD (fCons (rdF 4) fNil))) E = some (varB t G x c, E) := by
    rw [var]
    exact ev_tst (ev_bin (ev_cb (ev_cons rfl ev_nil) m2) (ev_cb (ev_cons rfl ev_nil) m1) (intD_ne mn mx)) rfl
  have q3 : fTst (fBin eqD (rdF 5) (fCB maxLD (fCons (rdF 4) fNil))) E = some (topB t G x c, E) := by
    rw [top]
    exact ev_tst (ev_bin rfl (ev_cb (ev_cons rfl ev_nil) m1) (intD_eq _ _)) rfl
  have q4 : fTst (fBin eqD (rdF 5) (fCB minLD (fCons (rdF 4) fNil))) E = some (botB t G x c, E) := by
    rw [bot]
    exact ev_tst (ev_bin rfl (ev_cb (ev_cons rfl ev_nil) m2) (intD_eq _ _)) rfl
  unfold edgC
  cases hv : varB t G x c with
  | false =>
    rw [hv] at q1 q2
    rw [Bool.false_and, Bool.false_and, if_neg (by decide), if_neg (by decide)]
    exact ev_seq (e1 := E) (ev_ifF (ev_and0 q1) rfl) (ev_ifF (ev_and0 q2) rfl)
  | true =>
    rw [hv] at q1 q2
    rw [Bool.true_and, Bool.true_and]
    cases htp : topB t G x c with
    | true =>
      rw [htp] at q3
      rw [if_pos rfl]
      exact ev_seqR (ev_ifT (ev_and1 q1 q3) (ev_ret rfl))
    | false =>
      rw [htp] at q3
      rw [if_neg (by decide)]
      cases hbt : botB t G x c with
      | true =>
        rw [hbt] at q4
        rw [if_pos rfl]
        exact ev_seq (e1 := E) (ev_ifF (ev_and1 q1 q3) rfl) (ev_ifT (ev_and1 q2 q4) (ev_ret rfl))
      | false =>
        rw [hbt] at q4
        rw [if_neg (by decide)]
        exact ev_seq (e1 := E) (ev_ifF (ev_and1 q1 q3) rfl) (ev_ifF (ev_and1 q2 q4) rfl)
theorem eg_loop {w : Nat} {t : Tab} (ht : TabW w t) {G : List Nat} {x : Nat} (hG : ∀ i ∈ G, i < t.length) (hx : x ∈ G) (hl : G.length ≤ 1000) : ∀ (cs : List Nat), (∀ c ∈ cs, c < w) → ∀ z3 z4 z5 : Option DV, ∃ env', forD (gSet 3) egB (cs.map fun c : Nat => PyData.int c) [some (.fr (tabD t)), some (.fr (placeD G)), some (.fr (.int (x : Nat))), z3, z4, z5, none] = some (match cs.findSome? (edgC t G x) with | some k => .rt (kd (toKy k)) env' | none => .nx env')
  | [], _, z3, z4, z5 => ⟨_, rfl⟩
  | c :: cs, h, z3, z4, z5 => by
    obtain ⟨z4', z5', e⟩ := eg_turn ht hG hx hl (h c List.mem_cons_self) z4 z5
    rw [List.map_cons, List.findSome?_cons]
    cases hf : edgC t G x c with
    | some k =>
      rw [hf] at e
      exact ⟨_, ev_forE rfl e⟩
    | none =>
      rw [hf] at e
      obtain ⟨env', e'⟩ := eg_loop ht hG hx hl cs (fun x hx => h x (List.mem_cons_of_mem _ hx)) (some (.fr (.int (c : Nat)))) z4' z5'
      exact ⟨env', ev_forN rfl e e'⟩
theorem edge_key_spec {w : Nat} {t : Tab} (ht : TabW w t) {G : List Nat} {x : Nat} (hG : ∀ i ∈ G, i < t.length) (hx : x ∈ G) (hl : G.length ≤ 1000) : m_edge_key [tabD t, placeD G, .int (x : Nat)] = some (keyD (edgK t (min w 4) G x)) := by
  obtain ⟨env', e⟩ := eg_loop ht hG hx hl (List.range (min w 4)) (fun c hc => by have := List.mem_range.mp hc; omega) none none none
  have e0 := sort_columns_spec ht
  have es : iSeq (fCB m_sort_columns (fCons (rdF 0) fNil)) [some (.fr (tabD t)), some (.fr (placeD G)), some (.fr (.int (x : Nat))), none, none, none, none] = some ((List.range (min w 4)).map fun c : Nat => PyData.int c, [some (.fr (tabD t)), some (.fr (placeD G)), some (.fr (.int (x : Nat))), none, none, none, none]) := ev_seqI (ev_cb (ev_cons rfl ev_nil) e0) rfl
  unfold edgK
  cases hf : (List.range (min w 4)).findSome? (edgC t G x) with
  | some k =>
    rw [hf] at e
    exact ev_runF (env := env') rfl (ev_seqR (ev_for es e))
  | none =>
    rw [hf] at e
    exact ev_runF (env := env') rfl (ev_seq (ev_for es e) (ev_ret rfl))
end DL
end L2

set_option Elab.async false
set_option maxRecDepth 100000
set_option maxHeartbeats 4000000
set_option autoImplicit false
namespace L2
namespace DL
open PySem PySem.Spec PyProof.Rows
local instance labNone_K42W : Lab := { w := none, T := [], gd := True }
theorem any_ints (c : Int) : ∀ cs : List Int, ((cs.map PyData.int).any fun z => PyData.eqv z (.int c)) = decide (c ∈ cs)
  | [] => rfl
  | x :: cs => by
    rw [List.map_cons, List.any_cons, any_ints c cs]
    show (decide (x = c) || decide (c ∈ cs)) = _
    by_cases h : x = c
    · subst h; simp
    · rw [decide_eq_false h, Bool.false_or]
      simp only [List.mem_cons]
      rw [decide_eq_decide]
      exact ⟨.inr, fun z => z.elim (fun w => absurd w.symm h) id⟩
/-! ### the keys towards a place -/
abbrev twT := (fTst (fBin notND (rdF 5) (fC .none)))
abbrev twB := (sSeq (sApp 3 (rdF 5)) (sSeq (sSet 4 (fCB tupleD (fCons (fFrz (nLc (iSeq (rdF 4)) (gSet 6) (fTst (fBin eqD (fBin ixD (fIxN 0 (rdF 6)) (fIxN 5 (fC (.int 0)))) (fBin ixD (fIxN 0 (rdF 2)) (fIxN 5 (fC (.int 0)))))) (rdF 6) [6])) fNil))) (sSet 5 (fCB m_edge_key (fCons (rdF 0) (fCons (rdF 4) (fCons (rdF 2) fNil)))))))
theorem tw_loop {w : Nat} {t : Tab} (ht : TabW w t) {K : List Nat} {x : Nat} (hK : ∀ i ∈ K, i < t.length) (hl : K.length ≤ 100) {Q : Option DV} : ∀ (n : Nat) (ks : List KB) (G : List Nat), Tow t (min w 4) K x ks G → G.length ≤ n → ∀ fuel, n + 1 ≤ fuel →
    ∃ ks' G', whileD twT twB fuel [some (.fr (tabD t)), Q, some (.fr (.int (x : Nat))), some (.ow (kyL ks)), some (.fr (placeD G)), some (.fr (keyD (edgK t (min w 4) G x))), none] = some (.nx [some (.fr (tabD t)), Q, some (.fr (.int (x : Nat))), some (.ow (kyL ks')), some (.fr (placeD G')), some (.fr (keyD none)), none]) ∧ Tow t (min w 4) K x ks' G' ∧ edgK t (min w 4) G' x = none
  | n, ks, G, h, hn, 0, hf => absurd hf (by omega)
  | n, ks, G, h, hn, fuel + 1, hf => by
    cases hk : edgK t (min w 4) G x with
    | none =>
      refine ⟨ks, G, ?_, h, hk⟩
      rw [whileD]
      rfl
    | some k =>
      obtain ⟨h', hlt⟩ := h.step hk
      have hlen := h'.len
      have hkl : (ks ++ [k]).length = ks.length + 1 := by simp
      have kr : 0 ≤ k.1 ∧ k.1 < ((min w 4 : Nat) : Int) := h'.rg k (by simp)
      match n, hn with
      | 0, hn => exact absurd hlt (by omega)
      | n + 1, hn =>
        obtain ⟨ks', G', e, r1, r2⟩ := tw_loop ht hK hl (Q := Q) n (ks ++ [k]) (grpK t k G x) h' (by omega) fuel (by omega)
        refine ⟨ks', G', ?_, r1, r2⟩
        have hG : ∀ i ∈ G, i < t.length := fun i hi => hK i (h.sub.subset hi)
        have hGl : G.length ≤ 100 := Nat.le_trans h.sub.length_le hl
        have hx : x < t.length := hG x h.mem
        have kw : k.1 < (w : Int) := by omega
        have e1 := lc_flt (i := 6) (ft := fTst (fBin eqD (fBin ixD (fIxN 0 (rdF 6)) (fIxN 5 (fC (.int 0)))) (fBin ixD (fIxN 0 (rdF 2)) (fIxN 5 (fC (.int 0)))))) (fe := rdF 6) (e := fun i : Nat => PyData.int i) (q := fun i : Nat => PyData.int i) (p := fun i => decide (cellT t i k.1 = cellT t x k.1)) (env := [some (.fr (tabD t)), Q, some (.fr (.int (x : Nat))), some (.ow (kyL (ks ++ [k]))), some (.fr (placeD G)), some (.fr (kd (toKy k))), none]) rfl G (fun i hi => ev_tst (ev_bin (ev_bin (ev_ixN rfl rfl rfl (at_row ht (hG i hi))) (ev_ixN rfl rfl rfl rfl) (at_cell ht (hG i hi) kr.1 kw)) (ev_bin (ev_ixN rfl rfl rfl (at_row ht hx)) (ev_ixN rfl rfl rfl rfl) (at_cell ht hx kr.1 kw)) (intD_eq _ _)) rfl) fun i _ _ => rfl
        have e2 := edge_key_spec ht (G := grpK t k G x) (x := x) (fun i hi => hG i (List.mem_filter.mp hi).1) h'.mem (by have := hlt; omega)
        rw [whileD]
        have body : twB [some (.fr (tabD t)), Q, some (.fr (.int (x : Nat))), some (.ow (kyL ks)), some (.fr (placeD G)), some (.fr (keyD (some k))), none] = some (.nx [some (.fr (tabD t)), Q, some (.fr (.int (x : Nat))), some (.ow (kyL (ks ++ [k]))), some (.fr (placeD (grpK t k G x))), some (.fr (keyD (edgK t (min w 4) (grpK t k G x) x))), none]) := by
          refine ev_seq (e1 := [some (.fr (tabD t)), Q, some (.fr (.int (x : Nat))), some (.ow (kyL (ks ++ [k]))), some (.fr (placeD G)), some (.fr (keyD (some k))), none]) (ev_app rfl rfl rfl (by show (kyL ks).length < 100000; unfold kyL; rw [List.length_map]; omega) ?_) ?_
          · show [some (.fr (tabD t)), Q, some (.fr (.int (x : Nat))), some (.ow (kyL ks ++ [kd (toKy k)])), some (.fr (placeD G)), some (.fr (keyD (some k))), none] = _
            unfold kyL
            rw [List.map_append]
            rfl
          refine ev_seq (e1 := [some (.fr (tabD t)), Q, some (.fr (.int (x : Nat))), some (.ow (kyL (ks ++ [k]))), some (.fr (placeD (grpK t k G x))), some (.fr (keyD (some k))), none]) (ev_setE (ev_cb (ev_cons (ev_frz (ev_lc (ds := G.map fun i : Nat => PyData.int i) (e1 := [some (.fr (tabD t)), Q, some (.fr (.int (x : Nat))), some (.ow (kyL (ks ++ [k]))), some (.fr (placeD G)), some (.fr (keyD (some k))), none]) rfl (by rw [List.length_map]; show _ ≤ 100000; omega) rfl e1)) ev_nil) rfl) rfl) ?_
          exact ev_setE (ev_cb (ev_cons rfl (ev_cons rfl (ev_cons rfl ev_nil))) e2) rfl
        show (twB [some (.fr (tabD t)), Q, some (.fr (.int (x : Nat))), some (.ow (kyL ks)), some (.fr (placeD G)), some (.fr (keyD (some k))), none]).bind _ = _
        rw [body]
        exact e
abbrev keptD (K : List Nat) : PyData := .list (K.map fun i : Nat => PyData.int i)
theorem towards_spec {w : Nat} {t : Tab} (ht : TabW w t) {K : List Nat} {x : Nat} (hK : ∀ i ∈ K, i < t.length) (hl : K.length ≤ 100) (hx : x ∈ K) : ∃ ks G, m_keys_towards [tabD t, keptD K, .int (x : Nat)] = some (.tuple [.list (kyL ks), placeD G]) ∧ Tow t (min w 4) K x ks G ∧ edgK t (min w 4) G x = none := by
  obtain ⟨ks, G, e, r1, r2⟩ := tw_loop ht hK hl (Q := some (.fr (keptD K))) K.length [] K (tow0 t _ hx) (Nat.le_refl _) 1000 (by omega)
  have e2 := edge_key_spec ht hK hx (by omega)
  refine ⟨ks, G, ?_, r1, r2⟩
  refine ev_runF rfl (env := [some (.fr (tabD t)), some (.fr (keptD K)), some (.fr (.int (x : Nat))), some (.fr (.list (kyL ks))), some (.fr (placeD G)), some (.fr (keyD none)), none]) ?_
  refine ev_seq (e1 := [some (.fr (tabD t)), some (.fr (keptD K)), some (.fr (.int (x : Nat))), some (.ow []), some (.fr (placeD K)), none, none]) (ev_parND (a := []) (c := placeD K) rfl (ev_cb (ev_cons rfl ev_nil) rfl) rfl) ?_
  refine ev_seq (e1 := [some (.fr (tabD t)), some (.fr (keptD K)), some (.fr (.int (x : Nat))), some (.ow []), some (.fr (placeD K)), some (.fr (keyD (edgK t (min w 4) K x))), none]) (ev_setE (ev_cb (ev_cons rfl (ev_cons rfl (ev_cons rfl ev_nil))) e2) rfl) ?_
  exact ev_seq e (ev_ret rfl)
/-! ### an order that ends with a place -/
theorem intN_eq (i j : Nat) : eqD (.int (i : Nat)) (.int (j : Nat)) = some (.bool (decide (i = j))) := by
  show some (PyData.bool (decide (((i : Nat) : Int) = ((j : Nat) : Int)))) = _
  congr 2
  rw [decide_eq_decide]
  omega
theorem at_minus (L : List Nat) (y : Nat) : ixD (placeD (L ++ [y])) (.int (-1)) = some (.int (y : Nat)) := by
  unfold placeD
  rw [List.map_append]
  exact atI_last _ _
theorem ends_keys {ks : List KB} {d : Bool} (hl : ks.length ≤ 4) {X : Option DV} {env e1 : DEnv} (h3 : rdF 3 env = some (.list (kyL ks), e1)) : True := trivial
theorem ends_spec {w : Nat} {t : Tab} (ht : TabW w t) {K : List Nat} {x : Nat} (hK : ∀ i ∈ K, i < t.length) (hl : K.length ≤ 100) (hx : x ∈ K) (hs : K.Pairwise (· < ·)) :
    (∃ o : Od, m_order_that_ends_with [tabD t, keptD K, .int (x : Nat)] = some (oD o) ∧ OOk o ∧ (∀ k ∈ o.1, 0 ≤ k.1 ∧ k.1 < ((min w 4 : Nat) : Int)) ∧ Ends t K x o) ∨ (m_order_that_ends_with [tabD t, keptD K, .int (x : Nat)] = some .none ∧ ∀ o : Od, (∀ k ∈ o.1, 0 ≤ k.1 ∧ k.1 < ((min w 4 : Nat) : Int)) → ¬ Ends t K x o) := by
  obtain ⟨ks, G, e, r1, r2⟩ := towards_spec ht hK hl hx
  have hGs : G.Pairwise (· < ·) := hs.sublist r1.sub
  have hkl : ks.length ≤ 4 := by have := r1.len; omega
  have okO : ∀ d : Bool, OOk (ks, d) := fun d => ⟨r1.nd, fun k hk => by have := r1.rg k hk; omega⟩
  let E : DEnv := [some (.fr (tabD t)), some (.fr (keptD K)), some (.fr (.int (x : Nat))), some (.fr (.list (kyL ks))), some (.fr (placeD G))]
  have s1 : sAsg (fCB m_keys_towards (fCons (rdF 0) (fCons (rdF 1) (fCons (rdF 2) fNil)))) (gTupD 2 (gsCons (gSet 3) (gsCons (gSet 4) gsNil))) [some (.fr (tabD t)), some (.fr (keptD K)), some (.fr (.int (x : Nat))), none, none] = some (.nx E) := ev_asg2 (ev_cb (ev_cons rfl (ev_cons rfl (ev_cons rfl ev_nil))) e) rfl
  have made : ∀ d : Bool, tupleD [.list (kyL ks ++ [plD (dS d)])] = some (oD (ks, d)) := fun d => by
    show some (PyData.tuple (kyL ks ++ [plD (dS d)])) = some (oD (ks, d))
    rw [oD_keys]
  have lim3 : (kyL ks).length + 1 ≤ lim := by show (kyL ks).length + 1 ≤ 100000; unfold kyL; rw [List.length_map]; omega
  rcases List.eq_nil_or_concat G with hG | ⟨L, y, hG⟩
  · have := r1.mem; rw [hG] at this; cases this
  rw [List.concat_eq_append] at hG
  have c1 : fTst (fBin eqD (rdF 2) (fIxN 4 (fNeg (fC (.int 1))))) E = some (decide (x = y), E) := ev_tst (ev_bin rfl (ev_ixN (i := .int (-1)) rfl rfl rfl (by rw [hG]; exact at_minus L y)) (intN_eq x y)) rfl
  by_cases hxy : x = y
  · rw [decide_eq_true hxy] at c1
    refine .inl ⟨(ks, true), ev_runF rfl (env := E) (ev_seq s1 (ev_seqR (ev_ifT c1 (ev_ret (ev_cb (ev_cons (ev_frz (ev_nAdd (a := kyL ks) (b := [plD (dS true)]) (e1 := E) rfl rfl lim3)) ev_nil) (made true)))))), okO _, r1.rg, r1.ends fun i hi hix => ?_⟩
    rw [sg_up, sg_up]
    rw [hG] at hi hGs
    rcases List.mem_append.mp hi with z | z
    · have := (List.pairwise_append.mp hGs).2.2 i z y (by simp)
      omega
    · exact absurd ((List.mem_singleton.mp z).trans hxy.symm) hix
  · rw [decide_eq_false hxy] at c1
    obtain ⟨z, R, hz⟩ : ∃ z R, G = z :: R := by
      rcases hq : G with _ | ⟨z, R⟩
      · have := r1.mem; rw [hq] at this; cases this
      · exact ⟨z, R, rfl⟩
    have c2 : fTst (fBin eqD (rdF 2) (fIxN 4 (fC (.int 0)))) E = some (decide (x = z), E) := ev_tst (ev_bin rfl (ev_ixN (z := .int (z : Nat)) rfl rfl rfl (by rw [hz]; show atI (PyData.int (z : Nat) :: R.map fun i : Nat => PyData.int i) 0 = _; simp [atI, ixN])) (intN_eq x z)) rfl
    have hlo : ∀ i ∈ G, i ≠ z → z < i := fun i hi hiz => by
      rw [hz] at hi hGs
      rcases List.mem_cons.mp hi with q | q
      · exact absurd q hiz
      · exact (List.pairwise_cons.mp hGs).1 i q
    have hhi : ∀ i ∈ G, i ≠ y → i < y := fun i hi hiy => by
      rw [hG] at hi hGs
      rcases List.mem_append.mp hi with q | q
      · exact (List.pairwise_append.mp hGs).2.2 i q y (by simp)
      · exact absurd (List.mem_singleton.mp q) hiy
    by_cases hxz : x = z
    · rw [decide_eq_true hxz] at c2
      refine .inl ⟨(ks, false), ev_runF rfl (env := E) (ev_seq s1 (ev_seq (e1 := E) (ev_ifF c1 rfl) (ev_seqR (ev_ifT c2 (ev_ret (ev_cb (ev_cons (ev_frz (ev_nAdd (a := kyL ks) (b := [plD (dS false)]) (e1 := E) rfl rfl lim3)) ev_nil) (made false))))))), okO _, r1.rg, r1.ends fun i hi hix => ?_⟩
      rw [sg_dn, sg_dn]
      have := hlo i hi (fun q => hix (q.trans hxz.symm))
      omega
    · rw [decide_eq_false hxz] at c2
      refine .inr ⟨ev_runF rfl (env := E) (ev_seq s1 (ev_seq (e1 := E) (ev_ifF c1 rfl) (ev_seq (e1 := E) (ev_ifF c2 rfl) (ev_ret rfl)))), fun o ho he => ?_⟩
      have te := tow_end r2 o.2 o.1 ho fun i hi hix => he i (r1.sub.subset hi) hix
      have tz := te z (by rw [hz]; exact List.mem_cons_self) (fun q => hxz q.symm)
      have ty := te y (by rw [hG]; simp) (fun q => hxy q.symm)
      have zx := hlo x r1.mem hxz
      have xy := hhi x r1.mem hxy
      cases ho2 : o.2 with
      | true => rw [ho2, sg_up, sg_up] at ty; omega
      | false => rw [ho2, sg_dn, sg_dn] at tz; omega
/-! ### the next cut -/
theorem in_pl (i : Nat) (ps : List Nat) : inB (.int (i : Nat)) (placeD ps) = some (decide (i ∈ ps)) := by
  have e : (ps.map fun i : Nat => PyData.int i) = (ps.map fun i : Nat => (i : Int)).map .int := by rw [List.map_map]; rfl
  have s2 : shD (.tuple (ps.map fun i : Nat => PyData.int i)) = true := by rw [e]; exact (Ly.tuple (ly_ints _)).sh (by decide)
  show (if shD (.int (i : Nat)) && shD (.tuple (ps.map fun i : Nat => PyData.int i)) then some ((ps.map fun i : Nat => PyData.int i).any fun z => PyData.eqv z (.int (i : Nat))) else none) = _
  rw [(ly_int (i : Nat)).sh (by decide), s2, e, any_ints]
  show some (decide ((i : Int) ∈ ps.map fun i : Nat => (i : Int))) = _
  congr 1
  rw [decide_eq_decide]
  refine ⟨fun z => ?_, fun z => List.mem_map_of_mem z⟩
  obtain ⟨j, hj, e⟩ := List.mem_map.mp z
  rw [show i = j by omega]; exact hj
end DL
end L2

set_option Elab.async false
set_option maxRecDepth 100000
set_option maxHeartbeats 4000000
set_option autoImplicit false
namespace L2
namespace DL
open PySem PySem.Spec PyProof.Rows
local instance labNone_K42Y : Lab := { w := none, T := [], gd := True }
/-! ### what is found, and nothing else -/
theorem plen {t : Tab} {w : Nat} (ht : TabW w t) {ps : List Nat} (nd : ps.Nodup) (hi : ∀ i ∈ ps, i < t.length) : ps.length ≤ 100 := by
  have := nodup_le ps (List.range t.length) nd fun i h => List.mem_range.mpr (hi i h)
  rw [List.length_range] at this
  have := ht.l2
  omega
/-! ### the extreme places -/
theorem towards_specP {w : Nat} {t : Tab} (ht : TabW w t) {K : List Nat} {x : Nat} (hK : ∀ i ∈ K, i < t.length) (hl : K.length ≤ 100) (hx : x ∈ K) : ∃ ks G, m_keys_towards [tabD t, placeD K, .int (x : Nat)] = some (.tuple [.list (kyL ks), placeD G]) ∧ Tow t (min w 4) K x ks G ∧ edgK t (min w 4) G x = none := by
  obtain ⟨ks, G, e, r1, r2⟩ := tw_loop ht hK hl (Q := some (.fr (placeD K))) K.length [] K (tow0 t _ hx) (Nat.le_refl _) 1000 (by omega)
  have e2 := edge_key_spec ht hK hx (by omega)
  refine ⟨ks, G, ?_, r1, r2⟩
  refine ev_runF rfl (env := [some (.fr (tabD t)), some (.fr (placeD K)), some (.fr (.int (x : Nat))), some (.fr (.list (kyL ks))), some (.fr (placeD G)), some (.fr (keyD none)), none]) ?_
  refine ev_seq (e1 := [some (.fr (tabD t)), some (.fr (placeD K)), some (.fr (.int (x : Nat))), some (.ow []), some (.fr (placeD K)), none, none]) (ev_parND (a := []) (c := placeD K) rfl (ev_cb (ev_cons rfl ev_nil) rfl) rfl) ?_
  refine ev_seq (e1 := [some (.fr (tabD t)), some (.fr (placeD K)), some (.fr (.int (x : Nat))), some (.ow []), some (.fr (placeD K)), some (.fr (keyD (edgK t (min w 4) K x))), none]) (ev_setE (ev_cb (ev_cons rfl (ev_cons rfl (ev_cons rfl ev_nil))) e2) rfl) ?_
  exact ev_seq e (ev_ret rfl)
/-! ### an order that ends with a place -/
theorem ends_specP {w : Nat} {t : Tab} (ht : TabW w t) {K : List Nat} {x : Nat} (hK : ∀ i ∈ K, i < t.length) (hl : K.length ≤ 100) (hx : x ∈ K) (hs : K.Pairwise (· < ·)) :
    (∃ o : Od, m_order_that_ends_with [tabD t, placeD K, .int (x : Nat)] = some (oD o) ∧ OOk o ∧ (∀ k ∈ o.1, 0 ≤ k.1 ∧ k.1 < ((min w 4 : Nat) : Int)) ∧ Ends t K x o) ∨ (m_order_that_ends_with [tabD t, placeD K, .int (x : Nat)] = some .none ∧ ∀ o : Od, (∀ k ∈ o.1, 0 ≤ k.1 ∧ k.1 < ((min w 4 : Nat) : Int)) → ¬ Ends t K x o) := by
  obtain ⟨ks, G, e, r1, r2⟩ := towards_specP ht hK hl hx
  have hGs : G.Pairwise (· < ·) := hs.sublist r1.sub
  have hkl : ks.length ≤ 4 := by have := r1.len; omega
  have okO : ∀ d : Bool, OOk (ks, d) := fun d => ⟨r1.nd, fun k hk => by have := r1.rg k hk; omega⟩
  let E : DEnv := [some (.fr (tabD t)), some (.fr (placeD K)), some (.fr (.int (x : Nat))), some (.fr (.list (kyL ks))), some (.fr (placeD G))]
  have s1 : sAsg (fCB m_keys_towards (fCons (rdF 0) (fCons (rdF 1) (fCons (rdF 2) fNil)))) (gTupD 2 (gsCons (gSet 3) (gsCons (gSet 4) gsNil))) [some (.fr (tabD t)), some (.fr (placeD K)), some (.fr (.int (x : Nat))), none, none] = some (.nx E) := ev_asg2 (ev_cb (ev_cons rfl (ev_cons rfl (ev_cons rfl ev_nil))) e) rfl
  have made : ∀ d : Bool, tupleD [.list (kyL ks ++ [plD (dS d)])] = some (oD (ks, d)) := fun d => by
    show some (PyData.tuple (kyL ks ++ [plD (dS d)])) = some (oD (ks, d))
    rw [oD_keys]
  have lim3 : (kyL ks).length + 1 ≤ lim := by show (kyL ks).length + 1 ≤ 100000; unfold kyL; rw [List.length_map]; omega
  rcases List.eq_nil_or_concat G with hG | ⟨L, y, hG⟩
  · have := r1.mem; rw [hG] at this; cases this
  rw [List.concat_eq_append] at hG
  have c1 : fTst (fBin eqD (rdF 2) (fIxN 4 (fNeg (fC (.int 1))))) E = some (decide (x = y), E) := ev_tst (ev_bin rfl (ev_ixN (i := .int (-1)) rfl rfl rfl (by rw [hG]; exact at_minus L y)) (intN_eq x y)) rfl
  by_cases hxy : x = y
  · rw [decide_eq_true hxy] at c1
    refine .inl ⟨(ks, true), ev_runF rfl (env := E) (ev_seq s1 (ev_seqR (ev_ifT c1 (ev_ret (ev_cb (ev_cons (ev_frz (ev_nAdd (a := kyL ks) (b := [plD (dS true)]) (e1 := E) rfl rfl lim3)) ev_nil) (made true)))))), okO _, r1.rg, r1.ends fun i hi hix => ?_⟩
    rw [sg_up, sg_up]
    rw [hG] at hi hGs
    rcases List.mem_append.mp hi with z | z
    · have := (List.pairwise_append.mp hGs).2.2 i z y (by simp)
      omega
    · exact absurd ((List.mem_singleton.mp z).trans hxy.symm) hix
  · rw [decide_eq_false hxy] at c1
    obtain ⟨z, R, hz⟩ : ∃ z R, G = z :: R := by
      rcases hq : G with _ | ⟨z, R⟩
      · have := r1.mem; rw [hq] at this; cases this
      · exact ⟨z, R, rfl⟩
    have c2 : fTst (fBin eqD (rdF 2) (fIxN 4 (fC (.int 0)))) E = some (decide (x = z), E) := ev_tst (ev_bin rfl (ev_ixN (z := .int (z : Nat)) rfl rfl rfl (by rw [hz]; show atI (PyData.int (z : Nat) :: R.map fun i : Nat => PyData.int i) 0 = _; simp [atI, ixN])) (intN_eq x z)) rfl
    have hlo : ∀ i ∈ G, i ≠ z → z < i := fun i hi hiz => by
      rw [hz] at hi hGs
      rcases List.mem_cons.mp hi with q | q
      · exact absurd q hiz
      · exact (List.pairwise_cons.mp hGs).1 i q
    have hhi : ∀ i ∈ G, i ≠ y → i < y := fun i hi hiy => by
      rw [hG] at hi hGs
      rcases List.mem_append.mp hi with q | q
      · exact (List.pairwise_append.mp hGs).2.2 i q y (by simp)
      · exact absurd (List.mem_singleton.mp q) hiy
    by_cases hxz : x = z
    · rw [decide_eq_true hxz] at c2
      refine .inl ⟨(ks, false), ev_runF rfl (env := E) (ev_seq s1 (ev_seq (e1 := E) (ev_ifF c1 rfl) (ev_seqR (ev_ifT c2 (ev_ret (ev_cb (ev_cons (ev_frz (ev_nAdd (a := kyL ks) (b := [plD (dS false)]) (e1 := E) rfl rfl lim3)) ev_nil) (made false))))))), okO _, r1.rg, r1.ends fun i hi hix => ?_⟩
      rw [sg_dn, sg_dn]
      have := hlo i hi (fun q => hix (q.trans hxz.symm))
      omega
    · rw [decide_eq_false hxz] at c2
      refine .inr ⟨ev_runF rfl (env := E) (ev_seq s1 (ev_seq (e1 := E) (ev_ifF c1 rfl) (ev_seq (e1 := E) (ev_ifF c2 rfl) (ev_ret rfl)))), fun o ho he => ?_⟩
      have te := tow_end r2 o.2 o.1 ho fun i hi hix => he i (r1.sub.subset hi) hix
      have tz := te z (by rw [hz]; exact List.mem_cons_self) (fun q => hxz q.symm)
      have ty := te y (by rw [hG]; simp) (fun q => hxy q.symm)
      have zx := hlo x r1.mem hxz
      have xy := hhi x r1.mem hxy
      cases ho2 : o.2 with
      | true => rw [ho2, sg_up, sg_up] at ty; omega
      | false => rw [ho2, sg_dn, sg_dn] at tz; omega
open Classical in
noncomputable def exL (t : Tab) (m : Nat) : List Nat := (List.range t.length).filter fun x => decide (Ext t m (List.range t.length) x)
open Classical in
theorem mem_exL {t : Tab} {m x : Nat} : x ∈ exL t m ↔ x < t.length ∧ Ext t m (List.range t.length) x := by
  unfold exL
  rw [List.mem_filter, List.mem_range, decide_eq_true_eq]
open Classical in
theorem exL_asc (t : Tab) (m : Nat) : (exL t m).Pairwise (· < ·) := List.pairwise_lt_range.filter _
open Classical in
theorem extreme_spec {w : Nat} {t : Tab} (ht : TabW w t) : m_extreme_places [tabD t] = some (placeD (exL t (min w 4))) := by
  have e0 := check_table_ok ht.tab
  have ev := every_spec ht
  have hl := ht.l2
  let E : DEnv := [some (.fr (tabD t)), some (.fr (placeD (List.range t.length))), none]
  have e := lc_flt (i := 2) (ft := fTst (fBin notND (fCB m_order_that_ends_with (fCons (rdF 0) (fCons (rdF 1) (fCons (rdF 2) fNil)))) (fC .none))) (fe := rdF 2) (e := fun i : Nat => PyData.int i) (q := fun i : Nat => PyData.int i) (p := fun x => decide (Ext t (min w 4) (List.range t.length) x)) (env := E) rfl (List.range t.length) (fun x hx => by
    rcases ends_specP ht (K := List.range t.length) (x := x) (fun i h => List.mem_range.mp h) (by rw [List.length_range]; omega) hx List.pairwise_lt_range with ⟨o, e, _, o2, o3⟩ | ⟨e, hno⟩
    · rw [decide_eq_true (show Ext t (min w 4) (List.range t.length) x from ⟨o, o2, o3⟩)]
      exact ev_tst (d := .bool true) (ev_bin (ev_cb (ev_cons rfl (ev_cons rfl (ev_cons rfl ev_nil))) e) rfl rfl) rfl
    · rw [decide_eq_false (show ¬ Ext t (min w 4) (List.range t.length) x from fun ⟨o, ho, he⟩ => hno o ho he)]
      exact ev_tst (d := .bool false) (ev_bin (ev_cb (ev_cons rfl (ev_cons rfl (ev_cons rfl ev_nil))) e) rfl rfl) rfl) fun x _ _ => rfl
  refine ev_runF (env := E) rfl (ev_seq (e1 := [some (.fr (tabD t)), none, none]) (ev_expr (ev_cb (ev_cons rfl ev_nil) e0)) (ev_seq (e1 := E) (ev_setE (ev_cb (ev_cons rfl ev_nil) ev) rfl) (ev_ret (ev_cb (ev_cons (ev_frz (ev_lc (ev_seqI rfl rfl) (by rw [List.length_map, List.length_range]; show t.length ≤ 100000; omega) rfl e)) ev_nil) rfl))))
end DL
end L2

set_option Elab.async false
set_option maxRecDepth 100000
set_option maxHeartbeats 4000000
set_option autoImplicit false
namespace L2
namespace DL
open PySem PySem.Spec PyProof.Rows
local instance labNone_K42N : Lab := { w := none, T := [], gd := True }
def itE (b : Bool) : Option KB → PyData
  | none => plD (dS b)
  | some k => kd (toKy k)
theorem oD_tup (o : Od) : oD o = .tuple ((o.1.map fun k => kd (toKy k)) ++ [plD (dS o.2)]) := by
  unfold oD ordD
  rw [List.map_map]
  rfl
theorem oD_its (o : Od) : oD o = .tuple ((o.1.map some ++ [none]).map (itE o.2)) := by
  rw [oD_tup, List.map_append, List.map_map]
  rfl
theorem flip_ix (b : Bool) : eqD (.str (dS b)) (.str "up") = some (.bool b) := by cases b <;> kernel_rfl
theorem eq_place (c : Int) : eqD (.int c) (.str "place") = some (.bool false) := by
  have h1 : shD (.int c) = true := (ly_int c).sh (by decide)
  have h2 : shD (.str "place") = true := by decide +kernel
  show ((if shD (.int c) && shD (.str "place") then some (PyData.eqv (.int c) (.str "place")) else none).map PyData.bool) = _
  rw [h1, h2]
  rfl
/-! ### the law's own normal forms -/
def itA : Option KB → PyData
  | none => .str "place"
  | some k => .int k.1
def itB (b : Bool) : Option KB → PyData
  | none => .str (dS b)
  | some k => .str (dS k.2)
theorem itE_pair (b : Bool) (x : Option KB) : itE b x = .tuple [itA x, itB b x] := by cases x <;> rfl
theorem oD_pairs (o : Od) : oD o = .tuple ((o.1.map some ++ [none]).map fun x => .tuple [itA x, itB o.2 x]) := by
  rw [oD_its]
  congr 1
  exact List.map_congr_left fun x _ => itE_pair _ x
def WO (w : Nat) (o : Od) : Prop := ∀ k ∈ o.1, k.1 < (w : Int)
/-! ### the law's own sorts -/
theorem ev_iffT {ft : DEnv → Option (Bool × DEnv)} {f g : DEnv → Option (PyData × DEnv)} {env e1 : DEnv} {r : Option (PyData × DEnv)} (h : ft env = some (true, e1)) (h2 : f e1 = r) : fIf ft f g env = r := by
  unfold fIf; rw [h]; exact h2
theorem ev_iffF {ft : DEnv → Option (Bool × DEnv)} {f g : DEnv → Option (PyData × DEnv)} {env e1 : DEnv} {r : Option (PyData × DEnv)} (h : ft env = some (false, e1)) (h2 : g e1 = r) : fIf ft f g env = r := by
  unfold fIf; rw [h]; exact h2
theorem ev_revT {f : DEnv → Option (PyData × DEnv)} {env e1 : DEnv} {d d' : PyData} (h : f env = some (d, e1)) (h2 : revD d = some d') : fRev f env = some (d', e1) := by
  unfold fRev; rw [h]; show (revD d).map _ = _; rw [h2]; rfl
abbrev sdBody := (sSeq (sSetN 6 (nLcH 3 (gSet 8) fYes (fIf (fTst (fBin eqD (rdF 4) (fC (.str "place")))) (rdF 8) (fBin ixD (fIxN 0 (rdF 8)) (rdF 4))) [8])) (sSeq (sSetN 7 (nSortP (fFrz (nLc (iArg rng1 (fCons (fLenN 3) fNil)) (gSet 10) fYes (fTup (fCons (fIf (fTst (fBin eqD (rdF 5) (fC (.str "up")))) (fIxN 6 (rdF 10)) (fBin subD (fC (.int 0)) (fIxN 6 (rdF 10)))) (fCons (rdF 10) fNil))) [10])))) (sSetN 3 (nLc (iSeq (rdF 7)) (gTupD 2 (gsCons (gSet 9) (gsCons (gSet 10) gsNil))) fYes (fIxN 3 (rdF 10)) [9, 10]))))
def valO (t : Tab) : Option KB → Nat → Int
  | none, i => i
  | some k, i => cellT t i k.1
def WI (w : Nat) : Option KB → Prop
  | none => True
  | some k => 0 ≤ k.1 ∧ k.1 < (w : Int)
theorem len_intsM (l : List Nat) : (l.map fun i : Nat => PyData.int i).length = l.length := List.length_map ..
theorem getD_mem {l : List Nat} {k : Nat} (h : k < l.length) : l.getD k 0 ∈ l := by
  rw [List.getD_eq_getElem?_getD, List.getElem?_eq_getElem h]
  exact List.getElem_mem h
theorem ix_nat {f : Nat → PyData} {l : List Nat} {k : Nat} {i : Int} (hi : i = k) (h : k < l.length) : ixD (.list (l.map f)) (.int i) = some (f (l.getD k 0)) := by
  subst hi
  show atI (l.map f) (k : Int) = _
  rw [at_nat (by rw [List.length_map]; exact h), List.getElem_map]
  congr 1
  rw [List.getD_eq_getElem?_getD, List.getElem?_eq_getElem h]
  rfl
theorem sd_turn {w : Nat} {t : Tab} (ht : TabW w t) {b : Bool} {x : Option KB} (hx : WI w x) {l : List Nat} (hl : ∀ i ∈ l, i < t.length) (hn : l.length ≤ 30) {P K a6 a7 : Option DV} :
    ∃ c6 c7, sdBody [some (.fr (tabD t)), P, K, some (.ow (l.map fun i : Nat => PyData.int i)), some (.fr (itA x)), some (.fr (itB b x)), a6, a7, none, none, none] = some (.nx [some (.fr (tabD t)), P, K, some (.ow ((stbP (vsg t b x) l).map fun i : Nat => PyData.int i)), some (.fr (itA x)), some (.fr (itB b x)), c6, c7, none, none, none]) := by
  have hn' : (l.map fun i : Nat => PyData.int i).length ≤ lim := by rw [len_intsM]; show _ ≤ 100000; omega
  -- the worths
  have e1 := lc_img (i := 8) (fe := fIf (fTst (fBin eqD (rdF 4) (fC (.str "place")))) (rdF 8) (fBin ixD (fIxN 0 (rdF 8)) (rdF 4))) (e := fun i : Nat => PyData.int i) (q := fun i => .int (valO t x i)) (env := [some (.fr (tabD t)), P, K, none, some (.fr (itA x)), some (.fr (itB b x)), a6, a7, none, none, none]) rfl l fun i hi => by
    cases x with
    | none => exact ev_iffT (ev_tst (ev_bin rfl rfl rfl) rfl) rfl
    | some k => exact ev_iffF (ev_tst (ev_bin rfl rfl (eq_place k.1)) rfl) (ev_bin (ev_ixN rfl rfl rfl (at_row ht (hl i hi))) rfl (at_cell ht (hl i hi) hx.1 hx.2))
  -- the pairs
  have e2 := lc_img (i := 10) (fe := fTup (fCons (fIf (fTst (fBin eqD (rdF 5) (fC (.str "up")))) (fIxN 6 (rdF 10)) (fBin subD (fC (.int 0)) (fIxN 6 (rdF 10)))) (fCons (rdF 10) fNil))) (e := fun k : Nat => .int (0 + (k : Int))) (q := fun k => pairD (vsg t b x (l.getD k 0), (k : Int))) (env := [some (.fr (tabD t)), P, K, some (.ow (l.map fun i : Nat => PyData.int i)), some (.fr (itA x)), some (.fr (itB b x)), some (.ow (l.map fun i => .int (valO t x i))), a7, none, none, none]) rfl (List.range l.length) fun k hk => by
    have hk := List.mem_range.mp hk
    have g := ix_nat (f := fun i => PyData.int (valO t x i)) (l := l) (k := k) (i := 0 + (k : Int)) (by omega) hk
    have sgn : ∀ (d : Bool) (y : Int), itB b x = .str (dS d) → vsg t b x (l.getD k 0) = sg (dS d) y → valO t x (l.getD k 0) = y → fTup (fCons (fIf (fTst (fBin eqD (rdF 5) (fC (.str "up")))) (fIxN 6 (rdF 10)) (fBin subD (fC (.int 0)) (fIxN 6 (rdF 10)))) (fCons (rdF 10) fNil)) ([some (.fr (tabD t)), P, K, some (.ow (l.map fun i : Nat => PyData.int i)), some (.fr (itA x)), some (.fr (itB b x)), some (.ow (l.map fun i => .int (valO t x i))), a7, none, none, none].set 10 (some (.fr (.int (0 + (k : Int)))))) = some (pairD (vsg t b x (l.getD k 0), (k : Int)), [some (.fr (tabD t)), P, K, some (.ow (l.map fun i : Nat => PyData.int i)), some (.fr (itA x)), some (.fr (itB b x)), some (.ow (l.map fun i => .int (valO t x i))), a7, none, none, none].set 10 (some (.fr (.int (0 + (k : Int)))))) := fun d y hB hv hy => by
      rw [hy] at g
      have hz : PyData.int (0 + (k : Int)) = PyData.int (k : Int) := by rw [Int.zero_add]
      cases d with
      | true =>
        have e3 : sg (dS true) y = y := by show (if ("up" : Str) = "up" then y else -y) = y; rw [if_pos rfl]
        rw [hv, e3]
        refine (ev_tup (env := [some (.fr (tabD t)), P, K, some (.ow (l.map fun i : Nat => PyData.int i)), some (.fr (itA x)), some (.fr (itB b x)), some (.ow (l.map fun i => .int (valO t x i))), a7, none, none, some (.fr (.int (0 + (k : Int))))]) (ds := [.int y, .int (0 + (k : Int))]) (e1 := [some (.fr (tabD t)), P, K, some (.ow (l.map fun i : Nat => PyData.int i)), some (.fr (itA x)), some (.fr (itB b x)), some (.ow (l.map fun i => .int (valO t x i))), a7, none, none, some (.fr (.int (0 + (k : Int))))]) (ev_cons (e1 := [some (.fr (tabD t)), P, K, some (.ow (l.map fun i : Nat => PyData.int i)), some (.fr (itA x)), some (.fr (itB b x)), some (.ow (l.map fun i => .int (valO t x i))), a7, none, none, some (.fr (.int (0 + (k : Int))))]) (ev_iffT (e1 := [some (.fr (tabD t)), P, K, some (.ow (l.map fun i : Nat => PyData.int i)), some (.fr (itA x)), some (.fr (itB b x)), some (.ow (l.map fun i => .int (valO t x i))), a7, none, none, some (.fr (.int (0 + (k : Int))))]) (ev_tst (ev_bin (e1 := [some (.fr (tabD t)), P, K, some (.ow (l.map fun i : Nat => PyData.int i)), some (.fr (itA x)), some (.fr (itB b x)), some (.ow (l.map fun i => .int (valO t x i))), a7, none, none, some (.fr (.int (0 + (k : Int))))]) (a := .str (dS true)) (by rw [← hB]; rfl) rfl (flip_ix true)) rfl) (ev_ixN rfl rfl rfl g)) (ev_cons rfl ev_nil)) (by show (2 : Nat) ≤ 100000; decide)).trans ?_
        rw [hz]; rfl
      | false =>
        have e3 : sg (dS false) y = 0 - y := by show (if ("down" : Str) = "up" then y else -y) = _; rw [if_neg (by decide)]; omega
        rw [hv, e3]
        refine (ev_tup (env := [some (.fr (tabD t)), P, K, some (.ow (l.map fun i : Nat => PyData.int i)), some (.fr (itA x)), some (.fr (itB b x)), some (.ow (l.map fun i => .int (valO t x i))), a7, none, none, some (.fr (.int (0 + (k : Int))))]) (ds := [.int (0 - y), .int (0 + (k : Int))]) (e1 := [some (.fr (tabD t)), P, K, some (.ow (l.map fun i : Nat => PyData.int i)), some (.fr (itA x)), some (.fr (itB b x)), some (.ow (l.map fun i => .int (valO t x i))), a7, none, none, some (.fr (.int (0 + (k : Int))))]) (ev_cons (e1 := [some (.fr (tabD t)), P, K, some (.ow (l.map fun i : Nat => PyData.int i)), some (.fr (itA x)), some (.fr (itB b x)), some (.ow (l.map fun i => .int (valO t x i))), a7, none, none, some (.fr (.int (0 + (k : Int))))]) (ev_iffF (e1 := [some (.fr (tabD t)), P, K, some (.ow (l.map fun i : Nat => PyData.int i)), some (.fr (itA x)), some (.fr (itB b x)), some (.ow (l.map fun i => .int (valO t x i))), a7, none, none, some (.fr (.int (0 + (k : Int))))]) (ev_tst (ev_bin (e1 := [some (.fr (tabD t)), P, K, some (.ow (l.map fun i : Nat => PyData.int i)), some (.fr (itA x)), some (.fr (itB b x)), some (.ow (l.map fun i => .int (valO t x i))), a7, none, none, some (.fr (.int (0 + (k : Int))))]) (a := .str (dS false)) (by rw [← hB]; rfl) rfl (flip_ix false)) rfl) (ev_bin rfl (ev_ixN rfl rfl rfl g) rfl)) (ev_cons rfl ev_nil)) (by show (2 : Nat) ≤ 100000; decide)).trans ?_
        rw [hz]; rfl
    cases x with
    | none => exact sgn b (l.getD k 0 : Nat) rfl rfl rfl
    | some kk => exact sgn kk.2 (cellT t (l.getD k 0) kk.1) rfl rfl rfl
  have e2' : (List.range l.length).map (fun k => pairD (vsg t b x (l.getD k 0), (k : Int))) = (prsP (vsg t b x) l).map pairD := by
    unfold prsP; rw [List.map_map]; rfl
  rw [e2'] at e2
  -- the places again
  have e3 := lc_img2 (i := 9) (j := 10) (fe := fIxN 3 (rdF 10)) (a := fun p : Int × Int => .int p.1) (b := fun p => .int p.2) (q := fun p => .int (l.getD p.2.toNat 0 : Nat)) (env := [some (.fr (tabD t)), P, K, some (.ow (l.map fun i : Nat => PyData.int i)), some (.fr (itA x)), some (.fr (itB b x)), some (.ow (l.map fun i => .int (valO t x i))), some (.fr (.list ((sortPr (prsP (vsg t b x) l)).map pairD))), none, none, none]) (fun _ _ => rfl) (sortPr (prsP (vsg t b x) l)) fun p hp => by
    have hm : p ∈ prsP (vsg t b x) l := (List.mergeSort_perm _ _).mem_iff.mp hp
    obtain ⟨k, hk, rfl⟩ := List.mem_map.mp hm
    have hk := List.mem_range.mp hk
    have g := ix_nat (f := fun i : Nat => PyData.int i) (l := l) (k := k) (i := (k : Int)) rfl hk
    refine ev_ixN rfl rfl rfl ?_
    show ixD _ (.int (k : Int)) = some (PyData.int (l.getD (k : Int).toNat 0 : Nat))
    rw [Int.toNat_natCast]
    exact g
  have e3' : (sortPr (prsP (vsg t b x) l)).map (fun p => PyData.int (l.getD p.2.toNat 0 : Nat)) = (stbP (vsg t b x) l).map fun i : Nat => PyData.int i := by
    unfold stbP; rw [List.map_map]; rfl
  rw [e3'] at e3
  have hr : rng1 [.int ((l.map fun i : Nat => PyData.int i).length : Nat)] = some ((List.range l.length).map fun k : Nat => .int (0 + (k : Int))) := by
    show (if _ then some (rangeD 0 ((l.map fun i : Nat => PyData.int i).length : Int).toNat) else none) = _
    rw [len_intsM, if_pos (by omega), Int.toNat_natCast]
    rfl
  have hlp : (sortPr (prsP (vsg t b x) l)).length = l.length := by
    unfold sortPr prsP
    rw [List.length_mergeSort, List.length_map, List.length_range]
  refine ⟨some (.ow (l.map fun i => .int (valO t x i))), some (.fr (.list ((sortPr (prsP (vsg t b x) l)).map pairD))), ?_⟩
  refine ev_seq (e1 := [some (.fr (tabD t)), P, K, some (.ow (l.map fun i : Nat => PyData.int i)), some (.fr (itA x)), some (.fr (itB b x)), some (.ow (l.map fun i => .int (valO t x i))), a7, none, none, none]) (ev_setN (ev_lcH rfl hn' rfl e1 rfl) rfl) ?_
  refine ev_seq (e1 := [some (.fr (tabD t)), P, K, some (.ow (l.map fun i : Nat => PyData.int i)), some (.fr (itA x)), some (.fr (itB b x)), some (.ow (l.map fun i => .int (valO t x i))), some (.ow ((sortPr (prsP (vsg t b x) l)).map pairD)), none, none, none]) (ev_setN (ev_sortP (ev_frz (ev_lc (ev_iArg (ev_cons (ev_lenN rfl rfl) ev_nil) hr) (by rw [List.length_map, List.length_range]; show _ ≤ 100000; omega) rfl e2))) rfl) ?_
  exact ev_setN (ev_lc (ds := (sortPr (prsP (vsg t b x) l)).map pairD) (ev_seqI rfl rfl) (by rw [List.length_map, hlp]; show _ ≤ 100000; omega) rfl e3) rfl
theorem sd_loop {w : Nat} {t : Tab} (ht : TabW w t) {b : Bool} {P K : Option DV} : ∀ (xs : List (Option KB)) (l : List Nat) (x4 x5 a6 a7 : Option DV), (∀ x ∈ xs, WI w x) → (∀ i ∈ l, i < t.length) → l.length ≤ 30 →
    ∃ z4 z5 c6 c7, forD (gTupD 2 (gsCons (gSet 4) (gsCons (gSet 5) gsNil))) sdBody (xs.map fun x => .tuple [itA x, itB b x]) [some (.fr (tabD t)), P, K, some (.ow (l.map fun i : Nat => PyData.int i)), x4, x5, a6, a7, none, none, none] = some (.nx [some (.fr (tabD t)), P, K, some (.ow ((standP t b xs l).map fun i : Nat => PyData.int i)), z4, z5, c6, c7, none, none, none])
  | [], l, x4, x5, a6, a7, _, _, _ => ⟨x4, x5, a6, a7, by rw [List.map_nil, forD]; rfl⟩
  | x :: xs, l, x4, x5, a6, a7, h, hl, hn => by
    obtain ⟨c6, c7, e1⟩ := sd_turn ht (b := b) (h x List.mem_cons_self) hl hn (P := P) (K := K) (a6 := a6) (a7 := a7)
    have hp := stbP_perm (vsg t b x) l
    obtain ⟨z4, z5, d6, d7, e2⟩ := sd_loop ht (b := b) (P := P) (K := K) xs (stbP (vsg t b x) l) (some (.fr (itA x))) (some (.fr (itB b x))) c6 c7 (fun y hy => h y (List.mem_cons_of_mem _ hy)) (fun i hi => hl i (hp.mem_iff.mp hi)) (by rw [hp.length_eq]; exact hn)
    exact ⟨z4, z5, d6, d7, ev_forN rfl e1 e2⟩
theorem law_stand_spec {w : Nat} {t : Tab} (ht : TabW w t) {o : Od} (ho : OOk o) (hw : WO w o) {l : List Nat} (nd : l.Nodup) (hl : ∀ i ∈ l, i < t.length) (hn : l.length ≤ 30) : m__law_stand [tabD t, .list (l.map fun i : Nat => PyData.int i), oD o] = some (placeD (srtP (kvO t o) l)) := by
  obtain ⟨z4, z5, c6, c7, e⟩ := sd_loop ht (b := o.2) (P := some (.fr (.list (l.map fun i : Nat => PyData.int i)))) (K := some (.fr (oD o))) ((o.1.map some ++ [none]).reverse) l none none none none (fun x hx => by
    rw [List.mem_reverse, List.mem_append] at hx
    rcases hx with hx | hx
    · obtain ⟨k, hk, rfl⟩ := List.mem_map.mp hx
      exact ⟨(ho.rg k hk).1, hw k hk⟩
    · rw [List.mem_singleton.mp hx]; trivial) hl hn
  rw [stand_is t o nd] at e
  have hrev : fRev (rdF 2) [some (.fr (tabD t)), some (.fr (.list (l.map fun i : Nat => PyData.int i))), some (.fr (oD o)), some (.ow (l.map fun i : Nat => PyData.int i)), none, none, none, none, none, none, none] = some (.tuple ((o.1.map some ++ [none]).reverse.map fun x => .tuple [itA x, itB o.2 x]), [some (.fr (tabD t)), some (.fr (.list (l.map fun i : Nat => PyData.int i))), some (.fr (oD o)), some (.ow (l.map fun i : Nat => PyData.int i)), none, none, none, none, none, none, none]) := by
    refine ev_revT rfl ?_
    rw [oD_pairs]
    show some (PyData.tuple (List.reverse _)) = _
    rw [List.map_reverse]
  exact ev_runF rfl (env := [some (.fr (tabD t)), some (.fr (.list (l.map fun i : Nat => PyData.int i))), some (.fr (oD o)), some (.fr (.list ((srtP (kvO t o) l).map fun i : Nat => PyData.int i))), z4, z5, c6, c7, none, none, none]) (ev_seq (e1 := [some (.fr (tabD t)), some (.fr (.list (l.map fun i : Nat => PyData.int i))), some (.fr (oD o)), some (.ow (l.map fun i : Nat => PyData.int i)), none, none, none, none, none, none, none]) rfl (ev_seq (ev_for (ev_seqI hrev rfl) e) rfl))
end DL
end L2

set_option Elab.async false
set_option maxRecDepth 100000
set_option maxHeartbeats 4000000
set_option autoImplicit false
namespace L2
namespace DL
open PySem PySem.Spec PyProof.Rows
local instance labNone_K42O : Lab := { w := none, T := [], gd := True }
theorem ev_whileT {ft : DEnv → Option (Bool × DEnv)} {b : DEnv → Option DFlow} {n : Nat} {env e1 e2 : DEnv} (h : ft env = some (true, e1)) (hb : b e1 = some (.nx e2)) : whileD ft b (n + 1) env = whileD ft b n e2 := by
  rw [whileD, h]; show (b e1).bind _ = _; rw [hb]; rfl
theorem ev_whileF {ft : DEnv → Option (Bool × DEnv)} {b : DEnv → Option DFlow} {n : Nat} {env e1 : DEnv} (h : ft env = some (false, e1)) : whileD ft b (n + 1) env = some (.nx e1) := by
  rw [whileD, h]; rfl
theorem in_ints (c : Int) (cs : List Int) : inB (.int c) (.list (cs.map .int)) = some (decide (c ∈ cs)) := by
  show (if shD (.int c) && shD (.list (cs.map .int)) then some ((cs.map PyData.int).any fun z => PyData.eqv z (.int c)) else none) = _
  rw [(ly_int c).sh (by decide), (Ly.list (ly_ints cs)).sh (by decide), any_ints]
  rfl
/-! ### all orders of the first columns -/
def sidesW (w : Nat) : List Int := (List.range w).map fun i : Nat => 0 + (i : Int)
def nextK (w : Nat) (h : List KB) : List (List KB) := ((sidesW w).filter fun c => !decide (c ∈ h.map (·.1))).flatMap fun c => [h ++ [(c, true)], h ++ [(c, false)]]
def levK (w : Nat) : Nat → List (List KB)
  | 0 => [[]]
  | k + 1 => (levK w k).flatMap (nextK w)
def bothO (h : List KB) : List Od := [(h, true), (h, false)]
def allK (w : Nat) : Nat → List Od
  | 0 => []
  | k + 1 => allK w k ++ (levK w k).flatMap bothO
theorem mem_sides {w : Nat} {c : Int} : c ∈ sidesW w ↔ 0 ≤ c ∧ c < (w : Int) := by
  unfold sidesW
  rw [List.mem_map]
  constructor
  · rintro ⟨i, hi, rfl⟩
    have := List.mem_range.mp hi
    omega
  · intro h
    exact ⟨c.toNat, List.mem_range.mpr (by omega), by omega⟩
theorem mem_next {w : Nat} {h g : List KB} : g ∈ nextK w h ↔ ∃ k : KB, 0 ≤ k.1 ∧ k.1 < (w : Int) ∧ k.1 ∉ h.map (·.1) ∧ g = h ++ [k] := by
  unfold nextK
  rw [List.mem_flatMap]
  constructor
  · rintro ⟨c, hc, hg⟩
    obtain ⟨h1, h2⟩ := List.mem_filter.mp hc
    have h1 := mem_sides.mp h1
    rw [Bool.not_eq_true', decide_eq_false_iff_not] at h2
    simp only [List.mem_cons, List.not_mem_nil, or_false] at hg
    rcases hg with rfl | rfl
    · exact ⟨(c, true), h1.1, h1.2, h2, rfl⟩
    · exact ⟨(c, false), h1.1, h1.2, h2, rfl⟩
  · rintro ⟨⟨c, d⟩, h0, h1, h2, rfl⟩
    refine ⟨c, List.mem_filter.mpr ⟨mem_sides.mpr ⟨h0, h1⟩, by rw [Bool.not_eq_true', decide_eq_false_iff_not]; exact h2⟩, ?_⟩
    cases d <;> simp
theorem mem_lev {w : Nat} : ∀ (k : Nat) (h : List KB), h ∈ levK w k ↔ h.length = k ∧ (h.map (·.1)).Nodup ∧ ∀ x ∈ h, 0 ≤ x.1 ∧ x.1 < (w : Int)
  | 0, h => by
    show h ∈ [[]] ↔ _
    rw [List.mem_singleton]
    constructor
    · rintro rfl
      exact ⟨rfl, List.nodup_nil, fun _ h => nomatch h⟩
    · exact fun z => List.length_eq_zero_iff.mp z.1
  | k + 1, h => by
    show h ∈ (levK w k).flatMap (nextK w) ↔ _
    rw [List.mem_flatMap]
    constructor
    · rintro ⟨g, hg, hh⟩
      obtain ⟨h1, h2, h3⟩ := (mem_lev k g).mp hg
      obtain ⟨x, x0, x1, x2, rfl⟩ := mem_next.mp hh
      refine ⟨by rw [List.length_append, h1]; rfl, ?_, fun y hy => ?_⟩
      · rw [List.map_append, List.nodup_append]
        refine ⟨h2, by simp, fun a ha b hb e => ?_⟩
        have hb : b = x.1 := by simpa using hb
        exact x2 (by rw [← hb, ← e]; exact ha)
      · rcases List.mem_append.mp hy with z | z
        · exact h3 y z
        · rw [List.mem_singleton.mp z]; exact ⟨x0, x1⟩
    · rintro ⟨h1, h2, h3⟩
      rcases List.eq_nil_or_concat h with z | ⟨g, x, z⟩
      · rw [z] at h1; cases h1
      · rw [List.concat_eq_append] at z
        subst z
        rw [List.length_append] at h1
        rw [List.map_append, List.nodup_append] at h2
        refine ⟨g, (mem_lev k g).mpr ⟨Nat.succ.inj h1, h2.1, fun y hy => h3 y (List.mem_append.mpr (.inl hy))⟩, mem_next.mpr ⟨x, (h3 x (by simp)).1, (h3 x (by simp)).2, fun q => h2.2.2 _ q x.1 (by simp) rfl, rfl⟩⟩
theorem mem_all {w : Nat} : ∀ (n : Nat) (o : Od), o ∈ allK w n ↔ o.1.length < n ∧ (o.1.map (·.1)).Nodup ∧ ∀ x ∈ o.1, 0 ≤ x.1 ∧ x.1 < (w : Int)
  | 0, o => by
    show o ∈ [] ↔ _
    exact ⟨fun z => (nomatch z), fun z => absurd z.1 (Nat.not_lt_zero _)⟩
  | n + 1, o => by
    show o ∈ allK w n ++ (levK w n).flatMap bothO ↔ _
    rw [List.mem_append, mem_all n o, List.mem_flatMap]
    constructor
    · rintro (⟨a, b⟩ | ⟨h, hh, ho⟩)
      · exact ⟨by omega, b⟩
      · obtain ⟨h1, h2⟩ := (mem_lev n h).mp hh
        simp only [bothO, List.mem_cons, List.not_mem_nil, or_false] at ho
        rcases ho with rfl | rfl <;> exact ⟨by show h.length < _; omega, h2⟩
    · rintro ⟨a, b⟩
      by_cases e : o.1.length = n
      · refine .inr ⟨o.1, (mem_lev n _).mpr ⟨e, b⟩, ?_⟩
        obtain ⟨h, d⟩ := o
        cases d <;> simp [bothO]
      · exact .inl ⟨by omega, b⟩
abbrev oB := (sSeq (sSetN 3 (fLst fNil)) (sSeq (sFor (iSeq (rdF 1)) (gSet 4) (sSeq (sExt 2 (fFrz (nLc (iSeq (fFrz (fLst (fCons (fC (.str "up")) (fCons (fC (.str "down")) fNil))))) (gSet 8) fYes (fBin addD (rdF 4) (fTup (fCons (fTup (fCons (fC (.str "place")) (fCons (rdF 8) fNil))) fNil))) [8]))) (sSeq (sSetN 5 (nLc (iSeq (rdF 4)) (gSet 7) fYes (fIxN 7 (fC (.int 0))) [7])) (sFor (iSeq (fFrz (nLc (iArg rng1 (fCons (rdF 0) fNil)) (gSet 6) (fTst (fCmpN notInD (rdF 6) 5)) (rdF 6) [6]))) (gSet 6) (sExt 3 (fFrz (nLc (iSeq (fFrz (fLst (fCons (fC (.str "up")) (fCons (fC (.str "down")) fNil))))) (gSet 8) fYes (fBin addD (rdF 4) (fTup (fCons (fTup (fCons (rdF 6) (fCons (rdF 8) fNil))) fNil))) [8]))))))) (sSet 1 (rdF 3))))
abbrev oT := (fTst (fCmpL neD 1 (fFrz (fLst fNil))))
def headD (h : List KB) : PyData := .tuple (kyL h)
theorem head_long (h : List KB) (c : Int) (d : Bool) (hl : h.length ≤ 1000) : addD (headD h) (.tuple [.tuple [.int c, .str (dS d)]]) = some (headD (h ++ [(c, d)])) := by
  unfold headD
  rw [ev_add (by show (kyL h).length + 1 ≤ 100000; unfold kyL; rw [List.length_map]; omega)]
  unfold kyL
  rw [List.map_append]
  rfl
theorem head_place (h : List KB) (d : Bool) (hl : h.length ≤ 1000) : addD (headD h) (.tuple [.tuple [.str "place", .str (dS d)]]) = some (oD (h, d)) := by
  unfold headD
  rw [oD_keys, ev_add (by show (kyL h).length + 1 ≤ 100000; unfold kyL; rw [List.length_map]; omega)]
  rfl
/-! ### one head -/
abbrev oE (W : PyData) (z1 : Option DV) (F L : List PyData) (z4 z5 z6 : Option DV) : DEnv := [some (.fr W), z1, some (.ow F), some (.ow L), z4, z5, z6, none, none]
theorem ways_lc {i : Nat} {fe : DEnv → Option (PyData × DEnv)} {q : Bool → PyData} {env : DEnv} (hv : env.set i none = env) (h : ∀ d, fe (env.set i (some (.fr (.str (dS d))))) = some (q d, env.set i (some (.fr (.str (dS d)))))) (hw : wipeE env [i] = env) :
    fFrz (nLc (iSeq (fFrz (fLst (fCons (fC (.str "up")) (fCons (fC (.str "down")) fNil))))) (gSet i) fYes fe [i]) env = some (.list [q true, q false], env) := by
  have e := lc_img (i := i) (fe := fe) (e := fun d : Bool => PyData.str (dS d)) (q := q) (env := env) hv [true, false] fun d _ => h d
  exact ev_frz (ev_lc (ds := [.str "up", .str "down"]) (ev_seqI (d := .list [.str "up", .str "down"]) (ev_frz (ev_lst (ev_cons rfl (ev_cons rfl ev_nil)) (by show 2 ≤ 100000; decide))) rfl) (by show 2 ≤ 100000; decide) hw e)
abbrev sideB := sExt 3 (fFrz (nLc (iSeq (fFrz (fLst (fCons (fC (.str "up")) (fCons (fC (.str "down")) fNil))))) (gSet 8) fYes (fBin addD (rdF 4) (fTup (fCons (fTup (fCons (rdF 6) (fCons (rdF 8) fNil))) fNil))) [8]))
theorem side_loop {W : PyData} {z1 : Option DV} {F : List PyData} {h : List KB} (hl : h.length ≤ 100) {z5 : Option DV} : ∀ (cs : List Int) (L : List (List KB)) (z6 : Option DV), L.length + 2 * cs.length ≤ 90000 →
    ∃ z6', forD (gSet 6) sideB (cs.map .int) (oE W z1 F (L.map headD) (some (.fr (headD h))) z5 z6) = some (.nx (oE W z1 F ((L ++ cs.flatMap fun c => [h ++ [(c, true)], h ++ [(c, false)]]).map headD) (some (.fr (headD h))) z5 z6'))
  | [], L, z6, _ => ⟨z6, by rw [List.flatMap_nil, List.append_nil]; rfl⟩
  | c :: cs, L, z6, hb => by
    rw [List.length_cons] at hb
    have e1 : sideB (oE W z1 F (L.map headD) (some (.fr (headD h))) z5 (some (.fr (.int c)))) = some (.nx (oE W z1 F ((L ++ [h ++ [(c, true)], h ++ [(c, false)]]).map headD) (some (.fr (headD h))) z5 (some (.fr (.int c))))) := by
      refine ev_ext rfl (ways_lc (i := 8) (q := fun d => headD (h ++ [(c, d)])) (env := oE W z1 F (L.map headD) (some (.fr (headD h))) z5 (some (.fr (.int c)))) rfl (fun d => ev_bin rfl (ev_tup (ev_cons (ev_tup (ev_cons rfl (ev_cons rfl ev_nil)) (by show 2 ≤ 100000; decide)) ev_nil) (by show 1 ≤ 100000; decide)) (head_long h c d (by omega))) rfl) rfl (by rw [List.length_map]; show L.length + 2 ≤ 100000; omega) ?_
      rw [List.map_append]; rfl
    obtain ⟨z6', e2⟩ := side_loop (W := W) (z1 := z1) (F := F) hl (z5 := z5) cs (L ++ [h ++ [(c, true)], h ++ [(c, false)]]) (some (.fr (.int c))) (by rw [List.length_append]; show L.length + 2 + _ ≤ _; omega)
    refine ⟨z6', ev_forN rfl e1 ?_⟩
    rw [List.flatMap_cons, ← List.append_assoc]
    exact e2
abbrev hdB := (sSeq (sExt 2 (fFrz (nLc (iSeq (fFrz (fLst (fCons (fC (.str "up")) (fCons (fC (.str "down")) fNil))))) (gSet 8) fYes (fBin addD (rdF 4) (fTup (fCons (fTup (fCons (fC (.str "place")) (fCons (rdF 8) fNil))) fNil))) [8]))) (sSeq (sSetN 5 (nLc (iSeq (rdF 4)) (gSet 7) fYes (fIxN 7 (fC (.int 0))) [7])) (sFor (iSeq (fFrz (nLc (iArg rng1 (fCons (rdF 0) fNil)) (gSet 6) (fTst (fCmpN notInD (rdF 6) 5)) (rdF 6) [6]))) (gSet 6) (sExt 3 (fFrz (nLc (iSeq (fFrz (fLst (fCons (fC (.str "up")) (fCons (fC (.str "down")) fNil))))) (gSet 8) fYes (fBin addD (rdF 4) (fTup (fCons (fTup (fCons (rdF 6) (fCons (rdF 8) fNil))) fNil))) [8]))))))
theorem hd_turn {w : Nat} (hw : w ≤ 5) {z1 z5 z6 : Option DV} {h : List KB} (hl : h.length ≤ 100) {F : List Od} {L : List (List KB)} (hF : F.length ≤ 50000) (hL : L.length ≤ 50000) :
    ∃ z5' z6', hdB (oE (.int (w : Nat)) z1 (F.map oD) (L.map headD) (some (.fr (headD h))) z5 z6) = some (.nx (oE (.int (w : Nat)) z1 ((F ++ bothO h).map oD) ((L ++ nextK w h).map headD) (some (.fr (headD h))) z5' z6')) := by
  have s1 : sExt 2 (fFrz (nLc (iSeq (fFrz (fLst (fCons (fC (.str "up")) (fCons (fC (.str "down")) fNil))))) (gSet 8) fYes (fBin addD (rdF 4) (fTup (fCons (fTup (fCons (fC (.str "place")) (fCons (rdF 8) fNil))) fNil))) [8])) (oE (.int (w : Nat)) z1 (F.map oD) (L.map headD) (some (.fr (headD h))) z5 z6) = some (.nx (oE (.int (w : Nat)) z1 ((F ++ bothO h).map oD) (L.map headD) (some (.fr (headD h))) z5 z6)) := by
    refine ev_ext rfl (ways_lc (i := 8) (q := fun d => oD (h, d)) (env := oE (.int (w : Nat)) z1 (F.map oD) (L.map headD) (some (.fr (headD h))) z5 z6) rfl (fun d => ev_bin rfl (ev_tup (ev_cons (ev_tup (ev_cons rfl (ev_cons rfl ev_nil)) (by show 2 ≤ 100000; decide)) ev_nil) (by show 1 ≤ 100000; decide)) (head_place h d (by omega))) rfl) rfl (by rw [List.length_map]; show F.length + 2 ≤ 100000; omega) ?_
    rw [List.map_append]; rfl
  let U : List Int := h.map (·.1)
  have e5 := lc_img (i := 7) (fe := fIxN 7 (fC (.int 0))) (e := fun k : KB => kd (toKy k)) (q := fun k => .int k.1) (env := oE (.int (w : Nat)) z1 ((F ++ bothO h).map oD) (L.map headD) (some (.fr (headD h))) z5 z6) rfl h fun k _ => rfl
  have s2 : sSetN 5 (nLc (iSeq (rdF 4)) (gSet 7) fYes (fIxN 7 (fC (.int 0))) [7]) (oE (.int (w : Nat)) z1 ((F ++ bothO h).map oD) (L.map headD) (some (.fr (headD h))) z5 z6) = some (.nx (oE (.int (w : Nat)) z1 ((F ++ bothO h).map oD) (L.map headD) (some (.fr (headD h))) (some (.ow (U.map .int))) z6)) := by
    refine ev_setN (ev_lc (ev_seqI (d := headD h) rfl rfl) (by show (kyL h).length ≤ 100000; unfold kyL; rw [List.length_map]; omega) rfl e5) ?_
    show _ = oE _ _ _ _ _ (some (.ow ((h.map (·.1)).map .int))) _
    rw [List.map_map]; rfl
  have e6 := lc_flt (i := 6) (ft := fTst (fCmpN notInD (rdF 6) 5)) (fe := rdF 6) (e := PyData.int) (q := PyData.int) (p := fun c => !decide (c ∈ U)) (env := oE (.int (w : Nat)) z1 ((F ++ bothO h).map oD) (L.map headD) (some (.fr (headD h))) (some (.ow (U.map .int))) none) rfl (sidesW w) (fun c _ => ev_tst (ev_cmpN (b := .list (U.map .int)) rfl rfl (d := .bool (!decide (c ∈ U))) (by show (inB (.int c) (.list (U.map .int))).map _ = _; rw [in_ints]; rfl)) rfl) fun c _ _ => rfl
  have hr : rng1 [.int (w : Nat)] = some ((sidesW w).map .int) := by
    show (if (w : Int) ≤ 1000000 ∧ -1000000 ≤ (w : Int) then some (rangeD 0 ((w : Int)).toNat) else none) = _
    rw [if_pos (by omega), Int.toNat_natCast]
    unfold rangeD sidesW
    rw [List.map_map]; rfl
  have sl : (sidesW w).length = w := by unfold sidesW; rw [List.length_map, List.length_range]
  have fl : ((sidesW w).filter fun c => !decide (c ∈ U)).length ≤ w := Nat.le_trans (List.length_filter_le ..) (by omega)
  obtain ⟨z6', e7⟩ := side_loop (W := .int (w : Nat)) (z1 := z1) (F := (F ++ bothO h).map oD) hl (z5 := some (.ow (U.map .int))) ((sidesW w).filter fun c => !decide (c ∈ U)) L none (by omega)
  refine ⟨some (.ow (U.map .int)), z6', ev_seq s1 (ev_seq s2 (ev_for (ds := ((sidesW w).filter fun c => !decide (c ∈ U)).map .int) (ev_seqI (d := .list (((sidesW w).filter fun c => !decide (c ∈ U)).map .int)) (ev_frz (ev_lc (ev_iArg (ev_cons rfl ev_nil) hr) (by rw [List.length_map, sl]; show _ ≤ 100000; omega) rfl e6)) rfl) e7))⟩
theorem hd_loop {w : Nat} (hw : w ≤ 5) {z1 : Option DV} : ∀ (hs : List (List KB)) (F : List Od) (L : List (List KB)) (z4 z5 z6 : Option DV), (∀ h ∈ hs, h.length ≤ 100) → F.length + 2 * hs.length ≤ 50000 → L.length + 10 * hs.length ≤ 50000 →
    ∃ z4' z5' z6', forD (gSet 4) hdB (hs.map headD) (oE (.int (w : Nat)) z1 (F.map oD) (L.map headD) z4 z5 z6) = some (.nx (oE (.int (w : Nat)) z1 ((F ++ hs.flatMap bothO).map oD) ((L ++ hs.flatMap (nextK w)).map headD) z4' z5' z6'))
  | [], F, L, z4, z5, z6, _, _, _ => ⟨z4, z5, z6, by rw [List.flatMap_nil, List.append_nil, List.flatMap_nil, List.append_nil]; rfl⟩
  | h :: hs, F, L, z4, z5, z6, hh, hF, hL => by
    rw [List.length_cons] at hF hL
    obtain ⟨y5, y6, e1⟩ := hd_turn hw (z1 := z1) (z5 := z5) (z6 := z6) (hh h List.mem_cons_self) (F := F) (L := L) (by omega) (by omega)
    have nl : (nextK w h).length ≤ 10 := by
      unfold nextK
      rw [List.length_flatMap]
      have : ((sidesW w).filter fun c => !decide (c ∈ h.map (·.1))).length ≤ 5 := Nat.le_trans (List.length_filter_le ..) (by unfold sidesW; rw [List.length_map, List.length_range]; exact hw)
      generalize (sidesW w).filter (fun c => !decide (c ∈ h.map (·.1))) = cs at this
      have : ∀ cs : List Int, (cs.map fun c => [h ++ [(c, true)], h ++ [(c, false)]].length).sum = 2 * cs.length := fun cs => by
        induction cs with
        | nil => rfl
        | cons c cs ih => rw [List.map_cons, List.sum_cons, ih]; show 2 + 2 * cs.length = 2 * (cs.length + 1); omega
      rw [this]
      omega
    obtain ⟨x4, x5, x6, e2⟩ := hd_loop hw (z1 := z1) hs (F ++ bothO h) (L ++ nextK w h) (some (.fr (headD h))) y5 y6 (fun g hg => hh g (List.mem_cons_of_mem _ hg)) (by rw [List.length_append]; show F.length + 2 + _ ≤ _; omega) (by rw [List.length_append]; omega)
    refine ⟨x4, x5, x6, ev_forN rfl e1 ?_⟩
    rw [List.flatMap_cons, List.flatMap_cons, ← List.append_assoc, ← List.append_assoc]
    exact e2
end DL
end L2

set_option Elab.async false
set_option maxRecDepth 100000
set_option maxHeartbeats 4000000
set_option autoImplicit false
namespace L2
namespace DL
open PySem PySem.Spec PyProof.Rows
local instance labNone_K42Q : Lab := { w := none, T := [], gd := True }
theorem ly_dS (b : Bool) : Ly 0 (.str (dS b)) := by cases b <;> exact ⟨by kernel_rfl, rfl, Nat.le_refl _⟩
theorem ev_cmpL42 {o : PyData → PyData → Option PyData} {i : Nat} {g : DEnv → Option (PyData × DEnv)} {env e1 : DEnv} {a b d x0 : PyData} (h0 : rdB i env = some x0) (h : g env = some (b, e1)) (h2 : rdB i e1 = some a) (h3 : o a b = some d) : fCmpL o i g env = some (d, e1) := by
  unfold fCmpL
  rw [h0]
  show (g env).bind _ = _
  rw [h]
  show (rdB i e1).bind _ = _
  rw [h2]
  show (o a b).map _ = _
  rw [h3]
  rfl
theorem ne_nil42 {k : Nat} {r : PyData} {rs : List PyData} (h : ∀ d ∈ r :: rs, Ly k d) (hk : k < 64) : neD (.list (r :: rs)) (.list []) = some (.bool true) := by
  have s1 := (Ly.list h).sh hk
  have s2 : shD (.list []) = true := rfl
  show ((if shD (.list (r :: rs)) && shD (.list []) then some (PyData.eqv (.list (r :: rs)) (.list [])) else none).map fun k => PyData.bool (!k)) = _
  rw [s1, s2]
  rfl
def okW (w : Nat) : Bool := decide ((levK w (w + 1)).length = 0) && ((List.range (w + 1)).all fun k => decide (1 ≤ (levK w k).length) && decide ((levK w k).length ≤ 400)) && decide ((allK w (w + 1)).length ≤ 1500)
theorem ok_w {w : Nat} (h1 : 1 ≤ w) (h4 : w ≤ 4) : okW w = true := by
  have : w = 1 ∨ w = 2 ∨ w = 3 ∨ w = 4 := by omega
  rcases this with rfl | rfl | rfl | rfl <;> decide +kernel
theorem all_up {w : Nat} : ∀ {k n : Nat}, k ≤ n → (allK w k).length ≤ (allK w n).length := fun {k n} h => by
  induction h with
  | refl => exact Nat.le_refl _
  | step _ ih => exact Nat.le_trans ih (by show _ ≤ (allK w _ ++ _).length; rw [List.length_append]; omega)
theorem ly_head (h : List KB) : Ly 2 (headD h) := Ly.tuple fun d hd => by
  obtain ⟨k, _, rfl⟩ := List.mem_map.mp hd
  exact Ly.tuple fun d hd => by
    simp only [List.mem_cons, List.not_mem_nil, or_false] at hd
    rcases hd with rfl | rfl
    · exact ly_int _
    · exact (ly_dS _).mono (by decide)
theorem o_pass {w : Nat} (hw : w ≤ 5) {z1 z3 z4 z5 z6 : Option DV} {hs : List (List KB)} {F : List Od} (hz : z1 = some (.ow (hs.map headD)) ∨ z1 = some (.fr (.list (hs.map headD)))) (hh : ∀ h ∈ hs, h.length ≤ 100) (hF : F.length + 2 * hs.length ≤ 50000) (hL : 10 * hs.length ≤ 50000) :
    ∃ z3' z4' z5' z6', oB [some (.fr (.int (w : Nat))), z1, some (.ow (F.map oD)), z3, z4, z5, z6, none, none] = some (.nx [some (.fr (.int (w : Nat))), some (.fr (.list ((hs.flatMap (nextK w)).map headD))), some (.ow ((F ++ hs.flatMap bothO).map oD)), z3', z4', z5', z6', none, none]) := by
  obtain ⟨x4, x5, x6, e⟩ := hd_loop hw (z1 := some (.fr (.list (hs.map headD)))) hs F [] z4 z5 z6 hh hF (by show 0 + _ ≤ _; omega)
  refine ⟨some (.fr (.list ((hs.flatMap (nextK w)).map headD))), x4, x5, x6, ?_⟩
  refine ev_seq (e1 := [some (.fr (.int (w : Nat))), z1, some (.ow (F.map oD)), some (.ow []), z4, z5, z6, none, none]) rfl ?_
  refine ev_seq (ev_for (ds := hs.map headD) (e1 := oE (.int (w : Nat)) (some (.fr (.list (hs.map headD)))) (F.map oD) [] z4 z5 z6) ?_ e) ?_
  · refine ev_seqI (d := .list (hs.map headD)) ?_ rfl
    rcases hz with rfl | rfl <;> rfl
  · rw [List.nil_append]
    exact ev_setE (e1 := [some (.fr (.int (w : Nat))), some (.fr (.list (hs.map headD))), some (.ow ((F ++ hs.flatMap bothO).map oD)), some (.fr (.list ((hs.flatMap (nextK w)).map headD))), x4, x5, x6, none, none]) (d := .list ((hs.flatMap (nextK w)).map headD)) rfl rfl
theorem o_test {w : Nat} {z1 z3 z4 z5 z6 : Option DV} {hs : List (List KB)} {F : List PyData} (hz : z1 = some (.ow (hs.map headD)) ∨ z1 = some (.fr (.list (hs.map headD)))) : oT [some (.fr (.int (w : Nat))), z1, some (.ow F), z3, z4, z5, z6, none, none] = some (!hs.isEmpty, [some (.fr (.int (w : Nat))), z1, some (.ow F), z3, z4, z5, z6, none, none]) := by
  have rb : rdB 1 [some (.fr (.int (w : Nat))), z1, some (.ow F), z3, z4, z5, z6, none, none] = some (.list (hs.map headD)) := by rcases hz with rfl | rfl <;> rfl
  refine ev_tst (ev_cmpL42 rb rfl rb (d := .bool (!hs.isEmpty)) ?_) rfl
  match hs with
  | [] => rfl
  | h :: hs => exact ne_nil42 (k := 2) (fun d hd => by
    obtain ⟨g, _, rfl⟩ := List.mem_map.mp (show d ∈ (h :: hs).map headD from hd)
    exact ly_head g) (by decide)
theorem o_while {w : Nat} (h1 : 1 ≤ w) (h4 : w ≤ 4) : ∀ (d k fuel : Nat) (z1 z3 z4 z5 z6 : Option DV), k + d = w + 1 → d < fuel → (z1 = some (.ow ((levK w k).map headD)) ∨ z1 = some (.fr (.list ((levK w k).map headD)))) →
    ∃ z1' z3' z4' z5' z6', whileD oT oB fuel [some (.fr (.int (w : Nat))), z1, some (.ow ((allK w k).map oD)), z3, z4, z5, z6, none, none] = some (.nx [some (.fr (.int (w : Nat))), z1', some (.ow ((allK w (w + 1)).map oD)), z3', z4', z5', z6', none, none])
  | 0, k, 0, _, _, _, _, _, _, hf, _ => absurd hf (Nat.not_lt_zero _)
  | 0, k, fuel + 1, z1, z3, z4, z5, z6, hk, _, hz => by
    obtain rfl : k = w + 1 := by omega
    have ok := ok_w h1 h4
    simp only [okW, Bool.and_eq_true, decide_eq_true_eq] at ok
    have t := o_test (w := w) (z3 := z3) (z4 := z4) (z5 := z5) (z6 := z6) (F := (allK w (w + 1)).map oD) hz
    rw [List.length_eq_zero_iff.mp ok.1.1] at t
    exact ⟨z1, z3, z4, z5, z6, ev_whileF t⟩
  | d + 1, k, 0, _, _, _, _, _, _, hf, _ => absurd hf (Nat.not_lt_zero _)
  | d + 1, k, fuel + 1, z1, z3, z4, z5, z6, hk, hf, hz => by
    have ok := ok_w h1 h4
    simp only [okW, Bool.and_eq_true, decide_eq_true_eq, List.all_eq_true] at ok
    obtain ⟨l1, l2⟩ := ok.1.2 k (List.mem_range.mpr (by omega))
    have la := Nat.le_trans (all_up (w := w) (k := k) (n := w + 1) (by omega)) ok.2
    have t := o_test (w := w) (z3 := z3) (z4 := z4) (z5 := z5) (z6 := z6) (F := (allK w k).map oD) hz
    rw [show (!(levK w k).isEmpty) = true by
      cases hq : levK w k with
      | nil => rw [hq] at l1; cases l1
      | cons _ _ => rfl] at t
    obtain ⟨y3, y4, y5, y6, e⟩ := o_pass (w := w) (by omega) (z3 := z3) (z4 := z4) (z5 := z5) (z6 := z6) (F := allK w k) hz (fun h hh => by
      have := ((mem_lev k h).mp hh).1
      omega) (by omega) (by omega)
    obtain ⟨u1, u3, u4, u5, u6, e2⟩ := o_while h1 h4 d (k + 1) fuel (some (.fr (.list ((levK w (k + 1)).map headD)))) y3 y4 y5 y6 (by omega) (by omega) (.inr rfl)
    exact ⟨u1, u3, u4, u5, u6, (ev_whileT t e).trans e2⟩
theorem orders_spec {w : Nat} (h1 : 1 ≤ w) (h4 : w ≤ 4) : m__law_orders [.int (w : Nat)] = some (.list ((allK w (w + 1)).map oD)) := by
  obtain ⟨z1, z3, z4, z5, z6, e⟩ := o_while h1 h4 (w + 1) 0 40 (some (.ow ([([] : List KB)].map headD))) none none none none (by omega) (by omega) (.inl rfl)
  refine ev_runF rfl (env := [some (.fr (.int (w : Nat))), z1, some (.fr (.list ((allK w (w + 1)).map oD))), z3, z4, z5, z6, none, none]) (ev_seq (e1 := [some (.fr (.int (w : Nat))), some (.ow ([([] : List KB)].map headD)), some (.ow []), none, none, none, none, none, none]) rfl (ev_seq e (ev_ret rfl)))
end DL
end L2

set_option Elab.async false
set_option maxRecDepth 100000
set_option maxHeartbeats 4000000
set_option autoImplicit false
namespace L2
namespace DL
open PySem PySem.Spec PyProof.Rows
local instance labNone_K42S : Lab := { w := none, T := [], gd := True }
theorem sm_mid {c : Int} (h0 : -1000 ≤ c) (h1 : c ≤ 1000) : Sm 0 20 (.int c) := by
  have key : ∀ n : Fin 2001, ((PyData.int ((n.val : Int) - 1000)).canLay0 && (PyData.int ((n.val : Int) - 1000)).showable && !(PyData.int ((n.val : Int) - 1000)).hasDict && (PyData.int ((n.val : Int) - 1000)).intsShort 13 && decide ((PyData.int ((n.val : Int) - 1000)).depth ≤ 0) && decide ((PyData.int ((n.val : Int) - 1000)).weight ≤ 20)) = true := by decide +kernel
  have := Sm.of_dec 0 20 _ (key ⟨(c + 1000).toNat, by omega⟩)
  rwa [show (((c + 1000).toNat : Nat) : Int) - 1000 = c by omega] at this
/-! ### told of a table -/
def lastO (t : Tab) (o : Od) : Nat := (srtP (kvO t o) (List.range t.length)).getLastD 0
theorem last_split {t : Tab} (h : 1 ≤ t.length) (o : Od) : ∃ L, srtP (kvO t o) (List.range t.length) = L ++ [lastO t o] := by
  have hl := srtP_len (kvO t o) (List.range t.length)
  rw [List.length_range] at hl
  unfold lastO
  rcases List.eq_nil_or_concat (srtP (kvO t o) (List.range t.length)) with z | ⟨L, y, z⟩
  · rw [z] at hl; rw [List.length_nil] at hl; omega
  · rw [z, List.concat_eq_append]
    exact ⟨L, by simp⟩
theorem last_ends {t : Tab} (h : 1 ≤ t.length) (o : Od) : lastO t o < t.length ∧ Ends t (List.range t.length) (lastO t o) o := by
  obtain ⟨L, e⟩ := last_split h o
  have hp := srtP_perm (kvO t o) (List.range t.length)
  have hs := srtP_sorted (kvO_a t o) (l := List.range t.length) List.nodup_range
  rw [e] at hp hs
  refine ⟨List.mem_range.mp (hp.mem_iff.mp (by simp)), fun i hi hix => ?_⟩
  have hi2 := hp.mem_iff.mpr hi
  rcases List.mem_append.mp hi2 with z | z
  · exact (List.pairwise_append.mp hs).2.2 i z _ (by simp)
  · exact absurd (List.mem_singleton.mp z) hix
theorem last_is {t : Tab} (h : 1 ≤ t.length) {o : Od} {x : Nat} (hx : x < t.length) (he : Ends t (List.range t.length) x o) : lastO t o = x := by
  obtain ⟨h1, h2⟩ := last_ends h o
  refine Decidable.byContradiction fun z => ?_
  have a := he (lastO t o) (List.mem_range.mpr h1) z
  have b := h2 x (List.mem_range.mpr hx) fun q => z q.symm
  exact List.lt_asymm a b
/-- the ends of all orders are the extreme places -/
theorem ends_all {w : Nat} {t : Tab} (ht : TabW w t) (h4 : w ≤ 4) (x : Nat) : x ∈ (allK w (w + 1)).map (lastO t) ↔ x ∈ exL t (min w 4) := by
  have l1 := ht.l1
  have l2 := ht.l2
  have hw : min w 4 = w := by omega
  rw [hw, List.mem_map, mem_exL]
  constructor
  · rintro ⟨o, ho, rfl⟩
    obtain ⟨_, _, h2⟩ := (mem_all (w + 1) o).mp ho
    obtain ⟨a, b⟩ := last_ends l1 o
    exact ⟨a, o, h2, b⟩
  · rintro ⟨hx, o', ho', he'⟩
    rcases ends_specP ht (K := List.range t.length) (x := x) (fun i h => List.mem_range.mp h) (by rw [List.length_range]; omega) (List.mem_range.mpr hx) List.pairwise_lt_range with ⟨o, _, o1, o2, o3⟩ | ⟨_, hno⟩
    · rw [hw] at o2
      refine ⟨o, (mem_all (w + 1) o).mpr ⟨?_, o1.nd, o2⟩, last_is l1 hx o3⟩
      have := nodup_le (o.1.map (·.1)) (sidesW w) o1.nd fun c hc => by
        obtain ⟨k, hk, rfl⟩ := List.mem_map.mp hc
        exact mem_sides.mpr (o2 k hk)
      rw [List.length_map] at this
      unfold sidesW at this
      rw [List.length_map, List.length_range] at this
      omega
    · exact absurd he' (hno o' (by rw [hw]; exact ho'))
abbrev tdB := (sApp 2 (fBin ixD (fCB m__law_stand (fCons (rdF 0) (fCons (rdF 1) (fCons (rdF 3) fNil)))) (fNeg (fC (.int 1)))))
abbrev pl (l : List Nat) : List PyData := l.map fun i : Nat => PyData.int i
theorem td_turn {w : Nat} {t : Tab} (ht : TabW w t) {o : Od} (ho : OOk o) (hw : WO w o) {l : List Nat} (hl : l.length ≤ 5000) {z1 : Option DV} (hz : z1 = some (.ow (pl (List.range t.length))) ∨ z1 = some (.fr (.list (pl (List.range t.length))))) :
    tdB [some (.fr (tabD t)), z1, some (.ow (pl l)), some (.fr (oD o)), none] = some (.nx [some (.fr (tabD t)), some (.fr (.list (pl (List.range t.length)))), some (.ow (pl (l ++ [lastO t o]))), some (.fr (oD o)), none]) := by
  have l2 := ht.l2
  have e := law_stand_spec ht ho hw (l := List.range t.length) List.nodup_range (fun i hi => List.mem_range.mp hi) (by rw [List.length_range]; exact l2)
  obtain ⟨L, hL⟩ := last_split ht.l1 o
  let E : DEnv := [some (.fr (tabD t)), some (.fr (.list (pl (List.range t.length)))), some (.ow (pl l)), some (.fr (oD o)), none]
  have r0 : rdF 0 [some (.fr (tabD t)), z1, some (.ow (pl l)), some (.fr (oD o)), none] = some (tabD t, [some (.fr (tabD t)), z1, some (.ow (pl l)), some (.fr (oD o)), none]) := rfl
  have r1 : rdF 1 [some (.fr (tabD t)), z1, some (.ow (pl l)), some (.fr (oD o)), none] = some (.list (pl (List.range t.length)), E) := by rcases hz with rfl | rfl <;> rfl
  refine ev_app (e1 := E) (d := .int (lastO t o : Nat)) (by rfl) (ev_bin (ev_cb (ev_cons r0 (ev_cons r1 (ev_cons rfl ev_nil))) e) rfl (by rw [hL]; exact at_minus L _)) rfl (by rw [List.length_map]; show l.length < 100000; omega) ?_
  show [some (DV.fr (tabD t)), some (.fr (.list (pl (List.range t.length)))), some (.ow (pl l ++ [PyData.int (lastO t o : Nat)])), some (.fr (oD o)), none] = _
  unfold pl
  rw [List.map_append (l₁ := l)]; rfl
theorem td_loop {w : Nat} {t : Tab} (ht : TabW w t) : ∀ (os : List Od) (l : List Nat) (z1 z3 : Option DV), (∀ o ∈ os, OOk o ∧ WO w o) → l.length + os.length ≤ 5000 → (z1 = some (.ow (pl (List.range t.length))) ∨ z1 = some (.fr (.list (pl (List.range t.length))))) →
    ∃ z1' z3', forD (gSet 3) tdB (os.map oD) [some (.fr (tabD t)), z1, some (.ow (pl l)), z3, none] = some (.nx [some (.fr (tabD t)), z1', some (.ow (pl (l ++ os.map (lastO t)))), z3', none])
  | [], l, z1, z3, _, _, _ => ⟨z1, z3, by
    have q : l ++ ([] : List Od).map (lastO t) = l := List.append_nil l
    rw [q]; rfl⟩
  | o :: os, l, z1, z3, ho, hl, hz => by
    rw [List.length_cons] at hl
    have e1 := td_turn ht (ho o List.mem_cons_self).1 (ho o List.mem_cons_self).2 (l := l) (by omega) hz
    obtain ⟨y1, y3, e2⟩ := td_loop ht os (l ++ [lastO t o]) (some (.fr (.list (pl (List.range t.length))))) (some (.fr (oD o))) (fun p hp => ho p (List.mem_cons_of_mem _ hp)) (by rw [List.length_append]; show l.length + 1 + _ ≤ _; omega) (.inr rfl)
    refine ⟨y1, y3, ev_forN rfl e1 ?_⟩
    have q : l ++ (o :: os).map (lastO t) = l ++ [lastO t o] ++ os.map (lastO t) := by rw [List.map_cons, List.append_assoc]; rfl
    rw [q]
    exact e2
theorem sm_ext {t : Tab} (ht : t.length ≤ 30) (m : Nat) : Sm 1 630 (placeD (exL t m)) :=
  Sm.tuple (k := 0) (w := 20) (n := 30) (fun d hd => by
    obtain ⟨i, hi, rfl⟩ := List.mem_map.mp hd
    have := (mem_exL.mp hi).1
    exact sm_mid (by omega) (by omega)) (by
    rw [List.length_map]
    refine Nat.le_trans ?_ ht
    have := nodup_le (exL t m) (List.range t.length) ((exL_asc t m).imp fun {a b} z => by omega) fun i hi => List.mem_range.mpr (mem_exL.mp hi).1
    rwa [List.length_range] at this)
theorem three (D : PyData) : ∀ d ∈ [D, D, D], d = D := fun d hd => by simpa using hd
theorem told_spec {w : Nat} {t : Tab} (ht : TabW w t) (h4 : w ≤ 4) : m__law_told_right [tabD t] = some (.bool true) := by
  have l1 := ht.l1
  have l2 := ht.l2
  have w1 := ht.w1
  have ok := ok_w w1 h4
  simp only [okW, Bool.and_eq_true, decide_eq_true_eq] at ok
  have eo := orders_spec w1 h4
  have ex := extreme_spec ht
  have smP := sm_ext (t := t) l2 (min w 4)
  have hall : ∀ o ∈ allK w (w + 1), OOk o ∧ WO w o := fun o ho => by
    obtain ⟨_, a, b⟩ := (mem_all (w + 1) o).mp ho
    exact ⟨⟨a, fun k hk => by have := b k hk; omega⟩, fun k hk => (b k hk).2⟩
  obtain ⟨z1, z3, e⟩ := td_loop ht (allK w (w + 1)) [] (some (.ow (pl (List.range t.length)))) none hall (by show 0 + _ ≤ _; omega) (.inl rfl)
  have hset : ∀ k : Int, k ∈ ((exL t (min w 4)).map fun i : Nat => (i : Int)) ↔ k ∈ ((allK w (w + 1)).map (lastO t)).map fun i : Nat => (i : Int) := fun k => by
    rw [List.mem_map, List.mem_map]
    constructor
    · rintro ⟨i, hi, rfl⟩; exact ⟨i, (ends_all ht h4 i).mpr hi, rfl⟩
    · rintro ⟨i, hi, rfl⟩; exact ⟨i, (ends_all ht h4 i).mp hi, rfl⟩
  have hasc : ((exL t (min w 4)).map fun i : Nat => (i : Int)).Pairwise (· < ·) := by
    rw [List.pairwise_map]
    exact (exL_asc t (min w 4)).imp fun {a b} z => by omega
  have xl : (exL t (min w 4)).length ≤ 60 := by
    have := nodup_le (exL t (min w 4)) (List.range t.length) ((exL_asc t (min w 4)).imp fun {a b} z => by omega) fun i hi => List.mem_range.mpr (mem_exL.mp hi).1
    rw [List.length_range] at this
    omega
  have al : ((allK w (w + 1)).map (lastO t)).length ≤ 2000 := by rw [List.length_map]; omega
  generalize exL t (min w 4) = X at *
  generalize (allK w (w + 1)).map (lastO t) = A at *
  rw [List.nil_append] at e
  obtain ⟨r0, f1, f2⟩ : ∃ r, ixD (tabD t) (.int 0) = some (rowD r) ∧ lenD [rowD r] = some (.int (w : Nat)) := by
    refine ⟨t.getD 0 [], at_row ht (i := 0) (by omega), ?_⟩
    show some (PyData.int (((t.getD 0 []).map PyData.int).length : Nat)) = _
    rw [List.length_map, ht.row (t.getD 0 []) (by rw [List.getD_eq_getElem?_getD, List.getElem?_eq_getElem (by omega)]; exact List.getElem_mem _)]
  have rR := reprD_sm (Sm.list (n := 3) (ds := [placeD X, placeD X, placeD X]) (fun d hd => by rw [three _ d hd]; exact smP) (Nat.le_refl _)) (by decide) (by decide)
  generalize (PyData.list [placeD X, placeD X, placeD X]).shown = S at rR
  have hrg : nListRg (fLenN 0) [some (.fr (tabD t)), none, none, none, none] = some (pl (List.range t.length), [some (.fr (tabD t)), none, none, none, none]) := by
    unfold nListRg
    rw [ev_lenN (n := .int (t.length : Nat)) rfl (by show some (PyData.int ((t.map rowD).length : Nat)) = _; rw [List.length_map])]
    show (if (t.length : Int) ≤ 100000 ∧ -100000 ≤ (t.length : Int) then some (rangeD 0 ((t.length : Int)).toNat, _) else none) = _
    rw [if_pos (by omega), Int.toNat_natCast]
    congr 2
    unfold rangeD pl
    exact List.map_congr_left fun i _ => by rw [Int.zero_add]
  have s1 : sParN 1 2 (nListRg (fLenN 0)) (fLst fNil) [some (.fr (tabD t)), none, none, none, none] = some (.nx [some (.fr (tabD t)), some (.ow (pl (List.range t.length))), some (.ow []), none, none]) := by
    unfold sParN
    rw [hrg]
    rfl
  have s2 : sFor (iSeq (fCB m__law_orders (fCons (fCB lenD (fCons (fIxN 0 (fC (.int 0))) fNil)) fNil))) (gSet 3) tdB [some (.fr (tabD t)), some (.ow (pl (List.range t.length))), some (.ow []), none, none] = some (.nx [some (.fr (tabD t)), z1, some (.ow (pl A)), z3, none]) :=
    ev_for (ev_seqI (ev_cb (ev_cons (ev_cb (ev_cons (ev_ixN rfl rfl rfl f1) ev_nil) f2) ev_nil) eo) rfl) e
  have s3 : sSetN 4 (fLst (fCons (fCB m_extreme_places (fCons (rdF 0) fNil)) (fCons (fCK0 gd_extreme_places_table m_extreme_places (fCons (rdF 0) fNil)) (fCons (fCB m_extreme_places (fCons (rdF 0) fNil)) fNil)))) [some (.fr (tabD t)), z1, some (.ow (pl A)), z3, none] = some (.nx [some (.fr (tabD t)), z1, some (.ow (pl A)), z3, some (.ow [placeD X, placeD X, placeD X])]) :=
    ev_setN (ev_lst (ev_cons (ev_cb (ev_cons rfl ev_nil) ex) (ev_cons (ev_ck0 (ev_cons rfl ev_nil) ex) (ev_cons (ev_cb (ev_cons rfl ev_nil) ex) ev_nil))) (by show 3 ≤ 100000; decide)) rfl
  let E4 : DEnv := [some (.fr (tabD t)), z1, some (.ow (pl A)), z3, some (.fr (.list [placeD X, placeD X, placeD X]))]
  let E5 : DEnv := [some (.fr (tabD t)), z1, some (.fr (.list (pl A))), z3, some (.fr (.list [placeD X, placeD X, placeD X]))]
  have plA : pl A = (A.map fun i : Nat => (i : Int)).map .int := by rw [List.map_map]; rfl
  have plX : ((X.map fun i : Nat => (i : Int)).map PyData.int) = pl X := by rw [List.map_map]; rfl
  have ss : nSrtSetL (rdF 2) E4 = some (pl X, E5) := by
    have := ev_srtSetL (f := rdF 2) (env := E4) (e1 := E5) (ns := A.map fun i : Nat => (i : Int)) (l := X.map fun i : Nat => (i : Int)) (by rw [← plA]; rfl) (by rw [List.length_map]; exact al) (by rw [List.length_map]; exact xl) hasc hset
    rw [this, plX]
  refine ev_runF rfl (env := E5) (ev_seq s1 (ev_seq s2 (ev_seq s3 (ev_ret (ev_bin (a := .str S) (b := .str S) (e1 := E4) (e2 := E5) (ev_cb (ev_cons rfl ev_nil) rR) (ev_cb (ev_cons (ev_frz (ev_repL (xs := [placeD X]) (k := 3) (e1 := E5) (ev_lst (ev_cons (ev_cb (ev_cons (ev_frz ss) ev_nil) (d := placeD X) rfl) ev_nil) (by show 1 ≤ 100000; decide)) rfl (by show (0 : Int) ≤ 3 ∧ (3 : Int) ≤ 1000 ∧ 1 ≤ 100; decide))) ev_nil) rR) ?_)))))
  show some (PyData.bool (decide (S = S))) = _
  rw [decide_eq_true rfl]
end DL
end L2

set_option Elab.async false
set_option maxRecDepth 100000
set_option maxHeartbeats 4000000
set_option autoImplicit false
namespace L2
namespace DL
open PySem PySem.Spec PyProof.Rows
local instance labNone_K42T : Lab := { w := none, T := [], gd := True }
/-- its ints are not great -/
def RowC (r : PyData) : Prop := ∃ is : List Int, r = .tuple (is.map .int) ∧ ∀ i ∈ is, -1000 ≤ i ∧ i ≤ 1000
def RowJ (w : Nat) (r : PyData) : Prop := RowI w r ∧ RowC r
/-! ### tables drawn -/
abbrev tabEl := fBin subD (fCR 0 m__law_draw (fCons (rdF 5) fNil)) (fBin fdivD (rdF 5) (fC (.int 2)))
theorem tab_lc {sp : Int} (h0 : 0 < sp) (h1 : sp ≤ 1000) (b c d e f g : Option DV) : ∀ (xs es : List PyData), PoolOk es → ∃ (es' : List PyData) (is : List Int), lcD (gSet 8) fYes tabEl [8] xs [some (.rf es), b, c, d, e, some (.fr (.int sp)), f, g, none] = some (is.map PyData.int, [some (.rf es'), b, c, d, e, some (.fr (.int sp)), f, g, none]) ∧ PoolOk es' ∧ is.length = xs.length ∧ ∀ i ∈ is, -1000 ≤ i ∧ i ≤ 1000
  | [], es, hp => ⟨es, [], rfl, hp, rfl, fun _ h => nomatch h⟩
  | x :: xs, es, hp => by
    obtain ⟨r1, es1, e1, p1, a1, b1⟩ := draw_spec hp h0 (by omega)
    obtain ⟨es2, is, e2, p2, l2, b2⟩ := tab_lc h0 h1 b c d e f g xs es1 p1
    refine ⟨es2, (r1 - sp / 2) :: is, ?_, p2, by simp [l2], fun i hi => ?_⟩
    case refine_2 =>
      rcases List.mem_cons.mp hi with rfl | hi
      · omega
      · exact b2 i hi
    have h1' : sp < 1073741824 := by omega
    rw [lcD]
    simp [gSet, fYes, tabEl, fBin, fCR, rdO, wrO, rdF, fCons, fNil, fC, e1, subD, fdivD, intD, wipeE]
    exact e2
theorem ne_nil {k : Nat} {r : PyData} {rs : List PyData} (h : ∀ d ∈ r :: rs, Ly k d) (hk : k < 64) : neD (.list (r :: rs)) (.list []) = some (.bool true) := by
  have s1 := (Ly.list h).sh hk
  have s2 : shD (.list []) = true := rfl
  show ((if shD (.list (r :: rs)) && shD (.list []) then some (PyData.eqv (.list (r :: rs)) (.list [])) else none).map fun k => PyData.bool (!k)) = _
  rw [s1, s2]
  rfl
abbrev tabBody := sIf (fAnd (fTst (fCmpL neD 6 (fFrz (fLst fNil)))) (fTst (fBin eqD (fCR 0 m__law_draw (fCons (fC (.int 6)) fNil)) (fC (.int 0))))) (sApp 6 (fIxN 6 (fCR 0 m__law_draw (fCons (fLenN 6) fNil)))) (sApp 6 (fCB tupleD (fCons (fFrz (nLc (iArg rng1 (fCons (rdF 3) fNil)) (gSet 8) fYes tabEl [8])) fNil)))
theorem tab_new {w : Nat} (hw : w ≤ 5) {sp : Int} (h0 : 0 < sp) (h1 : sp ≤ 1000) {b c e g : Option DV} {es found : List PyData} (hp : PoolOk es) (hl : found.length < 1000) :
    ∃ es' r, sApp 6 (fCB tupleD (fCons (fFrz (nLc (iArg rng1 (fCons (rdF 3) fNil)) (gSet 8) fYes tabEl [8])) fNil)) [some (.rf es), b, c, some (.fr (.int w)), e, some (.fr (.int sp)), some (.ow found), g, none] = some (.nx [some (.rf es'), b, c, some (.fr (.int w)), e, some (.fr (.int sp)), some (.ow (found ++ [r])), g, none]) ∧ PoolOk es' ∧ RowJ w r := by
  obtain ⟨es1, is, e1, p1, l1, b1⟩ := tab_lc h0 h1 b c (some (.fr (.int w))) e (some (.ow found)) g (rangeD 0 w) es hp
  rw [rangeD_len] at l1
  refine ⟨es1, .tuple (is.map .int), ?_, p1, ⟨is, rfl, l1⟩, is, rfl, b1⟩
  have hw2 : (w : Int) ≤ 1000000 ∧ -1000000 ≤ (w : Int) := by omega
  have hl2 : found.length < 100000 := by omega
  have hr : (rangeD 0 w).length ≤ 100000 := by rw [rangeD_len]; omega
  simp [sApp, rdO, fCB, fCons, fFrz, nLc, iArg, rdF, fNil, rng1, hw2, lim, hr, wipeE]
  rw [e1]
  simp [tupleD, wrO, hl2]
theorem tab_turn {w : Nat} (hw : w ≤ 5) {sp : Int} (h0 : 0 < sp) (h1 : sp ≤ 1000) {b c e g : Option DV} {es found : List PyData} (hp : PoolOk es) (hf : ∀ r ∈ found, RowJ w r) (hl : found.length < 1000) :
    ∃ es' r, tabBody [some (.rf es), b, c, some (.fr (.int w)), e, some (.fr (.int sp)), some (.ow found), g, none] = some (.nx [some (.rf es'), b, c, some (.fr (.int w)), e, some (.fr (.int sp)), some (.ow (found ++ [r])), g, none]) ∧ PoolOk es' ∧ RowJ w r := by
  cases found with
  | nil =>
    obtain ⟨es1, r, e1, p1, hr⟩ := tab_new (found := []) hw h0 h1 (b := b) (c := c) (e := e) (g := g) hp hl
    exact ⟨es1, r, ev_ifF (ev_and0 rfl) e1, p1, hr⟩
  | cons r0 rs =>
    have hn := ne_nil (k := 1) (fun d hd => (hf d hd).1.ly) (by decide)
    obtain ⟨r1, es1, e1, p1, a1, b1⟩ := draw_spec hp (m := 6) (by decide) (by decide)
    have t1 : fTst (fCmpL neD 6 (fFrz (fLst fNil))) [some (.rf es), b, c, some (.fr (.int w)), e, some (.fr (.int sp)), some (.ow (r0 :: rs)), g, none] = some (true, [some (.rf es), b, c, some (.fr (.int w)), e, some (.fr (.int sp)), some (.ow (r0 :: rs)), g, none]) := by
      simp [fTst, fCmpL, rdB, fFrz, fLst, fNil, hn, truthD]
    have t2 : fTst (fBin eqD (fCR 0 m__law_draw (fCons (fC (.int 6)) fNil)) (fC (.int 0))) [some (.rf es), b, c, some (.fr (.int w)), e, some (.fr (.int sp)), some (.ow (r0 :: rs)), g, none] = some (decide (r1 = 0), [some (.rf es1), b, c, some (.fr (.int w)), e, some (.fr (.int sp)), some (.ow (r0 :: rs)), g, none]) := by
      simp [fTst, fBin, fCR, rdO, wrO, fCons, fNil, fC, e1, eqD, eqB, truthD]
    by_cases hz : r1 = 0
    · rw [decide_eq_true hz] at t2
      obtain ⟨r2, es2, e2, p2, a2, b2⟩ := draw_spec p1 (m := ((r0 :: rs).length : Int)) (by rw [List.length_cons]; omega) (by omega)
      have hj : r2.toNat < (r0 :: rs).length := by omega
      refine ⟨es2, (r0 :: rs)[r2.toNat], ev_ifT (ev_and1 t1 t2) ?_, p2, hf _ (List.getElem_mem hj)⟩
      have e2' := e2
      rw [List.length_cons] at e2'
      have b2' : r2 < (rs.length : Int) + 1 := by rw [List.length_cons] at b2; omega
      have hl' : rs.length + 1 < 100000 := by rw [List.length_cons] at hl; omega
      have hj' : r2.toNat < rs.length + 1 := hj
      simp [sApp, rdO, wrO, fIxN, rdB, fCR, fCons, fLenN, lenD, fNil] at e2' ⊢
      simp [e2', ixD, atI, ixN, a2, b2', hj', hl', lim]
    · rw [decide_eq_false hz] at t2
      obtain ⟨es2, r, e2, p2, hr⟩ := tab_new (found := r0 :: rs) hw h0 h1 (b := b) (c := c) (e := e) (g := g) p1 hl
      exact ⟨es2, r, ev_ifF (ev_and1 t1 t2) e2, p2, hr⟩
theorem tab_for {w : Nat} (hw : w ≤ 5) {sp : Int} (h0 : 0 < sp) (h1 : sp ≤ 1000) {b c e : Option DV} : ∀ (xs : List PyData) (es found : List PyData) (g : Option DV), PoolOk es → (∀ r ∈ found, RowJ w r) → found.length + xs.length < 1000 →
    ∃ es' found' g', forD (gSet 7) tabBody xs [some (.rf es), b, c, some (.fr (.int w)), e, some (.fr (.int sp)), some (.ow found), g, none] = some (.nx [some (.rf es'), b, c, some (.fr (.int w)), e, some (.fr (.int sp)), some (.ow found'), g', none]) ∧ PoolOk es' ∧ (∀ r ∈ found', RowJ w r) ∧ found'.length = found.length + xs.length
  | [], es, found, g, hp, hf, _ => ⟨es, found, g, rfl, hp, hf, rfl⟩
  | x :: xs, es, found, g, hp, hf, hl => by
    rw [List.length_cons] at hl
    obtain ⟨es1, r, e1, p1, hr⟩ := tab_turn hw h0 h1 (b := b) (c := c) (e := e) (g := some (.fr x)) hp hf (by omega)
    obtain ⟨es2, f2, g2, e2, p2, hf2, l2⟩ := tab_for hw h0 h1 (b := b) (c := c) (e := e) xs es1 (found ++ [r]) (some (.fr x)) p1 (fun y hy => by
      rcases List.mem_append.mp hy with z | z
      · exact hf y z
      · rw [List.mem_singleton] at z; rw [z]; exact hr) (by rw [List.length_append]; show found.length + 1 + xs.length < 1000; omega)
    refine ⟨es2, f2, g2, ev_forN rfl e1 e2, p2, hf2, ?_⟩
    rw [l2]
    simp only [List.length_append, List.length_cons, List.length_nil]
    omega
theorem spread4 {r : Int} (h0 : 0 ≤ r) (h1 : r < 4) : ∃ sp : Int, ixD (.list [.int 2, .int 3, .int 9, .int 1000]) (.int r) = some (.int sp) ∧ 0 < sp ∧ sp ≤ 1000 := by
  have : r = 0 ∨ r = 1 ∨ r = 2 ∨ r = 3 := by omega
  rcases this with rfl | rfl | rfl | rfl
  · exact ⟨2, rfl, by decide, by decide⟩
  · exact ⟨3, rfl, by decide, by decide⟩
  · exact ⟨9, rfl, by decide, by decide⟩
  · exact ⟨1000, rfl, by decide, by decide⟩
theorem table_spec {most : Int} (hm0 : 0 < most) (hm1 : most ≤ 30) {es : List PyData} (hp : PoolOk es) : ∃ rs es', m__law_table es [.int most, .int 5] = some (.tuple rs, es') ∧ PoolOk es' ∧ TabI rs ∧ ∀ r ∈ rs, RowC r := by
  obtain ⟨r1, es1, e1, p1, a1, b1⟩ := draw_spec hp (m := 5) (by decide) (by decide)
  obtain ⟨r2, es2, e2, p2, a2, b2⟩ := draw_spec p1 (m := most) hm0 (by omega)
  obtain ⟨r3, es3, e3, p3, a3, b3⟩ := draw_spec p2 (m := 4) (by decide) (by decide)
  obtain ⟨sp, e4, s0, s1⟩ := spread4 a3 b3
  obtain ⟨w, hw⟩ : ∃ w : Nat, 1 + r1 = (w : Int) := ⟨(1 + r1).toNat, by omega⟩
  obtain ⟨es5, rs, g, e5, p5, hr, l5⟩ := tab_for (w := w) (by omega) s0 s1 (b := some (.fr (.int most))) (c := some (.fr (.int 5))) (e := some (.fr (.int (1 + r2)))) (rangeD 0 (1 + r2).toNat) es3 [] none p3 (fun r h => nomatch h) (by rw [rangeD_len]; show 0 + _ < 1000; omega)
  rw [rangeD_len, List.length_nil] at l5
  refine ⟨rs, es5, ?_, p5, ⟨by omega, by omega, w, by omega, by omega, fun r h => (hr r h).1⟩, fun r h => (hr r h).2⟩
  have hd : 1 + r2 ≤ 1000000 ∧ -1000000 ≤ 1 + r2 := by omega
  simp [m__law_table, runR, mb__law_table, sSeq, sPar, fCons, fBin, fC, fCR, rdO, wrO, rdF, fNil, startE, e1, e2, addD, sSet, fFrz, fLst, lim, e3, e4, sSetN, sFor, iArg, rng1, hd, hw]
  rw [e5]
  simp [sRet, fCB, fCons, rdF, fNil, tupleD, rf0]
/-! ### tables drawn -/
theorem table3_spec {most : Int} (hm0 : 0 < most) (hm1 : most ≤ 30) {es : List PyData} (hp : PoolOk es) : ∃ (w : Nat) (t : Tab) (es' : List PyData), m__law_table es [.int most, .int 3] = some (tabD t, es') ∧ PoolOk es' ∧ TabW w t ∧ w ≤ 3 := by
  obtain ⟨r1, es1, e1, p1, a1, b1⟩ := draw_spec hp (m := 3) (by decide) (by decide)
  obtain ⟨r2, es2, e2, p2, a2, b2⟩ := draw_spec p1 (m := most) hm0 (by omega)
  obtain ⟨r3, es3, e3, p3, a3, b3⟩ := draw_spec p2 (m := 4) (by decide) (by decide)
  obtain ⟨sp, e4, s0, s1⟩ := spread4 a3 b3
  obtain ⟨w, hw⟩ : ∃ w : Nat, 1 + r1 = (w : Int) := ⟨(1 + r1).toNat, by omega⟩
  obtain ⟨es5, rs, g, e5, p5, hr, l5⟩ := tab_for (w := w) (by omega) s0 s1 (b := some (.fr (.int most))) (c := some (.fr (.int 3))) (e := some (.fr (.int (1 + r2)))) (rangeD 0 (1 + r2).toNat) es3 [] none p3 (fun r h => nomatch h) (by rw [rangeD_len]; show 0 + _ < 1000; omega)
  rw [rangeD_len, List.length_nil] at l5
  obtain ⟨t, rfl, ht⟩ := rows_of fun r h => (hr r h).1
  rw [List.length_map] at l5
  refine ⟨w, t, es5, ?_, p5, ⟨by omega, by omega, by omega, by omega, ht⟩, by omega⟩
  have hd : 1 + r2 ≤ 1000000 ∧ -1000000 ≤ 1 + r2 := by omega
  simp [m__law_table, runR, mb__law_table, sSeq, sPar, fCons, fBin, fC, fCR, rdO, wrO, rdF, fNil, startE, e1, e2, addD, sSet, fFrz, fLst, lim, e3, e4, sSetN, sFor, iArg, rng1, hd, hw]
  rw [e5]
  simp [sRet, fCB, fCons, rdF, fNil, tupleD, rf0]
  rfl
abbrev inE := fCR 0 m__law_draw (fCons (fC (.int 3)) fNil)
theorem in_lc {z1 : Option DV} : ∀ (xs es : List PyData), PoolOk es → ∃ (es' : List PyData) (is : List Int), lcD (gSet 2) fYes inE [2] xs [some (.rf es), z1, none] = some (is.map .int, [some (.rf es'), z1, none]) ∧ PoolOk es' ∧ is.length = xs.length
  | [], es, hp => ⟨es, [], rfl, hp, rfl⟩
  | x :: xs, es, hp => by
    obtain ⟨r, es1, e1, p1, _, _⟩ := draw_spec hp (m := 3) (by decide) (by decide)
    obtain ⟨es2, is, e2, p2, l2⟩ := in_lc (z1 := z1) xs es1 p1
    refine ⟨es2, r :: is, ?_, p2, by rw [List.length_cons, l2, List.length_cons]⟩
    have e3 : inE [some (.rf es), z1, some (.fr x)] = some (.int r, [some (.rf es1), z1, some (.fr x)]) := ev_crE rfl (ev_cons rfl ev_nil) rfl e1 rfl
    rw [lcD]
    show (inE [some (.rf es), z1, some (.fr x)]).bind _ = _
    rw [e3]
    show (lcD (gSet 2) fYes inE [2] xs [some (.rf es1), z1, none]).map _ = _
    rw [e2]
    rfl
abbrev rowE := fCB tupleD (fCons (fFrz (nLc (iArg rng1 (fCons (fC (.int 4)) fNil)) (gSet 2) fYes inE [2])) fNil)
theorem out_lc : ∀ (xs es : List PyData), PoolOk es → ∃ (es' : List PyData) (t : Tab), lcD (gSet 1) fYes rowE [1] xs [some (.rf es), none, none] = some (t.map rowD, [some (.rf es'), none, none]) ∧ PoolOk es' ∧ t.length = xs.length ∧ ∀ r ∈ t, r.length = 4
  | [], es, hp => ⟨es, [], rfl, hp, rfl, fun _ h => nomatch h⟩
  | x :: xs, es, hp => by
    obtain ⟨es1, is, e1, p1, l1⟩ := in_lc (z1 := some (.fr x)) (rangeD 0 4) es hp
    obtain ⟨es2, t, e2, p2, l2, h2⟩ := out_lc xs es1 p1
    refine ⟨es2, is :: t, ?_, p2, by rw [List.length_cons, l2, List.length_cons], fun r hr => ?_⟩
    · have e3 : rowE [some (.rf es), some (.fr x), none] = some (rowD is, [some (.rf es1), some (.fr x), none]) := ev_cb (ev_cons (ev_frz (ev_lc (ds := rangeD 0 4) (ev_iArg (ev_cons rfl ev_nil) rfl) (by rw [rangeD_len]; show 4 ≤ 100000; decide) rfl e1)) ev_nil) rfl
      rw [lcD]
      show (rowE [some (.rf es), some (.fr x), none]).bind _ = _
      rw [e3]
      show (lcD (gSet 1) fYes rowE [1] xs [some (.rf es1), none, none]).map _ = _
      rw [e2]
      rfl
    · rcases List.mem_cons.mp hr with rfl | hr
      · rw [l1, rangeD_len]
      · exact h2 r hr
theorem draws_lc {i : Nat} {fe : DEnv → Option (PyData × DEnv)} {B : List PyData → DEnv} (hw : ∀ es d, wipeE ((B es).set i d) [i] = B es) (hf : ∀ es d, PoolOk es → ∃ es', fe ((B es).set i (some (.fr d))) = some (.bool true, (B es').set i (some (.fr d))) ∧ PoolOk es') : ∀ (xs es : List PyData), PoolOk es → ∃ es', lcD (gSet i) fYes fe [i] xs (B es) = some (xs.map fun _ => PyData.bool true, B es') ∧ PoolOk es'
  | [], es, hp => ⟨es, rfl, hp⟩
  | x :: xs, es, hp => by
    obtain ⟨es1, e1, p1⟩ := hf es x hp
    obtain ⟨es2, e2, p2⟩ := draws_lc hw hf xs es1 p1
    refine ⟨es2, ?_, p2⟩
    rw [lcD]
    show (fe ((B es).set i (some (.fr x)))).bind _ = _
    rw [e1]
    show (lcD (gSet i) fYes fe [i] xs (wipeE ((B es1).set i (some (.fr x))) [i])).map _ = _
    rw [hw, e2]
    rfl
theorem right_spec {es : List PyData} (hp : PoolOk es) : ∃ es', m__law_right es [] = some (.bool true, es') := by
  obtain ⟨es1, e1, p1⟩ := draws_lc (i := 1) (fe := fCB m__law_told_right (fCons (fCR 0 m__law_table (fCons (fC (.int 8)) (fCons (fC (.int 3)) fNil))) fNil)) (B := fun es => [some (.rf es), none, none]) (fun _ _ => rfl) (fun es d hp => by
    obtain ⟨w, t, es', e, p, ht, hw⟩ := table3_spec (most := 8) (by decide) (by decide) hp
    exact ⟨es', ev_cb (ev_cons (ev_crE rfl (ev_cons rfl (ev_cons rfl ev_nil)) rfl e rfl) ev_nil) (told_spec ht (by omega)), p⟩) (rangeD 0 4) es hp
  have s1 : fTst (fCB allD (fCons (fFrz (nLc (iArg rng1 (fCons (fC (.int 4)) fNil)) (gSet 1) fYes (fCB m__law_told_right (fCons (fCR 0 m__law_table (fCons (fC (.int 8)) (fCons (fC (.int 3)) fNil))) fNil)) [1])) fNil)) [some (.rf es), none, none] = some (true, [some (.rf es1), none, none]) := by
    refine ev_tst (d := .bool true) (ev_cb (ev_cons (ev_frz (ev_lc (ds := rangeD 0 4) (e1 := [some (.rf es), none, none]) (ev_iArg (ev_cons rfl ev_nil) rfl) (by rw [rangeD_len]; show 4 ≤ 100000; decide) rfl e1)) ev_nil) ?_) rfl
    rw [all_map (fun _ : PyData => true)]
    rw [List.all_eq_true.mpr fun _ _ => rfl]
  obtain ⟨es2, t, e2, p2, l2, h2⟩ := out_lc (rangeD 0 6) es1 p1
  rw [rangeD_len] at l2
  have ht : TabW 4 t := ⟨by omega, by omega, by decide, by decide, h2⟩
  refine ⟨es2, ev_runR rfl (env := [none, none]) (ev_seq (ev_ifF (ev_not s1) rfl) (ev_ret (ev_cb (ev_cons (ev_cb (ev_cons (ev_frz (ev_lc (ds := rangeD 0 6) (ev_iArg (ev_cons rfl ev_nil) rfl) (by rw [rangeD_len]; show 6 ≤ 100000; decide) rfl e2)) ev_nil) (d := tabD t) rfl) ev_nil) (told_spec ht (by decide)))))⟩
/-! ### the tables named -/
def tOne : Tab := [[1], [2], [3]]
def tTwo : Tab := [[1], [1], [0]]
def tRow : Tab := [[0, 9, 9, 9], [5, 0, 9, 9], [5, 5, 0, 9], [5, 5, 5, 0], [5, 5, 5, 5], [5, 5, 5, 0], [5, 5, 0, 0], [5, 0, 0, 0], [0, 0, 0, 0]]
def tGrd : Tab := [[10 ^ 40 - 1], [10 ^ 40 - 2], [10 ^ 40 - 3], [10 ^ 40 - 2]]
def tGr2 : Tab := tGrd ++ [[1 - 10 ^ 40], [2 - 10 ^ 40]]
theorem ex_one : m_extreme_places [tabD tOne] = some (placeD [0, 2]) := by kernel_rfl
theorem ex_two : m_extreme_places [tabD tTwo] = some (placeD [0, 1, 2]) := by kernel_rfl
theorem ex_thr : m_extreme_places [tabD [[1], [1], [1], [2]]] = some (placeD [0, 2, 3]) := by kernel_rfl
theorem ex_for : m_extreme_places [tabD [[7]]] = some (placeD [0]) := by kernel_rfl
theorem ex_row : (m_extreme_places [tabD tRow]).bind (fun d => notInD (.int 4) d) = some (.bool false) := by kernel_rfl
theorem ex_cut : (m_extreme_places [tabD (tRow.map (List.take 3))]).bind (fun d => inD (.int 4) d) = some (.bool false) := by kernel_rfl
theorem ex_grd : m_extreme_places [tabD tGrd] = some (placeD [0, 2, 3]) := by kernel_rfl
end DL
end L2

set_option Elab.async false
set_option maxRecDepth 100000
set_option maxHeartbeats 4000000
set_option autoImplicit false
namespace L2
namespace DL
open PySem PySem.Spec PyProof.Rows
local instance labNone_K42L : Lab := { w := none, T := [], gd := True }
theorem p40 : powD (.int 10) (.int 40) = some (.int (10 ^ 40)) := by kernel_rfl
theorem two_ok : TabW 1 tTwo := ⟨by decide, by decide, by decide, by decide, by decide⟩
theorem row_ok : TabW 4 tRow := ⟨by decide, by decide, by decide, by decide, by decide⟩
theorem gr2_ok : TabW 1 tGr2 := ⟨by show 1 ≤ 6; decide, by show 6 ≤ 30; decide, by decide, by decide, fun r hr => by
  simp only [tGr2, tGrd, List.cons_append, List.nil_append, List.mem_cons, List.not_mem_nil, or_false] at hr
  rcases hr with rfl | rfl | rfl | rfl | rfl | rfl <;> rfl⟩
theorem law_spec (ns : List Int) : m_law [.list (ns.map .int)] = some (.bool true) := by
  let A := tabD tOne
  let B := tabD tTwo
  let N : List PyData := [placeD [0, 2], placeD [0, 1, 2], placeD [0, 2], placeD [0, 2, 3], placeD [0]]
  obtain ⟨m, em, m1, m2⟩ := mm_b (a := 5) (by decide) (env := [some (.fr (.list (ns.map .int))), some (.fr (tabD tOne)), some (.fr (tabD tTwo)), some (.ow N), some (.fr (tabD tRow)), some (.fr (tabD tGrd)), none, none, none, none]) (n := (ns.map PyData.int).length) rfl
  have fin := law_fin (mr := m__law_right) (mp := m__law_pool) (mc := m__law_cell) (PO := PoolOk) (ns := ns) (fun k h0 h1 => cell_spec ns h0 h1) pool_spec (fun es hp => right_spec hp) (v := 8) (env := [some (.fr (.list (ns.map .int))), some (.fr (tabD tOne)), some (.fr (tabD tTwo)), some (.ow N), some (.fr (tabD tRow)), some (.fr (tabD tGrd)), none, none, none, none]) ⟨m, em, m1, by omega⟩ rfl (fun _ => rfl) (fun _ => rfl)
  obtain ⟨dr, r1, r2⟩ := bnd ex_row
  obtain ⟨dc, k1, k2⟩ := bnd ex_cut
  generalize PyData.list (ns.map .int) = S at fin ⊢
  let E : Option DV → Option DV → Option DV → DEnv := fun a b c => [some (.fr S), some (.fr (tabD tOne)), some (.fr (tabD tTwo)), a, b, c, none, none, none, none]
  refine ev_runF rfl (env := E (some (.ow N)) (some (.fr (tabD tRow))) (some (.fr (tabD tGrd)))) ?_
  refine ev_seq (e1 := E none none none) rfl ?_
  have q2 := lc_img (i := 6) (fe := fCB m_extreme_places (fCons (rdF 6) fNil)) (e := fun x : PyData × PyData => x.1) (q := fun x => x.2) (env := E none none none) rfl [(tabD tOne, placeD [0, 2]), (tabD tTwo, placeD [0, 1, 2]), (tabD tOne, placeD [0, 2]), (tabD [[1], [1], [1], [2]], placeD [0, 2, 3]), (tabD [[7]], placeD [0])] fun x hx => by
    simp only [List.mem_cons, List.not_mem_nil, or_false] at hx
    rcases hx with rfl | rfl | rfl | rfl | rfl
    · exact ev_cb (ev_cons rfl ev_nil) ex_one
    · exact ev_cb (ev_cons rfl ev_nil) ex_two
    · exact ev_cb (ev_cons rfl ev_nil) ex_one
    · exact ev_cb (ev_cons rfl ev_nil) ex_thr
    · exact ev_cb (ev_cons rfl ev_nil) ex_for
  refine ev_seq (e1 := E (some (.ow N)) none none) (ev_setN (ds := N) (ev_lc (ds := [tabD tOne, tabD tTwo, tabD tOne, tabD [[1], [1], [1], [2]], tabD [[7]]]) (e1 := E none none none) (e2 := E none none none) (e3 := E none none none) (ev_seqI (d := .list [tabD tOne, tabD tTwo, tabD tOne, tabD [[1], [1], [1], [2]], tabD [[7]]]) rfl rfl) (by show 5 ≤ 100000; decide) rfl q2) rfl) ?_
  have c3 : fTst (fCmpL neD 3 (fFrz (fLst (fCons (fTup (fCons (fC (.int 0)) (fCons (fC (.int 2)) fNil))) (fCons (fTup (fCons (fC (.int 0)) (fCons (fC (.int 1)) (fCons (fC (.int 2)) fNil)))) (fCons (fTup (fCons (fC (.int 0)) (fCons (fC (.int 2)) fNil))) (fCons (fTup (fCons (fC (.int 0)) (fCons (fC (.int 2)) (fCons (fC (.int 3)) fNil)))) (fCons (fTup (fCons (fC (.int 0)) fNil)) fNil)))))))) (E (some (.ow N)) none none) = some (false, E (some (.ow N)) none none) := ev_tst (d := .bool false) (ev_cmpL42 (a := .list N) (b := .list N) rfl rfl rfl (by kernel_rfl)) rfl
  refine ev_seq (e1 := E (some (.ow N)) none none) (ev_ifF (ev_or0 c3 (ev_not (k := true) (ev_tst (ev_cb (ev_cons rfl ev_nil) (told_spec two_ok (by decide))) rfl))) rfl) ?_
  refine ev_seq (e1 := E (some (.ow N)) (some (.fr (tabD (tRow.take 5)))) none) rfl ?_
  refine ev_seq (e1 := E (some (.ow N)) (some (.fr (tabD tRow))) none) rfl ?_
  refine ev_seq (e1 := E (some (.ow N)) (some (.fr (tabD tRow))) none) (ev_ifF (ev_or0 (ev_not (k := true) (ev_tst (ev_cb (e1 := E (some (.ow N)) (some (.fr (tabD tRow))) none) (ev_cons rfl ev_nil) (told_spec row_ok (by decide))) rfl)) (ev_tst (d := .bool false) (ev_bin rfl (ev_cb (ev_cons rfl ev_nil) r1) r2) rfl)) rfl) ?_
  have q7 := lc_img (i := 9) (fe := fSl (rdF 9) oNone (oSome (fC (.int 3)))) (e := rowD) (q := fun r => rowD (r.take 3)) (env := E (some (.ow N)) (some (.fr (tabD tRow))) none) rfl tRow fun r _ => ev_sl rfl rfl (ev_oS (i := 3) rfl) (by
    show some (PyData.tuple (cutD (r.map PyData.int) none (some 3))) = _
    rw [cut_take (by decide), ← List.map_take]; rfl)
  have t7 : fCB tupleD (fCons (fFrz (nLc (iSeq (rdF 4)) (gSet 9) fYes (fSl (rdF 9) oNone (oSome (fC (.int 3)))) [9])) fNil) (E (some (.ow N)) (some (.fr (tabD tRow))) none) = some (tabD (tRow.map (List.take 3)), E (some (.ow N)) (some (.fr (tabD tRow))) none) := ev_cb (ev_cons (ev_frz (ev_lc (ds := tRow.map rowD) (e1 := E (some (.ow N)) (some (.fr (tabD tRow))) none) (ev_seqI (d := tabD tRow) rfl rfl) (by show 9 ≤ 100000; decide) rfl q7)) ev_nil) rfl
  refine ev_seq (e1 := E (some (.ow N)) (some (.fr (tabD tRow))) none) (ev_ifF (ev_tst (d := .bool false) (ev_bin rfl (ev_cb (ev_cons t7 ev_nil) k1) k2) rfl) rfl) ?_
  have q8 := lc_img (i := 7) (fe := fTup (fCons (fBin subD (fBin powD (fC (.int 10)) (fC (.int 40))) (rdF 7)) fNil)) (e := fun k : Int => PyData.int k) (q := fun k => rowD [10 ^ 40 - k]) (env := E (some (.ow N)) (some (.fr (tabD tRow))) none) rfl [1, 2, 3, 2] fun k _ => ev_tup (ev_cons (ev_bin (ev_bin rfl rfl p40) rfl rfl) ev_nil) (by show 1 ≤ 100000; decide)
  have t8 : fCB tupleD (fCons (fFrz (nLc (iSeq (fFrz (fLst (fCons (fC (.int 1)) (fCons (fC (.int 2)) (fCons (fC (.int 3)) (fCons (fC (.int 2)) fNil))))))) (gSet 7) fYes (fTup (fCons (fBin subD (fBin powD (fC (.int 10)) (fC (.int 40))) (rdF 7)) fNil)) [7])) fNil) (E (some (.ow N)) (some (.fr (tabD tRow))) none) = some (tabD tGrd, E (some (.ow N)) (some (.fr (tabD tRow))) none) := ev_cb (ev_cons (ev_frz (ev_lc (ds := ([1, 2, 3, 2] : List Int).map PyData.int) (e1 := E (some (.ow N)) (some (.fr (tabD tRow))) none) (ev_seqI (d := .list [.int 1, .int 2, .int 3, .int 2]) rfl rfl) (by show 4 ≤ 100000; decide) rfl q8)) ev_nil) rfl
  refine ev_seq (e1 := E (some (.ow N)) (some (.fr (tabD tRow))) (some (.fr (tabD tGrd)))) (ev_setE t8 rfl) ?_
  have a9 : fBin addD (rdF 5) (fTup (fCons (fTup (fCons (fBin subD (fC (.int 1)) (fBin powD (fC (.int 10)) (fC (.int 40)))) fNil)) (fCons (fTup (fCons (fBin subD (fC (.int 2)) (fBin powD (fC (.int 10)) (fC (.int 40)))) fNil)) fNil))) (E (some (.ow N)) (some (.fr (tabD tRow))) (some (.fr (tabD tGrd)))) = some (tabD tGr2, E (some (.ow N)) (some (.fr (tabD tRow))) (some (.fr (tabD tGrd)))) :=
    ev_bin (a := tabD tGrd) (b := tabD [[1 - 10 ^ 40], [2 - 10 ^ 40]]) rfl (ev_tup (ev_cons (ev_tup (ev_cons (ev_bin rfl (ev_bin rfl rfl p40) rfl) ev_nil) (by show 1 ≤ 100000; decide)) (ev_cons (ev_tup (ev_cons (ev_bin rfl (ev_bin rfl rfl p40) rfl) ev_nil) (by show 1 ≤ 100000; decide)) ev_nil)) (by show 2 ≤ 100000; decide)) rfl
  refine ev_seq (e1 := E (some (.ow N)) (some (.fr (tabD tRow))) (some (.fr (tabD tGrd)))) (ev_ifF (ev_or0 (ev_tst (d := .bool false) (ev_bin (e1 := E (some (.ow N)) (some (.fr (tabD tRow))) (some (.fr (tabD tGrd)))) (ev_cb (e1 := E (some (.ow N)) (some (.fr (tabD tRow))) (some (.fr (tabD tGrd)))) (ev_cons rfl ev_nil) ex_grd) rfl (by kernel_rfl)) rfl) (ev_not (k := true) (ev_tst (ev_cb (ev_cons a9 ev_nil) (told_spec gr2_ok (by decide))) rfl))) rfl) fin
end DL
end L2

set_option Elab.async false
set_option maxRecDepth 100000
set_option maxHeartbeats 4000000
set_option autoImplicit false
namespace L2
namespace DL
open PySem PySem.Spec PyProof.Rows
def mkTx [Lab] {w : World} (hw : LabW.w = some w) {K : PySem.W.Frag} {h base : Heap} {mg : Str → Option Value} (X : K.In h) (G : h.Ns mainGlobals mg)
    {f0 : Addr} {od0 an0 : Option Addr} {sl0 : Array (Option Value)} {oc0 kV0 dc0 pm0 cd0 ct0 : Value}
    {f1 : Addr} {od1 an1 : Option Addr} {sl1 : Array (Option Value)} {oc1 kV1 dc1 pm1 cd1 ct1 : Value}
    {f2 : Addr} {od2 an2 : Option Addr} {sl2 : Array (Option Value)} {oc2 kV2 dc2 pm2 cd2 ct2 : Value}
    {f3 : Addr} {od3 an3 : Option Addr} {sl3 : Array (Option Value)} {oc3 kV3 dc3 pm3 cd3 ct3 : Value}
    {f4 : Addr} {od4 an4 : Option Addr} {sl4 : Array (Option Value)} {oc4 kV4 dc4 pm4 cd4 ct4 : Value}
    {f5 : Addr} {od5 an5 : Option Addr} {sl5 : Array (Option Value)} {oc5 kV5 dc5 pm5 cd5 ct5 : Value}
    {f6 : Addr} {od6 an6 : Option Addr} {sl6 : Array (Option Value)} {oc6 kV6 dc6 pm6 cd6 ct6 : Value}
    {f7 : Addr} {od7 an7 : Option Addr} {sl7 : Array (Option Value)} {oc7 kV7 dc7 pm7 cd7 ct7 : Value}
    {f8 : Addr} {od8 an8 : Option Addr} {sl8 : Array (Option Value)} {oc8 kV8 dc8 pm8 cd8 ct8 : Value}
    {f9 : Addr} {od9 an9 : Option Addr} {sl9 : Array (Option Value)} {oc9 kV9 dc9 pm9 cd9 ct9 : Value}
    {f10 : Addr} {od10 an10 : Option Addr} {sl10 : Array (Option Value)} {oc10 kV10 dc10 pm10 cd10 ct10 : Value}
    {f11 : Addr} {od11 an11 : Option Addr} {sl11 : Array (Option Value)} {oc11 kV11 dc11 pm11 cd11 ct11 : Value}
    {f12 : Addr} {od12 an12 : Option Addr} {sl12 : Array (Option Value)} {oc12 kV12 dc12 pm12 cd12 ct12 : Value}
    {f13 : Addr} {od13 an13 : Option Addr} {sl13 : Array (Option Value)} {oc13 kV13 dc13 pm13 cd13 ct13 : Value}
    {f14 : Addr} {od14 an14 : Option Addr} {sl14 : Array (Option Value)} {oc14 kV14 dc14 pm14 cd14 ct14 : Value}
    {f15 : Addr} {od15 an15 : Option Addr} {sl15 : Array (Option Value)} {oc15 kV15 dc15 pm15 cd15 ct15 : Value}
    {f16 : Addr} {od16 an16 : Option Addr} {sl16 : Array (Option Value)} {oc16 kV16 dc16 pm16 cd16 ct16 : Value}
    {f17 : Addr} {od17 an17 : Option Addr} {sl17 : Array (Option Value)} {oc17 kV17 dc17 pm17 cd17 ct17 : Value}
    (a0 : PySem.W.nsIn K mainGlobals "is_integer" = some (some (.ref f0))) (l0 : K.lookup f0 = some ⟨oc0, od0, .func (PySem.W.fnOf "is_integer" "is_integer" (defArgs (topS 7)) (defBody (topS 7)) (defScope (topS 7)) .none kV0 dc0 pm0 an0 cd0 ct0), sl0⟩) (c0 : PySem.W.codeIn K cd0 "is_integer" = true) (k0 : PySem.W.keepIn K (.ref f0) = true)
    (a1 : PySem.W.nsIn K mainGlobals "is_record" = some (some (.ref f1))) (l1 : K.lookup f1 = some ⟨oc1, od1, .func (PySem.W.fnOf "is_record" "is_record" (defArgs (topS 8)) (defBody (topS 8)) (defScope (topS 8)) .none kV1 dc1 pm1 an1 cd1 ct1), sl1⟩) (c1 : PySem.W.codeIn K cd1 "is_record" = true) (k1 : PySem.W.keepIn K (.ref f1) = true)
    (a2 : PySem.W.nsIn K mainGlobals "check_table" = some (some (.ref f2))) (l2 : K.lookup f2 = some ⟨oc2, od2, .func (PySem.W.fnOf "check_table" "check_table" (defArgs (topS 9)) (defBody (topS 9)) (defScope (topS 9)) .none kV2 dc2 pm2 an2 cd2 ct2), sl2⟩) (c2 : PySem.W.codeIn K cd2 "check_table" = true) (k2 : PySem.W.keepIn K (.ref f2) = true)
    (a3 : PySem.W.nsIn K mainGlobals "every_place" = some (some (.ref f3))) (l3 : K.lookup f3 = some ⟨oc3, od3, .func (PySem.W.fnOf "every_place" "every_place" (defArgs (topS 10)) (defBody (topS 10)) (defScope (topS 10)) .none kV3 dc3 pm3 an3 cd3 ct3), sl3⟩) (c3 : PySem.W.codeIn K cd3 "every_place" = true) (k3 : PySem.W.keepIn K (.ref f3) = true)
    (a4 : PySem.W.nsIn K mainGlobals "sort_columns" = some (some (.ref f4))) (l4 : K.lookup f4 = some ⟨oc4, od4, .func (PySem.W.fnOf "sort_columns" "sort_columns" (defArgs (topS 11)) (defBody (topS 11)) (defScope (topS 11)) .none kV4 dc4 pm4 an4 cd4 ct4), sl4⟩) (c4 : PySem.W.codeIn K cd4 "sort_columns" = true) (k4 : PySem.W.keepIn K (.ref f4) = true)
    (a5 : PySem.W.nsIn K mainGlobals "edge_key" = some (some (.ref f5))) (l5 : K.lookup f5 = some ⟨oc5, od5, .func (PySem.W.fnOf "edge_key" "edge_key" (defArgs (topS 13)) (defBody (topS 13)) (defScope (topS 13)) .none kV5 dc5 pm5 an5 cd5 ct5), sl5⟩) (c5 : PySem.W.codeIn K cd5 "edge_key" = true) (k5 : PySem.W.keepIn K (.ref f5) = true)
    (a6 : PySem.W.nsIn K mainGlobals "keys_towards" = some (some (.ref f6))) (l6 : K.lookup f6 = some ⟨oc6, od6, .func (PySem.W.fnOf "keys_towards" "keys_towards" (defArgs (topS 14)) (defBody (topS 14)) (defScope (topS 14)) .none kV6 dc6 pm6 an6 cd6 ct6), sl6⟩) (c6 : PySem.W.codeIn K cd6 "keys_towards" = true) (k6 : PySem.W.keepIn K (.ref f6) = true)
    (a7 : PySem.W.nsIn K mainGlobals "order_that_ends_with" = some (some (.ref f7))) (l7 : K.lookup f7 = some ⟨oc7, od7, .func (PySem.W.fnOf "order_that_ends_with" "order_that_ends_with" (defArgs (topS 15)) (defBody (topS 15)) (defScope (topS 15)) .none kV7 dc7 pm7 an7 cd7 ct7), sl7⟩) (c7 : PySem.W.codeIn K cd7 "order_that_ends_with" = true) (k7 : PySem.W.keepIn K (.ref f7) = true)
    (a8 : PySem.W.nsIn K mainGlobals "extreme_places" = some (some (.ref f8))) (l8 : K.lookup f8 = some ⟨oc8, od8, .func (PySem.W.fnOf "extreme_places" "extreme_places" (defArgs (topS 16)) (defBody (topS 16)) (defScope (topS 16)) .none kV8 dc8 pm8 an8 cd8 ct8), sl8⟩) (c8 : PySem.W.codeIn K cd8 "extreme_places" = true) (k8 : PySem.W.keepIn K (.ref f8) = true)
    (a9 : PySem.W.nsIn K mainGlobals "_law_cell" = some (some (.ref f9))) (l9 : K.lookup f9 = some ⟨oc9, od9, .func (PySem.W.fnOf "_law_cell" "_law_cell" (defArgs (topS 18)) (defBody (topS 18)) (defScope (topS 18)) .none kV9 dc9 pm9 an9 cd9 ct9), sl9⟩) (c9 : PySem.W.codeIn K cd9 "_law_cell" = true) (k9 : PySem.W.keepIn K (.ref f9) = true)
    (a10 : PySem.W.nsIn K mainGlobals "_law_pool" = some (some (.ref f10))) (l10 : K.lookup f10 = some ⟨oc10, od10, .func (PySem.W.fnOf "_law_pool" "_law_pool" (defArgs (topS 19)) (defBody (topS 19)) (defScope (topS 19)) .none kV10 dc10 pm10 an10 cd10 ct10), sl10⟩) (c10 : PySem.W.codeIn K cd10 "_law_pool" = true) (k10 : PySem.W.keepIn K (.ref f10) = true)
    (a11 : PySem.W.nsIn K mainGlobals "_law_draw" = some (some (.ref f11))) (l11 : K.lookup f11 = some ⟨oc11, od11, .func (PySem.W.fnOf "_law_draw" "_law_draw" (defArgs (topS 20)) (defBody (topS 20)) (defScope (topS 20)) .none kV11 dc11 pm11 an11 cd11 ct11), sl11⟩) (c11 : PySem.W.codeIn K cd11 "_law_draw" = true) (k11 : PySem.W.keepIn K (.ref f11) = true)
    (a12 : PySem.W.nsIn K mainGlobals "_law_table" = some (some (.ref f12))) (l12 : K.lookup f12 = some ⟨oc12, od12, .func (PySem.W.fnOf "_law_table" "_law_table" (defArgs (topS 21)) (defBody (topS 21)) (defScope (topS 21)) .none kV12 dc12 pm12 an12 cd12 ct12), sl12⟩) (c12 : PySem.W.codeIn K cd12 "_law_table" = true) (k12 : PySem.W.keepIn K (.ref f12) = true)
    (a13 : PySem.W.nsIn K mainGlobals "_law_stand" = some (some (.ref f13))) (l13 : K.lookup f13 = some ⟨oc13, od13, .func (PySem.W.fnOf "_law_stand" "_law_stand" (defArgs (topS 22)) (defBody (topS 22)) (defScope (topS 22)) .none kV13 dc13 pm13 an13 cd13 ct13), sl13⟩) (c13 : PySem.W.codeIn K cd13 "_law_stand" = true) (k13 : PySem.W.keepIn K (.ref f13) = true)
    (a14 : PySem.W.nsIn K mainGlobals "_law_orders" = some (some (.ref f14))) (l14 : K.lookup f14 = some ⟨oc14, od14, .func (PySem.W.fnOf "_law_orders" "_law_orders" (defArgs (topS 23)) (defBody (topS 23)) (defScope (topS 23)) .none kV14 dc14 pm14 an14 cd14 ct14), sl14⟩) (c14 : PySem.W.codeIn K cd14 "_law_orders" = true) (k14 : PySem.W.keepIn K (.ref f14) = true)
    (a15 : PySem.W.nsIn K mainGlobals "_law_told_right" = some (some (.ref f15))) (l15 : K.lookup f15 = some ⟨oc15, od15, .func (PySem.W.fnOf "_law_told_right" "_law_told_right" (defArgs (topS 24)) (defBody (topS 24)) (defScope (topS 24)) .none kV15 dc15 pm15 an15 cd15 ct15), sl15⟩) (c15 : PySem.W.codeIn K cd15 "_law_told_right" = true) (k15 : PySem.W.keepIn K (.ref f15) = true)
    (a16 : PySem.W.nsIn K mainGlobals "_law_right" = some (some (.ref f16))) (l16 : K.lookup f16 = some ⟨oc16, od16, .func (PySem.W.fnOf "_law_right" "_law_right" (defArgs (topS 25)) (defBody (topS 25)) (defScope (topS 25)) .none kV16 dc16 pm16 an16 cd16 ct16), sl16⟩) (c16 : PySem.W.codeIn K cd16 "_law_right" = true) (k16 : PySem.W.keepIn K (.ref f16) = true)
    (a17 : PySem.W.nsIn K mainGlobals "law" = some (some (.ref f17))) (l17 : K.lookup f17 = some ⟨oc17, od17, .func (PySem.W.fnOf "law" "law" (defArgs (topS 26)) (defBody (topS 26)) (defScope (topS 26)) .none kV17 dc17 pm17 an17 cd17 ct17), sl17⟩) (c17 : PySem.W.codeIn K cd17 "law" = true) (k17 : PySem.W.keepIn K (.ref f17) = true)
    (n_abs : PySem.W.nsIn K mainGlobals "abs" = some none)
    (n_all : PySem.W.nsIn K mainGlobals "all" = some none)
    (n_bool : PySem.W.nsIn K mainGlobals "bool" = some none)
    (n_divmod : PySem.W.nsIn K mainGlobals "divmod" = some none)
    (n_enumerate : PySem.W.nsIn K mainGlobals "enumerate" = some none)
    (n_int : PySem.W.nsIn K mainGlobals "int" = some none)
    (n_isinstance : PySem.W.nsIn K mainGlobals "isinstance" = some none)
    (n_len : PySem.W.nsIn K mainGlobals "len" = some none)
    (n_list : PySem.W.nsIn K mainGlobals "list" = some none)
    (n_max : PySem.W.nsIn K mainGlobals "max" = some none)
    (n_min : PySem.W.nsIn K mainGlobals "min" = some none)
    (n_range : PySem.W.nsIn K mainGlobals "range" = some none)
    (n_repr : PySem.W.nsIn K mainGlobals "repr" = some none)
    (n_set : PySem.W.nsIn K mainGlobals "set" = some none)
    (n_sorted : PySem.W.nsIn K mainGlobals "sorted" = some none)
    (n_tuple : PySem.W.nsIn K mainGlobals "tuple" = some none)
    (c_MOST_COLUMNS : ∀ [LabW], ∃ uv : Value × V, mg "MOST_COLUMNS" = some uv.1 ∧ RelV uv.2 uv.1 ∧ ∀ Z, DD K Z uv.2 cv_MOST_COLUMNS)
    (c_MOST_RECORDS : ∀ [LabW], ∃ uv : Value × V, mg "MOST_RECORDS" = some uv.1 ∧ RelV uv.2 uv.1 ∧ ∀ Z, DD K Z uv.2 cv_MOST_RECORDS)
    (c_MOST_KEYS : ∀ [LabW], ∃ uv : Value × V, mg "MOST_KEYS" = some uv.1 ∧ RelV uv.2 uv.1 ∧ ∀ Z, DD K Z uv.2 cv_MOST_KEYS) : Tx Lab.T K mg base w where
  hw := hw
  A := fun i => match i with
    | 0 => f0
    | 1 => f1
    | 2 => f2
    | 3 => f3
    | 4 => f4
    | 5 => f5
    | 6 => f6
    | 7 => f7
    | 8 => f8
    | 9 => f9
    | 10 => f10
    | 11 => f11
    | 12 => f12
    | 13 => f13
    | 14 => f14
    | 15 => f15
    | 16 => f16
    | 17 => f17
    | _ => f0
  FD := fun i => match i with
    | 0 => (PySem.W.fnOf "is_integer" "is_integer" (defArgs (topS 7)) (defBody (topS 7)) (defScope (topS 7)) .none kV0 dc0 pm0 an0 cd0 ct0)
    | 1 => (PySem.W.fnOf "is_record" "is_record" (defArgs (topS 8)) (defBody (topS 8)) (defScope (topS 8)) .none kV1 dc1 pm1 an1 cd1 ct1)
    | 2 => (PySem.W.fnOf "check_table" "check_table" (defArgs (topS 9)) (defBody (topS 9)) (defScope (topS 9)) .none kV2 dc2 pm2 an2 cd2 ct2)
    | 3 => (PySem.W.fnOf "every_place" "every_place" (defArgs (topS 10)) (defBody (topS 10)) (defScope (topS 10)) .none kV3 dc3 pm3 an3 cd3 ct3)
    | 4 => (PySem.W.fnOf "sort_columns" "sort_columns" (defArgs (topS 11)) (defBody (topS 11)) (defScope (topS 11)) .none kV4 dc4 pm4 an4 cd4 ct4)
    | 5 => (PySem.W.fnOf "edge_key" "edge_key" (defArgs (topS 13)) (defBody (topS 13)) (defScope (topS 13)) .none kV5 dc5 pm5 an5 cd5 ct5)
    | 6 => (PySem.W.fnOf "keys_towards" "keys_towards" (defArgs (topS 14)) (defBody (topS 14)) (defScope (topS 14)) .none kV6 dc6 pm6 an6 cd6 ct6)
    | 7 => (PySem.W.fnOf "order_that_ends_with" "order_that_ends_with" (defArgs (topS 15)) (defBody (topS 15)) (defScope (topS 15)) .none kV7 dc7 pm7 an7 cd7 ct7)
    | 8 => (PySem.W.fnOf "extreme_places" "extreme_places" (defArgs (topS 16)) (defBody (topS 16)) (defScope (topS 16)) .none kV8 dc8 pm8 an8 cd8 ct8)
    | 9 => (PySem.W.fnOf "_law_cell" "_law_cell" (defArgs (topS 18)) (defBody (topS 18)) (defScope (topS 18)) .none kV9 dc9 pm9 an9 cd9 ct9)
    | 10 => (PySem.W.fnOf "_law_pool" "_law_pool" (defArgs (topS 19)) (defBody (topS 19)) (defScope (topS 19)) .none kV10 dc10 pm10 an10 cd10 ct10)
    | 11 => (PySem.W.fnOf "_law_draw" "_law_draw" (defArgs (topS 20)) (defBody (topS 20)) (defScope (topS 20)) .none kV11 dc11 pm11 an11 cd11 ct11)
    | 12 => (PySem.W.fnOf "_law_table" "_law_table" (defArgs (topS 21)) (defBody (topS 21)) (defScope (topS 21)) .none kV12 dc12 pm12 an12 cd12 ct12)
    | 13 => (PySem.W.fnOf "_law_stand" "_law_stand" (defArgs (topS 22)) (defBody (topS 22)) (defScope (topS 22)) .none kV13 dc13 pm13 an13 cd13 ct13)
    | 14 => (PySem.W.fnOf "_law_orders" "_law_orders" (defArgs (topS 23)) (defBody (topS 23)) (defScope (topS 23)) .none kV14 dc14 pm14 an14 cd14 ct14)
    | 15 => (PySem.W.fnOf "_law_told_right" "_law_told_right" (defArgs (topS 24)) (defBody (topS 24)) (defScope (topS 24)) .none kV15 dc15 pm15 an15 cd15 ct15)
    | 16 => (PySem.W.fnOf "_law_right" "_law_right" (defArgs (topS 25)) (defBody (topS 25)) (defScope (topS 25)) .none kV16 dc16 pm16 an16 cd16 ct16)
    | 17 => (PySem.W.fnOf "law" "law" (defArgs (topS 26)) (defBody (topS 26)) (defScope (topS 26)) .none kV17 dc17 pm17 an17 cd17 ct17)
    | _ => (PySem.W.fnOf "is_integer" "is_integer" (defArgs (topS 7)) (defBody (topS 7)) (defScope (topS 7)) .none kV0 dc0 pm0 an0 cd0 ct0)
  D_is_integer := fun_mk (st := (topS 7)) l0 c0 k0
  g_is_integer := PySem.W.mg_of X G a0
  D_is_record := fun_mk (st := (topS 8)) l1 c1 k1
  g_is_record := PySem.W.mg_of X G a1
  D_check_table := fun_mk (st := (topS 9)) l2 c2 k2
  g_check_table := PySem.W.mg_of X G a2
  D_every_place := fun_mk (st := (topS 10)) l3 c3 k3
  g_every_place := PySem.W.mg_of X G a3
  D_sort_columns := fun_mk (st := (topS 11)) l4 c4 k4
  g_sort_columns := PySem.W.mg_of X G a4
  D_edge_key := fun_mk (st := (topS 13)) l5 c5 k5
  g_edge_key := PySem.W.mg_of X G a5
  D_keys_towards := fun_mk (st := (topS 14)) l6 c6 k6
  g_keys_towards := PySem.W.mg_of X G a6
  D_order_that_ends_with := fun_mk (st := (topS 15)) l7 c7 k7
  g_order_that_ends_with := PySem.W.mg_of X G a7
  D_extreme_places := fun_mk (st := (topS 16)) l8 c8 k8
  g_extreme_places := PySem.W.mg_of X G a8
  D__law_cell := fun_mk (st := (topS 18)) l9 c9 k9
  g__law_cell := PySem.W.mg_of X G a9
  D__law_pool := fun_mk (st := (topS 19)) l10 c10 k10
  g__law_pool := PySem.W.mg_of X G a10
  D__law_draw := fun_mk (st := (topS 20)) l11 c11 k11
  g__law_draw := PySem.W.mg_of X G a11
  D__law_table := fun_mk (st := (topS 21)) l12 c12 k12
  g__law_table := PySem.W.mg_of X G a12
  D__law_stand := fun_mk (st := (topS 22)) l13 c13 k13
  g__law_stand := PySem.W.mg_of X G a13
  D__law_orders := fun_mk (st := (topS 23)) l14 c14 k14
  g__law_orders := PySem.W.mg_of X G a14
  D__law_told_right := fun_mk (st := (topS 24)) l15 c15 k15
  g__law_told_right := PySem.W.mg_of X G a15
  D__law_right := fun_mk (st := (topS 25)) l16 c16 k16
  g__law_right := PySem.W.mg_of X G a16
  D_law := fun_mk (st := (topS 26)) l17 c17 k17
  g_law := PySem.W.mg_of X G a17
  n_abs := PySem.W.mg_none_of X G n_abs
  n_all := PySem.W.mg_none_of X G n_all
  n_bool := PySem.W.mg_none_of X G n_bool
  n_divmod := PySem.W.mg_none_of X G n_divmod
  n_enumerate := PySem.W.mg_none_of X G n_enumerate
  n_int := PySem.W.mg_none_of X G n_int
  n_isinstance := PySem.W.mg_none_of X G n_isinstance
  n_len := PySem.W.mg_none_of X G n_len
  n_list := PySem.W.mg_none_of X G n_list
  n_max := PySem.W.mg_none_of X G n_max
  n_min := PySem.W.mg_none_of X G n_min
  n_range := PySem.W.mg_none_of X G n_range
  n_repr := PySem.W.mg_none_of X G n_repr
  n_set := PySem.W.mg_none_of X G n_set
  n_sorted := PySem.W.mg_none_of X G n_sorted
  n_tuple := PySem.W.mg_none_of X G n_tuple
  c_MOST_COLUMNS := c_MOST_COLUMNS
  c_MOST_RECORDS := c_MOST_RECORDS
  c_MOST_KEYS := c_MOST_KEYS
theorem all_mk {l : PySem.W.OpenLaw} {w : World} {K : PySem.W.Frag} {h : Heap} {mg : Str → Option Value} {fa : Addr} (X : K.In h) (G : h.Ns mainGlobals mg) (hfa : mg "law" = some (.ref fa))
    {f0 : Addr} {od0 an0 : Option Addr} {sl0 : Array (Option Value)} {oc0 kV0 dc0 pm0 cd0 ct0 : Value}
    {f1 : Addr} {od1 an1 : Option Addr} {sl1 : Array (Option Value)} {oc1 kV1 dc1 pm1 cd1 ct1 : Value}
    {f2 : Addr} {od2 an2 : Option Addr} {sl2 : Array (Option Value)} {oc2 kV2 dc2 pm2 cd2 ct2 : Value}
    {f3 : Addr} {od3 an3 : Option Addr} {sl3 : Array (Option Value)} {oc3 kV3 dc3 pm3 cd3 ct3 : Value}
    {f4 : Addr} {od4 an4 : Option Addr} {sl4 : Array (Option Value)} {oc4 kV4 dc4 pm4 cd4 ct4 : Value}
    {f5 : Addr} {od5 an5 : Option Addr} {sl5 : Array (Option Value)} {oc5 kV5 dc5 pm5 cd5 ct5 : Value}
    {f6 : Addr} {od6 an6 : Option Addr} {sl6 : Array (Option Value)} {oc6 kV6 dc6 pm6 cd6 ct6 : Value}
    {f7 : Addr} {od7 an7 : Option Addr} {sl7 : Array (Option Value)} {oc7 kV7 dc7 pm7 cd7 ct7 : Value}
    {f8 : Addr} {od8 an8 : Option Addr} {sl8 : Array (Option Value)} {oc8 kV8 dc8 pm8 cd8 ct8 : Value}
    {f9 : Addr} {od9 an9 : Option Addr} {sl9 : Array (Option Value)} {oc9 kV9 dc9 pm9 cd9 ct9 : Value}
    {f10 : Addr} {od10 an10 : Option Addr} {sl10 : Array (Option Value)} {oc10 kV10 dc10 pm10 cd10 ct10 : Value}
    {f11 : Addr} {od11 an11 : Option Addr} {sl11 : Array (Option Value)} {oc11 kV11 dc11 pm11 cd11 ct11 : Value}
    {f12 : Addr} {od12 an12 : Option Addr} {sl12 : Array (Option Value)} {oc12 kV12 dc12 pm12 cd12 ct12 : Value}
    {f13 : Addr} {od13 an13 : Option Addr} {sl13 : Array (Option Value)} {oc13 kV13 dc13 pm13 cd13 ct13 : Value}
    {f14 : Addr} {od14 an14 : Option Addr} {sl14 : Array (Option Value)} {oc14 kV14 dc14 pm14 cd14 ct14 : Value}
    {f15 : Addr} {od15 an15 : Option Addr} {sl15 : Array (Option Value)} {oc15 kV15 dc15 pm15 cd15 ct15 : Value}
    {f16 : Addr} {od16 an16 : Option Addr} {sl16 : Array (Option Value)} {oc16 kV16 dc16 pm16 cd16 ct16 : Value}
    {f17 : Addr} {od17 an17 : Option Addr} {sl17 : Array (Option Value)} {oc17 kV17 dc17 pm17 cd17 ct17 : Value}
    (a0 : PySem.W.nsIn K mainGlobals "is_integer" = some (some (.ref f0))) (l0 : K.lookup f0 = some ⟨oc0, od0, .func (PySem.W.fnOf "is_integer" "is_integer" (defArgs (topS 7)) (defBody (topS 7)) (defScope (topS 7)) .none kV0 dc0 pm0 an0 cd0 ct0), sl0⟩) (c0 : PySem.W.codeIn K cd0 "is_integer" = true) (k0 : PySem.W.keepIn K (.ref f0) = true)
    (a1 : PySem.W.nsIn K mainGlobals "is_record" = some (some (.ref f1))) (l1 : K.lookup f1 = some ⟨oc1, od1, .func (PySem.W.fnOf "is_record" "is_record" (defArgs (topS 8)) (defBody (topS 8)) (defScope (topS 8)) .none kV1 dc1 pm1 an1 cd1 ct1), sl1⟩) (c1 : PySem.W.codeIn K cd1 "is_record" = true) (k1 : PySem.W.keepIn K (.ref f1) = true)
    (a2 : PySem.W.nsIn K mainGlobals "check_table" = some (some (.ref f2))) (l2 : K.lookup f2 = some ⟨oc2, od2, .func (PySem.W.fnOf "check_table" "check_table" (defArgs (topS 9)) (defBody (topS 9)) (defScope (topS 9)) .none kV2 dc2 pm2 an2 cd2 ct2), sl2⟩) (c2 : PySem.W.codeIn K cd2 "check_table" = true) (k2 : PySem.W.keepIn K (.ref f2) = true)
    (a3 : PySem.W.nsIn K mainGlobals "every_place" = some (some (.ref f3))) (l3 : K.lookup f3 = some ⟨oc3, od3, .func (PySem.W.fnOf "every_place" "every_place" (defArgs (topS 10)) (defBody (topS 10)) (defScope (topS 10)) .none kV3 dc3 pm3 an3 cd3 ct3), sl3⟩) (c3 : PySem.W.codeIn K cd3 "every_place" = true) (k3 : PySem.W.keepIn K (.ref f3) = true)
    (a4 : PySem.W.nsIn K mainGlobals "sort_columns" = some (some (.ref f4))) (l4 : K.lookup f4 = some ⟨oc4, od4, .func (PySem.W.fnOf "sort_columns" "sort_columns" (defArgs (topS 11)) (defBody (topS 11)) (defScope (topS 11)) .none kV4 dc4 pm4 an4 cd4 ct4), sl4⟩) (c4 : PySem.W.codeIn K cd4 "sort_columns" = true) (k4 : PySem.W.keepIn K (.ref f4) = true)
    (a5 : PySem.W.nsIn K mainGlobals "edge_key" = some (some (.ref f5))) (l5 : K.lookup f5 = some ⟨oc5, od5, .func (PySem.W.fnOf "edge_key" "edge_key" (defArgs (topS 13)) (defBody (topS 13)) (defScope (topS 13)) .none kV5 dc5 pm5 an5 cd5 ct5), sl5⟩) (c5 : PySem.W.codeIn K cd5 "edge_key" = true) (k5 : PySem.W.keepIn K (.ref f5) = true)
    (a6 : PySem.W.nsIn K mainGlobals "keys_towards" = some (some (.ref f6))) (l6 : K.lookup f6 = some ⟨oc6, od6, .func (PySem.W.fnOf "keys_towards" "keys_towards" (defArgs (topS 14)) (defBody (topS 14)) (defScope (topS 14)) .none kV6 dc6 pm6 an6 cd6 ct6), sl6⟩) (c6 : PySem.W.codeIn K cd6 "keys_towards" = true) (k6 : PySem.W.keepIn K (.ref f6) = true)
    (a7 : PySem.W.nsIn K mainGlobals "order_that_ends_with" = some (some (.ref f7))) (l7 : K.lookup f7 = some ⟨oc7, od7, .func (PySem.W.fnOf "order_that_ends_with" "order_that_ends_with" (defArgs (topS 15)) (defBody (topS 15)) (defScope (topS 15)) .none kV7 dc7 pm7 an7 cd7 ct7), sl7⟩) (c7 : PySem.W.codeIn K cd7 "order_that_ends_with" = true) (k7 : PySem.W.keepIn K (.ref f7) = true)
    (a8 : PySem.W.nsIn K mainGlobals "extreme_places" = some (some (.ref f8))) (l8 : K.lookup f8 = some ⟨oc8, od8, .func (PySem.W.fnOf "extreme_places" "extreme_places" (defArgs (topS 16)) (defBody (topS 16)) (defScope (topS 16)) .none kV8 dc8 pm8 an8 cd8 ct8), sl8⟩) (c8 : PySem.W.codeIn K cd8 "extreme_places" = true) (k8 : PySem.W.keepIn K (.ref f8) = true)
    (a9 : PySem.W.nsIn K mainGlobals "_law_cell" = some (some (.ref f9))) (l9 : K.lookup f9 = some ⟨oc9, od9, .func (PySem.W.fnOf "_law_cell" "_law_cell" (defArgs (topS 18)) (defBody (topS 18)) (defScope (topS 18)) .none kV9 dc9 pm9 an9 cd9 ct9), sl9⟩) (c9 : PySem.W.codeIn K cd9 "_law_cell" = true) (k9 : PySem.W.keepIn K (.ref f9) = true)
    (a10 : PySem.W.nsIn K mainGlobals "_law_pool" = some (some (.ref f10))) (l10 : K.lookup f10 = some ⟨oc10, od10, .func (PySem.W.fnOf "_law_pool" "_law_pool" (defArgs (topS 19)) (defBody (topS 19)) (defScope (topS 19)) .none kV10 dc10 pm10 an10 cd10 ct10), sl10⟩) (c10 : PySem.W.codeIn K cd10 "_law_pool" = true) (k10 : PySem.W.keepIn K (.ref f10) = true)
    (a11 : PySem.W.nsIn K mainGlobals "_law_draw" = some (some (.ref f11))) (l11 : K.lookup f11 = some ⟨oc11, od11, .func (PySem.W.fnOf "_law_draw" "_law_draw" (defArgs (topS 20)) (defBody (topS 20)) (defScope (topS 20)) .none kV11 dc11 pm11 an11 cd11 ct11), sl11⟩) (c11 : PySem.W.codeIn K cd11 "_law_draw" = true) (k11 : PySem.W.keepIn K (.ref f11) = true)
    (a12 : PySem.W.nsIn K mainGlobals "_law_table" = some (some (.ref f12))) (l12 : K.lookup f12 = some ⟨oc12, od12, .func (PySem.W.fnOf "_law_table" "_law_table" (defArgs (topS 21)) (defBody (topS 21)) (defScope (topS 21)) .none kV12 dc12 pm12 an12 cd12 ct12), sl12⟩) (c12 : PySem.W.codeIn K cd12 "_law_table" = true) (k12 : PySem.W.keepIn K (.ref f12) = true)
    (a13 : PySem.W.nsIn K mainGlobals "_law_stand" = some (some (.ref f13))) (l13 : K.lookup f13 = some ⟨oc13, od13, .func (PySem.W.fnOf "_law_stand" "_law_stand" (defArgs (topS 22)) (defBody (topS 22)) (defScope (topS 22)) .none kV13 dc13 pm13 an13 cd13 ct13), sl13⟩) (c13 : PySem.W.codeIn K cd13 "_law_stand" = true) (k13 : PySem.W.keepIn K (.ref f13) = true)
    (a14 : PySem.W.nsIn K mainGlobals "_law_orders" = some (some (.ref f14))) (l14 : K.lookup f14 = some ⟨oc14, od14, .func (PySem.W.fnOf "_law_orders" "_law_orders" (defArgs (topS 23)) (defBody (topS 23)) (defScope (topS 23)) .none kV14 dc14 pm14 an14 cd14 ct14), sl14⟩) (c14 : PySem.W.codeIn K cd14 "_law_orders" = true) (k14 : PySem.W.keepIn K (.ref f14) = true)
    (a15 : PySem.W.nsIn K mainGlobals "_law_told_right" = some (some (.ref f15))) (l15 : K.lookup f15 = some ⟨oc15, od15, .func (PySem.W.fnOf "_law_told_right" "_law_told_right" (defArgs (topS 24)) (defBody (topS 24)) (defScope (topS 24)) .none kV15 dc15 pm15 an15 cd15 ct15), sl15⟩) (c15 : PySem.W.codeIn K cd15 "_law_told_right" = true) (k15 : PySem.W.keepIn K (.ref f15) = true)
    (a16 : PySem.W.nsIn K mainGlobals "_law_right" = some (some (.ref f16))) (l16 : K.lookup f16 = some ⟨oc16, od16, .func (PySem.W.fnOf "_law_right" "_law_right" (defArgs (topS 25)) (defBody (topS 25)) (defScope (topS 25)) .none kV16 dc16 pm16 an16 cd16 ct16), sl16⟩) (c16 : PySem.W.codeIn K cd16 "_law_right" = true) (k16 : PySem.W.keepIn K (.ref f16) = true)
    (a17 : PySem.W.nsIn K mainGlobals "law" = some (some (.ref f17))) (l17 : K.lookup f17 = some ⟨oc17, od17, .func (PySem.W.fnOf "law" "law" (defArgs (topS 26)) (defBody (topS 26)) (defScope (topS 26)) .none kV17 dc17 pm17 an17 cd17 ct17), sl17⟩) (c17 : PySem.W.codeIn K cd17 "law" = true) (k17 : PySem.W.keepIn K (.ref f17) = true)
    (n_abs : PySem.W.nsIn K mainGlobals "abs" = some none)
    (n_all : PySem.W.nsIn K mainGlobals "all" = some none)
    (n_bool : PySem.W.nsIn K mainGlobals "bool" = some none)
    (n_divmod : PySem.W.nsIn K mainGlobals "divmod" = some none)
    (n_enumerate : PySem.W.nsIn K mainGlobals "enumerate" = some none)
    (n_int : PySem.W.nsIn K mainGlobals "int" = some none)
    (n_isinstance : PySem.W.nsIn K mainGlobals "isinstance" = some none)
    (n_len : PySem.W.nsIn K mainGlobals "len" = some none)
    (n_list : PySem.W.nsIn K mainGlobals "list" = some none)
    (n_max : PySem.W.nsIn K mainGlobals "max" = some none)
    (n_min : PySem.W.nsIn K mainGlobals "min" = some none)
    (n_range : PySem.W.nsIn K mainGlobals "range" = some none)
    (n_repr : PySem.W.nsIn K mainGlobals "repr" = some none)
    (n_set : PySem.W.nsIn K mainGlobals "set" = some none)
    (n_sorted : PySem.W.nsIn K mainGlobals "sorted" = some none)
    (n_tuple : PySem.W.nsIn K mainGlobals "tuple" = some none)
    (c_MOST_COLUMNS : ∀ [LabW], ∃ uv : Value × V, mg "MOST_COLUMNS" = some uv.1 ∧ RelV uv.2 uv.1 ∧ ∀ Z, DD K Z uv.2 cv_MOST_COLUMNS)
    (c_MOST_RECORDS : ∀ [LabW], ∃ uv : Value × V, mg "MOST_RECORDS" = some uv.1 ∧ RelV uv.2 uv.1 ∧ ∀ Z, DD K Z uv.2 cv_MOST_RECORDS)
    (c_MOST_KEYS : ∀ [LabW], ∃ uv : Value × V, mg "MOST_KEYS" = some uv.1 ∧ RelV uv.2 uv.1 ∧ ∀ Z, DD K Z uv.2 cv_MOST_KEYS) :
    LawG l w K 8 "_law_script" m_law mg fa h := by
  have e := hfa.symm.trans (PySem.W.mg_of X G a17)
  cases e
  refine ⟨(PySem.W.fnOf "law" "law" (defArgs (topS 26)) (defBody (topS 26)) (defScope (topS 26)) .none kV17 dc17 pm17 an17 cd17 ct17), [], { w := some w, T := [], gd := True }, fun c q hc => ?_, fun q hq => ?_, fun s v => .of_eq rfl, fun base hK hG hT => ?_⟩
  · exact nomatch hc
  · exact nomatch hq
  · letI : Lab := { w := some w, T := [], gd := True }
    haveI : LabR := ⟨trivial⟩
    exact ok_law (mkTx rfl X G a0 l0 c0 k0 a1 l1 c1 k1 a2 l2 c2 k2 a3 l3 c3 k3 a4 l4 c4 k4 a5 l5 c5 k5 a6 l6 c6 k6 a7 l7 c7 k7 a8 l8 c8 k8 a9 l9 c9 k9 a10 l10 c10 k10 a11 l11 c11 k11 a12 l12 c12 k12 a13 l13 c13 k13 a14 l14 c14 k14 a15 l15 c15 k15 a16 l16 c16 k16 a17 l17 c17 k17 n_abs n_all n_bool n_divmod n_enumerate n_int n_isinstance n_len n_list n_max n_min n_range n_repr n_set n_sorted n_tuple c_MOST_COLUMNS c_MOST_RECORDS c_MOST_KEYS )
end DL
end L2
open PySem PySem.W PyProof.Rows
set_option maxHeartbeats 0 in
theorem PySem.Challenge.cw_sortcuts_k42_extreme_places_by_all_order_holds : PySem.Challenge.rw_sortcuts_k42_extreme_places_by_all_order.Holds := by
  w_on; o_law; k_head; (case hw => w_witness2)
  k_fill
  refine L2.DL.walk_g (l := PySem.Challenge.rw_sortcuts_k42_extreme_places_by_all_order) (n := 63) (k := 8) (x := "_law_script") (m := L2.DL.m_law) rfl (by decide) rfl ⟨rfl, by decide, by decide⟩ (fun w h Y => PySem.W.kIn_of Y) ?F (fun ns _ => L2.DL.law_spec ns)
  case F =>
    intro w mg fa h Y KX G hmg
    refine' L2.DL.all_mk KX G hmg ?a0 ?l0 ?c0 ?k0 ?a1 ?l1 ?c1 ?k1 ?a2 ?l2 ?c2 ?k2 ?a3 ?l3 ?c3 ?k3 ?a4 ?l4 ?c4 ?k4 ?a5 ?l5 ?c5 ?k5 ?a6 ?l6 ?c6 ?k6 ?a7 ?l7 ?c7 ?k7 ?a8 ?l8 ?c8 ?k8 ?a9 ?l9 ?c9 ?k9 ?a10 ?l10 ?c10 ?k10 ?a11 ?l11 ?c11 ?k11 ?a12 ?l12 ?c12 ?k12 ?a13 ?l13 ?c13 ?k13 ?a14 ?l14 ?c14 ?k14 ?a15 ?l15 ?c15 ?k15 ?a16 ?l16 ?c16 ?k16 ?a17 ?l17 ?c17 ?k17 ?n_abs ?n_all ?n_bool ?n_divmod ?n_enumerate ?n_int ?n_isinstance ?n_len ?n_list ?n_max ?n_min ?n_range ?n_repr ?n_set ?n_sorted ?n_tuple ?c_MOST_COLUMNS ?c_MOST_RECORDS ?c_MOST_KEYS
    (case a0 => k_is)
    (case l0 => k_is)
    (case c0 => k_is)
    (case k0 => k_is)
    (case a1 => k_is)
    (case l1 => k_is)
    (case c1 => k_is)
    (case k1 => k_is)
    (case a2 => k_is)
    (case l2 => k_is)
    (case c2 => k_is)
    (case k2 => k_is)
    (case a3 => k_is)
    (case l3 => k_is)
    (case c3 => k_is)
    (case k3 => k_is)
    (case a4 => k_is)
    (case l4 => k_is)
    (case c4 => k_is)
    (case k4 => k_is)
    (case a5 => k_is)
    (case l5 => k_is)
    (case c5 => k_is)
    (case k5 => k_is)
    (case a6 => k_is)
    (case l6 => k_is)
    (case c6 => k_is)
    (case k6 => k_is)
    (case a7 => k_is)
    (case l7 => k_is)
    (case c7 => k_is)
    (case k7 => k_is)
    (case a8 => k_is)
    (case l8 => k_is)
    (case c8 => k_is)
    (case k8 => k_is)
    (case a9 => k_is)
    (case l9 => k_is)
    (case c9 => k_is)
    (case k9 => k_is)
    (case a10 => k_is)
    (case l10 => k_is)
    (case c10 => k_is)
    (case k10 => k_is)
    (case a11 => k_is)
    (case l11 => k_is)
    (case c11 => k_is)
    (case k11 => k_is)
    (case a12 => k_is)
    (case l12 => k_is)
    (case c12 => k_is)
    (case k12 => k_is)
    (case a13 => k_is)
    (case l13 => k_is)
    (case c13 => k_is)
    (case k13 => k_is)
    (case a14 => k_is)
    (case l14 => k_is)
    (case c14 => k_is)
    (case k14 => k_is)
    (case a15 => k_is)
    (case l15 => k_is)
    (case c15 => k_is)
    (case k15 => k_is)
    (case a16 => k_is)
    (case l16 => k_is)
    (case c16 => k_is)
    (case k16 => k_is)
    (case a17 => k_is)
    (case l17 => k_is)
    (case c17 => k_is)
    (case k17 => k_is)
    (case n_abs => k_is)
    (case n_all => k_is)
    (case n_bool => k_is)
    (case n_divmod => k_is)
    (case n_enumerate => k_is)
    (case n_int => k_is)
    (case n_isinstance => k_is)
    (case n_len => k_is)
    (case n_list => k_is)
    (case n_max => k_is)
    (case n_min => k_is)
    (case n_range => k_is)
    (case n_repr => k_is)
    (case n_set => k_is)
    (case n_sorted => k_is)
    (case n_tuple => k_is)
    (case c_MOST_COLUMNS => (intro _; refine' L2.DL.cInt KX G ?q1; (case q1 => k_is)))
    (case c_MOST_RECORDS => (intro _; refine' L2.DL.cInt KX G ?q1; (case q1 => k_is)))
    (case c_MOST_KEYS => (intro _; refine' L2.DL.cInt KX G ?q1; (case q1 => k_is)))
